import PyProof.Rows.All
import Wide.All
import OpenK.AllK
import Wide.FinOn
import Lean
import PyProof.EqAt
import PyProof.EqKinds
import PyProof.TupleCall
import PyProof.NeData
import PySem.Challenge.RW_caseways_k45_choices_written
set_option Elab.async false
set_option linter.all false
set_option maxRecDepth 100000
namespace L2
open PySem PySem.Spec PyProof.Rows
abbrev Key := Sum Int Str
def uJ : Key → Value → Bool
 | .inl k, v => Value.isInt k v
 | .inr x, v => Value.isStrOf x v
def Vt (w : World) : Key → Int
 | .inl k => hashInt k
 | .inr x => hashStr w x
theorem cL : ∀ {k : Key} {v : Value}, uJ k v = true → (∃ i t, k = Sum.inl i ∧ v = Value.int i t) ∨ (∃ x t, k = Sum.inr x ∧ v = Value.str x t)
 | .inl i, v, h => by
  obtain ⟨t, e⟩ := Value.isInt_shape (k := i) (v := v) h
  exact .inl ⟨i, t, rfl, e⟩
 | .inr x, v, h => by
  obtain ⟨t, e⟩ := Value.isStrOf_shape (x := x) (v := v) h
  exact .inr ⟨x, t, rfl, e⟩
theorem Du (i : Int) (t : Tok) : uJ (.inl i) (.int i t) = true := by simp [uJ, Value.isInt]
theorem Dt (x : Str) (t : Tok) : uJ (.inr x) (.str x t) = true := by simp [uJ, Value.isStrOf]
theorem Sx (a b : Int) : decide ((Sum.inl a : Key) = Sum.inl b) = (a == b) := by
 by_cases e : a = b
 ·subst e; simp
 ·have h : ¬ (Sum.inl a : Key) = Sum.inl b := fun q => e (Sum.inl.inj q)
  rw [decide_eq_false h]
  exact (beq_eq_false_iff_ne.mpr e).symm
theorem Ss (a b : Str) : decide ((Sum.inr a : Key) = Sum.inr b) = decide (a = b) := by
 by_cases e : a = b
 ·subst e; simp
 ·have h : ¬ (Sum.inr a : Key) = Sum.inr b := fun q => e (Sum.inr.inj q)
  rw [decide_eq_false h, decide_eq_false e]
theorem Sw (a : Int) (b : Str) : decide ((Sum.inl a : Key) = Sum.inr b) = false := decide_eq_false (fun q => nomatch q)
theorem Sv (a : Str) (b : Int) : decide ((Sum.inr a : Key) = Sum.inl b) = false := decide_eq_false (fun q => nomatch q)
def cU (prog : Program) (w : World) : PySem.KeyKind prog w Key where
 is := uJ
 hash := Vt w
 inj := fun v a b ha hb => by
  rcases cL ha with ⟨i, t, rfl, rfl⟩ | ⟨x, t, rfl, rfl⟩
  ·rcases cL hb with ⟨j, u, rfl, e⟩ | ⟨y, u, rfl, e⟩
   ·injection e with e1 _; rw [e1]
   ·exact nomatch e
  ·rcases cL hb with ⟨j, u, rfl, e⟩ | ⟨y, u, rfl, e⟩
   ·exact nomatch e
   ·injection e with e1 _; rw [e1]
 byValue := fun k v h => by
  rcases cL h with ⟨i, t, rfl, rfl⟩ | ⟨x, t, rfl, rfl⟩ <;> rfl
 pyHash := fun hv h => by
  rcases cL hv with ⟨i, t, rfl, rfl⟩ | ⟨x, t, rfl, rfl⟩
  ·exact wpAny_pyHash_int h
  ·exact wpAny_pyHash_str h
 eqBool := fun hu hv h => by
  rcases cL hu with ⟨i, t, rfl, rfl⟩ | ⟨x, t, rfl, rfl⟩
  ·rcases cL hv with ⟨j, u, rfl, rfl⟩ | ⟨y, u, rfl, rfl⟩
   ·rw [Sx] at h; exact wpAny_eqBool_int h
   ·rw [Sw] at h; exact SeqAt.EqAt.int_str i t y u _ _ _ _ h
  ·rcases cL hv with ⟨j, u, rfl, rfl⟩ | ⟨y, u, rfl, rfl⟩
   ·rw [Sv] at h; exact SeqAt.EqAt.str_int x t j u _ _ _ _ h
   ·rw [Ss] at h; exact wpAny_eqBool_str h
 «strs» := fun k x t v h => by
  rcases cL h with ⟨i, u, rfl, e⟩ | ⟨y, u, rfl, e⟩
  ·exact nomatch e
  ·injection e with e1 _
   subst e1
   cases v <;> rfl
theorem xU (prog : Program) (w : World) (i : Int) (t : Tok) : (cU prog w).is (.inl i) (.int i t) = true := Du i t
theorem xT (prog : Program) (w : World) (x : Str) (t : Tok) : (cU prog w).is (.inr x) (.str x t) = true := Dt x t
inductive V where
 | non | bl (b : Bool) | int (i : Int) | str (x : Str) | byt (b : Array UInt8) | flt (b : UInt64) | ref (a : Addr) | ty (n : String)
 deriving DecidableEq
def RelV : V → Value → Prop
 | .non, u => u = Value.none
 | .bl b, u => u = Value.bool b
 | .int i, u => ∃ t, u = Value.int i t
 | .str x, u => ∃ t, u = Value.str x t
 | .byt b, u => ∃ t, u = Value.bytes b t
 | .flt b, u => ∃ t, u = Value.float b t
 | .ref a, u => u = Value.ref a
 | .ty n, u => u = Value.type n
abbrev Vals : List V → List Value → Prop := Paired RelV
theorem Vals.length {xs : List V} {us : List Value} (r : Vals xs us) : xs.length = us.length := Paired.length r
theorem Vals.get : ∀ {xs : List V} {us : List Value} {i : Nat} {x : V}, Vals xs us → xs[i]? = some x → ∃ u, us[i]? = some u ∧ RelV x u
 | _, _, _, _, .nil, e => by simp at e
 | _, _, 0, _, .cons r _, e => by simp at e; subst e; exact ⟨_, rfl, r⟩
 | _, _, i + 1, x, .cons _ t, e => by
  obtain ⟨u, h1, h2⟩ := Vals.get (i := i) (x := x) t (by simpa using e)
  exact ⟨u, by simpa using h1, h2⟩
theorem Vals.set {x : V} {u : Value} (r : RelV x u) : ∀ {xs : List V} {us : List Value} (i : Nat), Vals xs us → Vals (xs.set i x) (us.set i u)
 | _, _, _, .nil => .nil
 | _, _, 0, .cons _ t => .cons r t
 | _, _, i + 1, .cons q t => .cons q (Vals.set r i t)
theorem Vals.append : ∀ {xs ys : List V} {us ws : List Value}, Vals xs us → Vals ys ws → Vals (xs ++ ys) (us ++ ws)
 | _, _, _, _, .nil, s => s
 | _, _, _, _, .cons r t, s => .cons r (Vals.append t s)
theorem Vals.take : ∀ {xs : List V} {us : List Value} (n : Nat), Vals xs us → Vals (xs.take n) (us.take n)
 | _, _, 0, _ => .nil
 | _, _, _ + 1, .nil => .nil
 | _, _, n + 1, .cons r t => .cons r (Vals.take n t)
theorem Vals.drop : ∀ {xs : List V} {us : List Value} (n : Nat), Vals xs us → Vals (xs.drop n) (us.drop n)
 | _, _, 0, r => r
 | _, _, _ + 1, .nil => .nil
 | _, _, n + 1, .cons _ t => Vals.drop n t
theorem Vals.none_of : ∀ {xs : List V} {us : List Value} {i : Nat}, Vals xs us → xs[i]? = none → us[i]? = none := fun {xs us i} r e => by
 have h1 := r.length
 have h2 : xs.length ≤ i := List.getElem?_eq_none_iff.mp e
 exact List.getElem?_eq_none_iff.mpr (by omega)
def wD : Option V → Option Value → Prop
 | some v, some u => RelV v u
 | none, none => True
 | _, _ => False
def KV {κ : Type} : List (κ × V) → List (κ × Value) → Prop := Paired fun (p : κ × V) (q : κ × Value) => p.1 = q.1 ∧ RelV p.2 q.2
def kV : Key → V
 | .inl i => .int i
 | .inr x => .str x
inductive HO where
 /-- a list -/
 | lst (xs : List V)
 /-- a tuple (never changes) -/
 | tup (xs : List V)
 /-- a dict whose keys are ints and texts; one whose keys are tuples of ints and texts (the empty one is both) -/
 | dK (kvs : List (Key × V)) | dT (kvs : List (List Key × V))
 /-- a set of ints: its members, its size -/
 | set (S : Int → Bool) (n : Nat)
 /-- an instance of the class at C, its dict at dx, its attributes -/
 | ins (C dx : Addr) (fs : List (Str × V))
 /-- the dict of the instance at x -/
 | own (x : Addr)
 /-- the dict of an exception -/
 | xd (fs : List (Str × V))
 /-- a bound method, f of x -/
 | met (f x : Addr)
 /-- a range object lo, lo + 1, .. below hi -/
 | rng (lo hi : Int)
 /-- a thing that is known to the object (the script; a dict while a loop walks it): read, never written while it is so -/
 | frz (o : Obj) (u : HO)
 /-- a code object's table -/
 | tbl (ps : Array Value)
 /-- any other thing, by what is true of its one object (a def of one's own: SetO a S n := HO.ext fun h => ..) -/
 | ext (φ : Heap → Prop)
abbrev Hp := Addr → Option HO
def upd (H : Hp) (a : Addr) (o : HO) : Hp := fun b => if b = a then some o else H b
theorem aD {H : Hp} {a : Addr} {o : HO} : upd H a o a = some o := by unfold upd; rw [if_pos rfl]
theorem aH {H : Hp} {a b : Addr} {o : HO} (h : b ≠ a) : upd H a o b = H b := by unfold upd; rw [if_neg h]
theorem aK {H : Hp} {a b : Addr} {o : HO} (h : H a = some o) (h' : H b = none) : a ≠ b := by
 intro e; subst e; rw [h] at h'; cases h'
section
variable (P : Program) (w : World)
def cu (H : Hp) (h : Heap) (a : Addr) : HO → Prop
 | .lst xs => xs.length ≤ sizeLine ∧ ∃ (its : List Value) (n : Nat), Vals xs its ∧ h.get? a = some { cls := .type "list", data := .seq its.toArray n }
 | .tup xs => xs.length ≤ sizeLine ∧ ∃ its : List Value, Vals xs its ∧ IsTup h a its.toArray
 | .dK kvs => kvs.length ≤ sizeLine ∧ (a == sysModules) = false ∧ ∃ vs, KV kvs vs ∧ h.DictOf (cU P w) a vs
 | .dT kvs => kvs.length ≤ sizeLine ∧ (a == sysModules) = false ∧ ∃ xs : List (List Key × Addr × Value),
   Paired (fun (p : List Key × V) (q : List Key × Addr × Value) => p.1 = q.1 ∧ H q.2.1 = some (.tup (p.1.map kV)) ∧ RelV p.2 q.2.2) kvs xs ∧
   ∃ o es ep, h.get? a = some o ∧ o.ExactDict ∧ o.data = .dict es ep ∧ es.toList = xs.map (entryOfKey (tupleKind (cU P w))) ∧ (xs.map (·.1)).Nodup
 | .set S n => h.SetOf (intKind P w) a S n
 | .ins C dx fs => H dx = some (.own a) ∧ fs.length ≤ 1000 ∧ dx ≠ a ∧ h.get? a = some (PySem.W.instObj C dx) ∧
   ∃ mA, h.Ns1 dx mA ∧ (∀ f, wD (fs.lookup f) (mA f)) ∧ PySem.Within mA (fs.map (·.1))
 | .own _ => ∃ o, h.get? a = some o
 | .xd fs => ∃ mA, h.Ns1 a mA ∧ ∀ f, wD (fs.lookup f) (mA f)
 | .rng lo hi => ∃ t u v, h.get? a = some { cls := .type "range", data := .fields #[.int lo t, .int hi u, .int 1 v] }
 | .frz o u => h.get? a = some o ∧ cu H h a u
 | .tbl ps => h.get? a = some { cls := .none, data := .fields ps }
 | .met f x => h.get? a = some (PySem.W.methodObj (.ref f) (.ref x))
 | .ext φ => φ h ∧ (∃ o, h.get? a = some o) ∧ ∀ h1 h2 : Heap, φ h1 → (∀ o, h1.get? a = some o → h2.get? a = some o) → φ h2
def HOk (H : Hp) (h : Heap) : Prop := ∀ a o, H a = some o → cu P w H h a o
end
section
variable {P : Program} {w : World} {H H' : Hp} {h h' : Heap} {a : Addr} {o : HO}
theorem cu.lt (x : cu P w H h a o) : a < h.objs.size := by
 cases o with
 | lst xs => obtain ⟨_, _, _, _, e⟩ := x; exact Heap.lt_size e
 | tup xs => obtain ⟨_, _, _, p⟩ := x; exact p.lt
 | dK kvs => obtain ⟨_, _, _, _, o, _, _, e, _⟩ := x; exact Heap.lt_size e
 | dT kvs => obtain ⟨_, _, _, _, o, _, _, e, _⟩ := x; exact Heap.lt_size e
 | set S n => obtain ⟨o, _, _, _, e, _⟩ := x; exact Heap.lt_size e
 | ins C dx fs => obtain ⟨_, _, _, e, _⟩ := x; exact Heap.lt_size e
 | own y => obtain ⟨_, e⟩ := x; exact Heap.lt_size e
 | xd fs => obtain ⟨_, ⟨_, _, _, e, _⟩, _⟩ := x; exact Heap.lt_size e
 | rng lo hi => obtain ⟨_, _, _, e⟩ := x; exact Heap.lt_size e
 | frz ob u => obtain ⟨e, _⟩ := x; exact Heap.lt_size e
 | tbl ps => exact Heap.lt_size (show h.get? a = some _ from x)
 | met f y => exact Heap.lt_size (show h.get? a = some _ from x)
 | ext φ => obtain ⟨_, ⟨_, e⟩, _⟩ := x; exact Heap.lt_size e
theorem Paired.U0 {α β : Type} {F G : α → β → Prop} : ∀ {l₁ : List α} {l₂ : List β}, Paired F l₁ l₂ → (∀ a b, F a b → G a b) → Paired G l₁ l₂
 | _, _, .nil, _ => .nil
 | _, _, .cons r t, f => .cons (f _ _ r) (Paired.U0 t f)
theorem cu.stay (x : cu P w H h a o) (k : ∀ b u, (b = a ∨ H b = some (.own a)) → h.get? b = some u → h'.get? b = some u)
  (ho : ∀ b, H b = some (.own a) → H' b = some (.own a)) (ht : ∀ b xs, H b = some (.tup xs) → H' b = some (.tup xs)) : cu P w H' h' a o := by
 induction o with
 | lst xs => obtain ⟨z, its, n, r, e⟩ := x; exact ⟨z, its, n, r, k _ _ (.inl rfl) e⟩
 | tup xs => obtain ⟨z, its, r, ob, e, c⟩ := x; exact ⟨z, its, r, ob, k _ _ (.inl rfl) e, c⟩
 | dK kvs => obtain ⟨z, y, vs, r, ob, es, ep, e, c⟩ := x; exact ⟨z, y, vs, r, ob, es, ep, k _ _ (.inl rfl) e, c⟩
 | dT kvs =>
  obtain ⟨z, y, xs, r, ob, es, ep, e, c⟩ := x
  exact ⟨z, y, xs, Paired.U0 r fun p q z => ⟨z.1, ht _ _ z.2.1, z.2.2⟩, ob, es, ep, k _ _ (.inl rfl) e, c⟩
 | set S n => obtain ⟨ob, es, ep, t, e, c⟩ := x; exact ⟨ob, es, ep, t, k _ _ (.inl rfl) e, c⟩
 | ins C dx fs =>
  obtain ⟨d, z, ne, e, mA, ⟨od, es, ep, e2, c⟩, r⟩ := x
  exact ⟨ho _ d, z, ne, k _ _ (.inl rfl) e, mA, ⟨od, es, ep, k _ _ (.inr d) e2, c⟩, r⟩
 | own y => obtain ⟨ob, e⟩ := x; exact ⟨ob, k _ _ (.inl rfl) e⟩
 | xd fs => obtain ⟨mA, ⟨od, es, ep, e, c⟩, r⟩ := x; exact ⟨mA, ⟨od, es, ep, k _ _ (.inl rfl) e, c⟩, r⟩
 | rng lo hi => obtain ⟨t, u, v, e⟩ := x; exact ⟨t, u, v, k _ _ (.inl rfl) e⟩
 | frz ob u ih => obtain ⟨e, q⟩ := x; exact ⟨k _ _ (.inl rfl) e, ih q⟩
 | tbl ps =>
  have e : h.get? a = some { cls := .none, data := .fields ps } := x
  show h'.get? a = some { cls := .none, data := .fields ps }
  exact k a _ (.inl rfl) e
 | met f y =>
  have e : h.get? a = some (PySem.W.methodObj (.ref f) (.ref y)) := x
  show h'.get? a = some (PySem.W.methodObj (.ref f) (.ref y))
  exact k a _ (.inl rfl) e
 | ext φ => obtain ⟨p, ⟨o, e⟩, st⟩ := x; exact ⟨st _ _ p fun o q => k _ _ (.inl rfl) q, ⟨o, k _ _ (.inl rfl) e⟩, st⟩
theorem HOk.lt (x : HOk P w H h) (e : H a = some o) : a < h.objs.size := (x a o e).lt
theorem HOk.fresh (x : HOk P w H h) (e : h.objs.size ≤ a) : H a = none := by
 cases q : H a with
 | none => rfl
 | some u => exact absurd (Nat.lt_of_lt_of_le (x.lt q) e) (Nat.lt_irrefl _)
theorem HOk.kept (x : HOk P w H h) (k : ∀ b u, h.get? b = some u → h'.get? b = some u) : HOk P w H h' := fun a o e =>
 (x a o e).stay (fun b u _ q => k b u q) (fun _ q => q) fun _ _ q => q
theorem HOk.laid (x : HOk P w H h) (k : ∀ b u, h.get? b = some u → h'.get? b = some u) (hp : h.objs.size ≤ a) (new : cu P w (upd H a o) h' a o) : HOk P w (upd H a o) h' := fun b u e => by
 have hn := x.fresh hp
 by_cases hb : b = a
 ·subst hb; rw [aD] at e; cases e; exact new
 ·rw [aH hb] at e
  exact (x b u e).stay (fun c v _ q => k c v q) (fun c q => by rw [aH (aK q hn)]; exact q) fun c xs q => by rw [aH (aK q hn)]; exact q
end
def Rd (H : Hp) (a : Addr) (u : HO) : Prop := H a = some u ∨ ∃ o, H a = some (.frz o u)
theorem Rd.ok {P : Program} {w : World} {H : Hp} {h : Heap} {a : Addr} {u : HO} (r : Rd H a u) (x : HOk P w H h) : cu P w H h a u := by
 rcases r with r | ⟨o, r⟩
 ·exact x a u r
 ·obtain ⟨_, q⟩ := x a _ r
  exact q
def Mut : Option HO → Prop
 | some (.lst _) => True
 | some (.dK _) => True
 | some (.dT _) => True
 | some (.set _ _) => True
 | some (.ins _ _ _) => True
 | some (.ext _) => True
 | _ => False
section
variable {P : Program} {w : World} {H : Hp} {h h' : Heap} {x e : Addr} {o' : HO}
theorem HOk.write (ok : HOk P w H h) (mu : Mut (H x)) (he : e = x ∨ H e = some (.own x)) (k : ∀ b u, b ≠ e → h.get? b = some u → h'.get? b = some u) (heo : ∃ u, h'.get? e = some u)
  (new : cu P w (upd H x o') h' x o') : HOk P w (upd H x o') h' := fun b u q => by
 have nown : ∀ c y, H c = some (.own y) → c ≠ x := fun c y r z => by subst z; rw [r] at mu; exact mu
 have ntup : ∀ c xs, H c = some (.tup xs) → c ≠ x := fun c xs r z => by subst z; rw [r] at mu; exact mu
 by_cases hb : b = x
 ·subst hb; rw [aD] at q; cases q; exact new
 ·rw [aH hb] at q
  by_cases hbe : b = e
  ·have q' : H b = some (.own x) := by
    rcases he with z | z
    ·exact absurd (hbe.trans z) hb
    ·rw [hbe]; exact z
   rw [q] at q'; cases q'
   obtain ⟨v, hv⟩ := heo
   exact ⟨v, by rw [hbe]; exact hv⟩
  ·refine (ok b u q).stay (fun c v hc r => k c v ?_ r) (fun c r => by rw [aH (nown c b r)]; exact r) fun c xs r => by rw [aH (ntup c xs r)]; exact r
   rcases hc with rfl | hc
   ·exact hbe
   ·rintro rfl
    rcases he with z | z
    ·exact nown c b hc z
    ·rw [hc] at z; cases z; exact hb rfl
end
structure Un (fs ex : List Addr) (H H' : Hp) (h h' : Heap) : Prop where
 keep : ∀ b o, h.get? b = some o → H b = none → b ∉ fs → b ∉ ex → h'.get? b = some o
 slot : ∀ b o, h.get? b = some o → H b = none → b ∈ fs → b ∉ ex → ∃ sl, h'.get? b = some { o with slots := sl }
 free : ∀ b o, h.get? b = some o → H b = none → b ∉ ex → H' b = none
 there : ∀ b o, h.get? b = some o → b ∉ ex → ∃ o', h'.get? b = some o'
 tups : ∀ b xs, H b = some (.tup xs) → H' b = some (.tup xs)
 frzs : ∀ b o u, H b = some (.frz o u) → H' b = some (.frz o u)
 tbls : ∀ b ps, H b = some (.tbl ps) → ∃ more, H' b = some (.tbl (ps ++ more))
section
variable {fs fs' ex ex' : List Addr} {H H1 H2 : Hp} {h h1 h2 h' : Heap} {a x e : Addr} {o : HO}
theorem Un.any (u : Un fs ex H H1 h h1) {b : Addr} {ob : Obj} (q : h.get? b = some ob) (n : H b = none) (hx : b ∉ ex) : ∃ sl, h1.get? b = some { ob with slots := sl } := by
 by_cases hb : b ∈ fs
 ·exact u.slot b ob q n hb hx
 ·exact ⟨ob.slots, u.keep b ob q n hb hx⟩
theorem Un.kept (k : ∀ b u, h.get? b = some u → h'.get? b = some u) : Un fs ex H H h h' :=
 ⟨fun b ob q _ _ _ => k b ob q, fun b ob q _ _ _ => ⟨ob.slots, k b ob q⟩, fun _ _ _ n _ => n, fun b ob q _ => ⟨ob, k b ob q⟩, fun _ _ q => q, fun _ _ _ q => q, fun _ ps q => ⟨#[], by rw [q]; simp⟩⟩
theorem Un.refl : Un fs ex H H h h := Un.kept fun _ _ q => q
theorem Un.laid (k : ∀ b u, h.get? b = some u → h'.get? b = some u) (hp : h.objs.size ≤ a) (hn : H a = none) : Un fs ex H (upd H a o) h h' where
 keep := fun b u q _ _ _ => k b u q
 slot := fun b u q _ _ _ => ⟨u.slots, k b u q⟩
 free := fun b u q n _ => by rw [aH (Nat.ne_of_lt (Nat.lt_of_lt_of_le (Heap.lt_size q) hp))]; exact n
 there := fun b u q _ => ⟨u, k b u q⟩
 tups := fun b xs q => by rw [aH (aK q hn)]; exact q
 frzs := fun b u xs q => by rw [aH (aK q hn)]; exact q
 tbls := fun b ps q => ⟨#[], by rw [aH (aK q hn), q]; simp⟩
theorem Un.write (mu : Mut (H x)) (he : e = x ∨ H e = some (.own x)) (k : ∀ b u, b ≠ e → h.get? b = some u → h'.get? b = some u) (heo : ∃ u, h'.get? e = some u) : Un fs ex H (upd H x o) h h' := by
 have hx : ∀ b, H b = none → b ≠ x := fun b n z => by subst z; rw [n] at mu; exact mu
 have hb : ∀ b, H b = none → b ≠ e := fun b n z => by
  subst z
  rcases he with r | r
  ·exact hx b n r
  ·rw [n] at r; cases r
 have hm : ∀ b u, H b = some u → ¬ Mut (some u) → b ≠ x := fun b u q nm z => by subst z; rw [q] at mu; exact nm mu
 refine ⟨fun b u q n _ _ => k b u (hb b n) q, fun b u q n _ _ => ⟨u.slots, k b u (hb b n) q⟩, fun b u q n _ => by rw [aH (hx b n)]; exact n, fun b u q _ => ?_,
  fun b xs q => by rw [aH (hm b _ q fun z => z)]; exact q, fun b u xs q => by rw [aH (hm b _ q fun z => z)]; exact q, fun b ps q => ⟨#[], by rw [aH (hm b _ q fun z => z), q]; simp⟩⟩
 by_cases hbe : b = e
 ·subst hbe; exact heo
 ·exact ⟨u, k b u hbe q⟩
end
def trk (h : Heap) (H : Hp) : List Addr := (List.range h.objs.size).filter fun a => (H a).isSome
def vU (h : Heap) (H : Hp) : Heap := PySem.W.hideAll h (trk h H)
theorem DK (h : Heap) (H : Hp) : (vU h H).objs.size = h.objs.size := PySem.W.hideAll_size _ _
theorem Jf {h : Heap} {H : Hp} {b : Addr} {o : Obj} (e : h.get? b = some o) (n : H b = none) : (vU h H).get? b = some o :=
 PySem.W.hideAll_get _ e fun hm => by
  have q : (H b).isSome = true := (List.mem_filter.mp hm).2
  rw [n] at q; simp at q
theorem Nf {h : Heap} {H : Hp} {b : Addr} {o : Obj} (e : (vU h H).get? b = some o) : h.get? b = some o ∧ H b = none := by
 have e' : h.get? b = some o := PySem.W.of_hideAll (trk h H) e
 refine ⟨e', ?_⟩
 cases q : H b with
 | none => rfl
 | some x =>
  have hm : b ∈ trk h H := List.mem_filter.mpr ⟨List.mem_range.mpr (Heap.lt_size e'), by simp [q]⟩
  have z : (vU h H).get? b = none := PySem.W.hideAll_none (trk h H) hm
  rw [z] at e; cases e
structure Mod (K : PySem.W.Frag) (mg : Str → Option Value) (base : Heap) : Prop where
 kin : K.In base
 glob : base.Ns mainGlobals mg
 blt : ∃ mb, base.Ns builtinsNs mb ∧ ∀ x : Str, x ≠ "__name__" → mb x = bootBuiltins x
 nolimit : base.NoLimit
structure Cx where
 prog : Program
 w : World
 K : PySem.W.Frag
 mg : Str → Option Value
 base : Heap
 A : Around
 N : List Str
 s₀ : Shared
 H₀ : Hp
 env : Env
 outer : List Env
 stack : List Env
 ex : List Addr
 fn : Str → Bool
 calm : Bool
 pn : List (Addr × Obj)
 xe : Value → Shared → Prop
def frs (l : List Env) : List Addr := l.filterMap (·.frame)
abbrev Cx.fs (X : Cx) : List Addr := frs X.outer
def Vis (sc : Scope) (x : Str) : Prop := sc.names.lookup x = some .local ∨ sc.names.lookup x = some .cell ∨ sc.names.lookup x = some .free
def Loc (sc : Scope) (x : Str) : Prop := sc.names.lookup x = some .local ∨ sc.names.lookup x = some .cell
def Look (env : Env) (h : Heap) (m : Str → Option Value) (x : Str) (u : Value) : Prop :=
 (env.kindOf x = some .local ∧ m x = some u) ∨ ((env.kindOf x = some .cell ∨ env.kindOf x = some .free) ∧ ∃ c, env.cells.lookup x = some c ∧ h.IsCell c (some u))
structure Cx.Ok (X : Cx) : Prop where
 mod : Mod X.K X.mg X.base
 kind : X.env.scope.kind = .function
 glob : X.env.globals = mainGlobals
 blt : X.env.builtins = builtinsNs
 above : X.s₀.heap.objs.size ≤ X.env.locals
 inj : ∀ x y c, X.env.cells.lookup x = some c → X.env.cells.lookup y = some c → x = y
 has : ∀ x, (X.env.kindOf x = some .cell ∨ X.env.kindOf x = some .free) → ∃ c, X.env.cells.lookup x = some c
 cab : ∀ x c, X.fn x = true → X.env.cells.lookup x = some c → X.s₀.heap.objs.size ≤ c
 hd : X.calm = true → X.A.handled = none
 frames : X.A.frames = some X.stack
 stk : X.stack = X.outer ∨ (X.stack = X.env :: X.outer ∧ X.env.frame = some X.env.locals)
 exf : ∀ b ∈ X.ex, b ≠ X.env.locals ∧ ∀ x c, X.env.cells.lookup x = some c → c ≠ b
 bs : ∀ b o, X.base.get? b = some o → X.s₀.heap.get? b = some o ∧ X.H₀ b = none
 bsz : X.base.objs.size ≤ X.s₀.heap.objs.size
 noex : ∀ b o, X.base.get? b = some o → b ∉ X.ex
 exfs : ∀ b ∈ X.ex, b ∉ X.fs
 qe : X.s₀.heap.FunFrames X.base X.outer
 frf : ∀ b ∈ X.fs, X.H₀ b = none
structure Inv (X : Cx) (pins : List (Addr × Obj)) (σ : List (Option V)) (H : Hp) (s : Shared) : Prop where
 ok : X.Ok
 os : s.os = X.s₀.os
 bare : AllBare s.gens
 base : Un X.fs X.ex X.H₀ H X.s₀.heap s.heap
 loc : ∃ m, s.heap.Ns X.env.locals m ∧ ∀ (i : Nat) (x : Str) (v : V), X.N[i]? = some x → σ[i]? = some (some v) → Vis X.env.scope x → ∃ u, RelV v u ∧ Look X.env s.heap m x u
 cell : ∀ x c, X.env.cells.lookup x = some c → ∃ v, s.heap.IsCell c v
 free : H X.env.locals = none
 freeC : ∀ x c, X.env.cells.lookup x = some c → H c = none
 pin : ∀ p ∈ X.pn ++ pins, s.heap.get? p.1 = some p.2 ∧ H p.1 = none ∧ p.1 ≠ X.env.locals ∧ p.1 ∉ X.fs ∧ ∀ v, p.2.data ≠ .cell v
 hok : HOk X.prog X.w H s.heap
 len : σ.length = X.N.length
section
variable {X : Cx} {pins : List (Addr × Obj)} {σ : List (Option V)} {H H' : Hp} {s : Shared} {h' : Heap}
theorem Cx.Ok.Vq (ok : X.Ok) {b : Addr} {o : Obj} (e : X.base.get? b = some o) : b ∉ X.fs := fun hb => by
 have := (ok.qe.mem hb).1
 rw [e] at this; cases this
theorem Inv.bs (I : Inv X pins σ H s) : ∀ b o, X.base.get? b = some o → s.heap.get? b = some o ∧ H b = none := fun b o e =>
 ⟨I.base.keep b o (I.ok.bs b o e).1 (I.ok.bs b o e).2 (I.ok.Vq e) (I.ok.noex b o e), I.base.free b o (I.ok.bs b o e).1 (I.ok.bs b o e).2 (I.ok.noex b o e)⟩
theorem Inv.bk (I : Inv X pins σ H s) : ∀ b o, X.base.get? b = some o → s.heap.get? b = some o := fun b o e => (I.bs b o e).1
theorem Inv.mod (I : Inv X pins σ H s) : Mod X.K X.mg X.base := I.ok.mod
theorem Inv.kIn (I : Inv X pins σ H s) : X.K.In s.heap := I.ok.mod.kin.keeps I.bk
theorem Inv.lt (I : Inv X pins σ H s) : X.env.locals < s.heap.objs.size := let ⟨_, hn, _⟩ := I.loc; hn.lt
theorem Inv.sz (I : Inv X pins σ H s) : X.s₀.heap.objs.size ≤ s.heap.objs.size := Nat.le_trans I.ok.above (Nat.le_of_lt I.lt)
theorem Inv.R4 (I : Inv X pins σ H s) {a : Addr} (h : s.heap.objs.size ≤ a) : a ∉ X.fs := fun hb => by
 obtain ⟨_, o, ho, _⟩ := I.ok.qe.mem hb
 exact absurd (Nat.lt_of_lt_of_le (Heap.lt_size ho) (Nat.le_trans I.sz h)) (Nat.lt_irrefl _)
theorem Inv.cne (I : Inv X pins σ H s) : ∀ x c, X.env.cells.lookup x = some c → c ≠ X.env.locals := fun x c e z => by
 obtain ⟨v, o, ho, hd⟩ := I.cell x c e
 obtain ⟨m, ⟨o', es, ep, ho', hd', _⟩, _⟩ := I.loc
 rw [z, ho'] at ho; cases ho; rw [hd'] at hd; cases hd
theorem Inv.qe (I : Inv X pins σ H s) : s.heap.FunFrames X.base X.outer := by
 have all : ∀ (l : List Env), (∀ b ∈ frs l, b ∈ X.fs) → X.s₀.heap.FunFrames X.base l → s.heap.FunFrames X.base l := by
  intro l
  induction l with
  | nil => intro _ _; trivial
  | cons env r ih =>
   intro hs hl
   obtain ⟨hk, ⟨L, o, hf, hn, ho, hd⟩, hr⟩ := hl
   have hL : L ∈ X.fs := hs L (by unfold frs; rw [List.filterMap_cons, hf]; exact List.mem_cons_self)
   obtain ⟨sl, e⟩ := I.base.slot L o ho (I.ok.frf L hL) hL fun z => I.ok.exfs L z hL
   exact ⟨hk, ⟨L, _, hf, hn, e, hd⟩, ih (fun b hb => hs b (by unfold frs; rw [List.filterMap_cons, hf]; exact List.mem_cons_of_mem _ hb)) hr⟩
 exact all X.outer (fun _ hb => hb) I.ok.qe
theorem Inv.stack (I : Inv X pins σ H s) : s.heap.FunFrames X.base X.stack := by
 rcases I.ok.stk with e | ⟨e, hf⟩
 ·rw [e]; exact I.qe
 ·rw [e]
  obtain ⟨m, hn, _⟩ := I.loc
  refine .cons (by rw [I.ok.kind]; decide) hf hn ?_ I.qe
  exact Heap.get?_none_of_le (Nat.le_trans I.ok.bsz I.ok.above)
theorem Inv.qG (I : Inv X pins σ H s) : ∀ b ∈ frs X.stack, b ∈ X.env.locals :: X.fs := fun b hb => by
 rcases I.ok.stk with e | ⟨e, hf⟩
 ·rw [e] at hb; exact List.mem_cons_of_mem _ hb
 ·rw [e] at hb
  unfold frs at hb
  rw [List.filterMap_cons, hf] at hb
  exact hb
theorem Inv.zY (I : Inv X pins σ H s) : ∀ b ∈ frs X.stack, H b = none := fun b hb => by
 rcases List.mem_cons.mp (I.qG b hb) with e | hb
 ·rw [e]; exact I.free
 ·obtain ⟨_, o, ho, _⟩ := I.ok.qe.mem hb
  exact I.base.free b o ho (I.ok.frf b hb) fun z => I.ok.exfs b z hb
theorem Inv.step {g' : Array GenState} {t' : Nat} {d' : Drawn} {ch : List Addr} (I : Inv X pins σ H s)
  (hch : ∀ b ∈ ch, (b ∈ X.ex ∨ X.s₀.heap.objs.size ≤ b) ∧ b ≠ X.env.locals ∧ (∀ x c, X.env.cells.lookup x = some c → c ≠ b) ∧ ∀ p ∈ X.pn ++ pins, p.1 ≠ b)
  (keep : ∀ b o, b ≠ X.env.locals → b ∉ X.fs → b ∉ ch → s.heap.get? b = some o → H b = none → h'.get? b = some o)
  (slot : ∀ b o, b ≠ X.env.locals → b ∈ X.fs → b ∉ ch → s.heap.get? b = some o → H b = none → ∃ sl, h'.get? b = some { o with slots := sl }) (free : ∀ b o, b ∉ ch → s.heap.get? b = some o → H b = none → H' b = none)
  (there : ∀ b o, b ∉ ch → s.heap.get? b = some o → ∃ o', h'.get? b = some o')
  (tups : ∀ b xs, H b = some (.tup xs) → H' b = some (.tup xs)) (frzs : ∀ b o u, H b = some (.frz o u) → H' b = some (.frz o u)) (tbls : ∀ b ps, H b = some (.tbl ps) → ∃ more, H' b = some (.tbl (ps ++ more)))
  (ns : ∀ m, s.heap.Ns X.env.locals m → h'.Ns X.env.locals m) (hok : HOk X.prog X.w H' h') (hg : AllBare g') :
  Inv X pins σ H' { s with heap := h', gens := g', drawn := d', toks := t' } := by
 have neL : ∀ b o, X.s₀.heap.get? b = some o → b ≠ X.env.locals := fun b o e => Nat.ne_of_lt (Nat.lt_of_lt_of_le (Heap.lt_size e) I.ok.above)
 have neC : ∀ b o, X.s₀.heap.get? b = some o → b ∉ X.ex → b ∉ ch := fun b o e hx hb => by
  rcases (hch b hb).1 with z | z
  ·exact hx z
  ·exact absurd (Nat.lt_of_lt_of_le (Heap.lt_size e) z) (Nat.lt_irrefl _)
 have cellK : ∀ x c, X.env.cells.lookup x = some c → ∀ v, s.heap.IsCell c v → h'.IsCell c v := fun x c e v ⟨o, ho, hd⟩ => by
  have nch : c ∉ ch := fun z => (hch c z).2.2.1 x c e rfl
  by_cases hc : c ∈ X.fs
  ·obtain ⟨sl, q⟩ := slot c o (I.cne x c e) hc nch ho (I.freeC x c e)
   exact ⟨_, q, hd⟩
  ·exact ⟨o, keep c o (I.cne x c e) hc nch ho (I.freeC x c e), hd⟩
 refine ⟨I.ok, I.os, hg, ⟨fun b o e n hb hx => ?_, fun b o e n hb hx => ?_, fun b o e n hx => ?_, fun b o e hx => ?_, fun b xs e => tups b xs (I.base.tups b xs e), fun b o xs e => frzs b o xs (I.base.frzs b o xs e), fun b ps e => ?_⟩, ?_, fun x c e => ?_, ?_, fun x c e => ?_, fun p hp => ?_, hok, I.len⟩
 ·exact keep b o (neL b o e) hb (neC b o e hx) (I.base.keep b o e n hb hx) (I.base.free b o e n hx)
 ·obtain ⟨sl, e1⟩ := I.base.slot b o e n hb hx
  obtain ⟨sl', e2⟩ := slot b _ (neL b o e) hb (neC b o e hx) e1 (I.base.free b o e n hx)
  exact ⟨sl', e2⟩
 ·obtain ⟨o', e1⟩ := I.base.there b o e hx
  exact free b o' (neC b o e hx) e1 (I.base.free b o e n hx)
 ·obtain ⟨o', e1⟩ := I.base.there b o e hx
  exact there b o' (neC b o e hx) e1
 ·obtain ⟨m1, e1⟩ := I.base.tbls b ps e
  obtain ⟨m2, e2⟩ := tbls b _ e1
  exact ⟨m1 ++ m2, by rw [e2, Array.append_assoc]⟩
 ·obtain ⟨m, hn, hl⟩ := I.loc
  refine ⟨m, ns m hn, fun i x v e1 e2 e3 => ?_⟩
  obtain ⟨u, r, l⟩ := hl i x v e1 e2 e3
  refine ⟨u, r, ?_⟩
  rcases l with l | ⟨k, c, e, z⟩
  ·exact .inl l
  ·exact .inr ⟨k, c, e, cellK x c e _ z⟩
 ·obtain ⟨v, z⟩ := I.cell x c e
  exact ⟨v, cellK x c e v z⟩
 ·obtain ⟨m, ⟨o, _, _, ho, _⟩, _⟩ := I.loc
  exact free _ o (fun z => (hch _ z).2.1 rfl) ho I.free
 ·obtain ⟨v, o, ho, hd⟩ := I.cell x c e
  exact free c o (fun z => (hch c z).2.2.1 x c e rfl) ho (I.freeC x c e)
 ·obtain ⟨e, n, ne, nf, d⟩ := I.pin p hp
  have nch : p.1 ∉ ch := fun z => (hch p.1 z).2.2.2 p hp rfl
  exact ⟨keep p.1 p.2 ne nf nch e n, free p.1 p.2 nch e n, ne, nf, d⟩
theorem Inv.un {t' : Nat} (I : Inv X pins σ H s) (u : Un X.fs [] H H' s.heap h') (hok : HOk X.prog X.w H' h') : Inv X pins σ H' { s with heap := h', toks := t' } := by
 obtain ⟨m, ⟨o, es, ep, ho, r⟩, _⟩ := id I.loc
 obtain ⟨sl, hL⟩ := u.any ho I.free (by simp)
 exact I.step (g' := s.gens) (d' := s.drawn) (ch := []) (fun _ z => nomatch z) (fun b o _ hb _ e n => u.keep b o e n hb (by simp)) (fun b o _ hb _ e n => u.slot b o e n hb (by simp)) (fun b o _ e n => u.free b o e n (by simp)) (fun b o _ e => u.there b o e (by simp)) u.tups u.frzs u.tbls (fun m' hm => by
  obtain ⟨o', es', ep', ho', r'⟩ := hm
  rw [ho] at ho'; cases ho'
  exact ⟨_, es', ep', hL, r'⟩) hok I.bare
theorem Inv.call {g' : Array GenState} {t' : Nat} {d' : Drawn} {ch : List Addr} (I : Inv X pins σ H s) (u : Un (frs X.stack) ch H H' s.heap h') (hok : HOk X.prog X.w H' h') (hg : AllBare g')
  (hch : ∀ b ∈ ch, (b ∈ X.ex ∨ X.s₀.heap.objs.size ≤ b) ∧ b ≠ X.env.locals ∧ (∀ x c, X.env.cells.lookup x = some c → c ≠ b) ∧ ∀ p ∈ X.pn ++ pins, p.1 ≠ b) :
  Inv X pins σ H' { s with heap := h', gens := g', drawn := d', toks := t' } := by
 obtain ⟨m, ⟨o, es, ep, ho, r⟩, _⟩ := id I.loc
 obtain ⟨sl, hL⟩ := u.any ho I.free fun z => (hch _ z).2.1 rfl
 exact I.step (ch := ch) hch (fun b o hL hb hc e n => u.keep b o e n (fun z => (List.mem_cons.mp (I.qG b z)).elim hL hb) hc) (fun b o _ _ hc e n => u.any e n hc) (fun b o hc e n => u.free b o e n hc) (fun b o hc e => u.there b o e hc) u.tups u.frzs u.tbls (fun m' hm => by
  obtain ⟨o', es', ep', ho', r'⟩ := hm
  rw [ho] at ho'; cases ho'
  exact ⟨_, es', ep', hL, r'⟩) hok hg
theorem Inv.turned {t' : Nat} {it : Addr} (I : Inv X pins σ H s) (k : ∀ b o, b ≠ it → s.heap.get? b = some o → h'.get? b = some o) (hn : H it = none) (hL : it ≠ X.env.locals)
  (h1 : it ∈ X.ex ∨ X.s₀.heap.objs.size ≤ it) (h2 : ∀ x c, X.env.cells.lookup x = some c → c ≠ it) (h3 : ∀ p ∈ X.pn ++ pins, p.1 ≠ it) : Inv X pins σ H { s with heap := h', toks := t' } := by
 have nit : ∀ b u, H b = some u → b ≠ it := fun b u e z => by rw [z, hn] at e; cases e
 refine I.step (g' := s.gens) (d' := s.drawn) (ch := [it]) (fun b hb => ?_) (fun b o _ _ hc e _ => k b o (fun z => hc (by simp [z])) e) (fun b o _ _ hc e _ => ⟨o.slots, k b o (fun z => hc (by simp [z])) e⟩) (fun _ _ _ _ n => n)
  (fun b o hc e => ⟨o, k b o (fun z => hc (by simp [z])) e⟩) (fun _ _ e => e) (fun _ _ _ e => e) (fun b ps e => ⟨#[], by rw [e]; simp⟩) (fun m hm => ?_) (fun b u e => ?_) I.bare
 ·have e : b = it := by simpa using hb
  subst e
  exact ⟨h1, hL, h2, h3⟩
 ·obtain ⟨o, es, ep, ho, r⟩ := hm
  exact ⟨o, es, ep, k _ o (Ne.symm hL) ho, r⟩
 ·refine (I.hok b u e).stay (fun c v hc q => k c v ?_ q) (fun _ q => q) fun _ _ q => q
  rcases hc with z | z
  ·rw [z]; exact nit b u e
  ·exact nit c _ z
theorem Inv.tok (I : Inv X pins σ H s) (t : Nat) : Inv X pins σ H { s with toks := t } := I.un (h' := s.heap) (t' := t) Un.refl I.hok
theorem Inv.kept {t' : Nat} (I : Inv X pins σ H s) (k : ∀ b u, s.heap.get? b = some u → h'.get? b = some u) : Inv X pins σ H { s with heap := h', toks := t' } := I.un (Un.kept k) (I.hok.kept k)
theorem Inv.laid {a : Addr} {o : HO} {t' : Nat} (I : Inv X pins σ H s) (k : ∀ b u, s.heap.get? b = some u → h'.get? b = some u) (hp : s.heap.objs.size ≤ a) (new : cu X.prog X.w (upd H a o) h' a o) :
  Inv X pins σ (upd H a o) { s with heap := h', toks := t' } := I.un (Un.laid k hp (I.hok.fresh hp)) (I.hok.laid k hp new)
theorem Inv.write {x e : Addr} {o : HO} {t' : Nat} (I : Inv X pins σ H s) (mu : Mut (H x)) (he : e = x ∨ H e = some (.own x)) (k : ∀ b u, b ≠ e → s.heap.get? b = some u → h'.get? b = some u) (heo : ∃ u, h'.get? e = some u)
  (new : cu X.prog X.w (upd H x o) h' x o) : Inv X pins σ (upd H x o) { s with heap := h', toks := t' } := I.un (Un.write mu he k heo) (I.hok.write mu he k heo new)
theorem Inv.lF {pins' : List (Addr × Obj)} (I : Inv X pins σ H s) (h : ∀ p ∈ pins', s.heap.get? p.1 = some p.2 ∧ H p.1 = none ∧ p.1 ≠ X.env.locals ∧ p.1 ∉ X.fs ∧ ∀ v, p.2.data ≠ .cell v) : Inv X pins' σ H s :=
 ⟨I.ok, I.os, I.bare, I.base, I.loc, I.cell, I.free, I.freeC, fun p hp => (List.mem_append.mp hp).elim (fun z => I.pin p (List.mem_append_left _ z)) (h p), I.hok, I.len⟩
theorem xG {N : List Str} (hN : N.Nodup) {i j : Nat} {x : Str} (a : N[i]? = some x) (b : N[j]? = some x) : i = j := by
 obtain ⟨h1, e1⟩ := List.getElem?_eq_some_iff.mp a
 obtain ⟨h2, e2⟩ := List.getElem?_eq_some_iff.mp b
 exact (List.getElem_inj hN).mp (e1.trans e2.symm)
theorem ur {M : Model} {A : Around} {E : Value → Shared → Prop} {i : Nat} {x : Str} {v : V} {u : Value} {Q : Unit → Shared → Prop} (I : Inv X pins σ H s) (hN : X.N.Nodup) (hi : X.N[i]? = some x) (hx : Loc X.env.scope x) (r : RelV v u)
  (h : ∀ s', Inv X pins (σ.set i (some v)) H s' → (∃ a, Heap.SameBut a s.heap s'.heap ∧ (a = X.env.locals ∨ X.env.cells.lookup x = some a)) → Q () s') (hf : X.fn x = true ∨ X.env.scope.names.lookup x = some .local := by first | exact .inl rfl | exact .inr rfl | assumption) : wpAny M A (storeName X.env x u) Q E s := by
 obtain ⟨m, hn, hl⟩ := id I.loc
 have hcls : (X.env.scope.kind == .class || (X.env.scope.kind == .module && X.env.locals != X.env.globals)) = false := by rw [I.ok.kind]; rfl
 have hiσ : i < σ.length := by rw [I.len]; exact (List.getElem?_eq_some_iff.mp hi).1
 have cne := I.cne
 have tracked : ∀ {a : Addr} {h' : Heap}, (∃ o, s.heap.get? a = some o ∧ H a = none) → Heap.SameBut a s.heap h' → HOk X.prog X.w H h' := fun {a h'} ha hs b ob e => by
  obtain ⟨_, _, hfree⟩ := ha
  refine (I.hok b ob e).stay (fun c w' hc q => (hs.2 c ?_).trans q) (fun _ q => q) fun _ _ q => q
  rintro rfl
  rcases hc with rfl | hc
  ·rw [hfree] at e; cases e
  ·rw [hfree] at hc; cases hc
 rcases hx with hk | hk
 ·refine wpAny_storeName_local hk hn (fun h' hn' hs => ?_) hcls
  obtain ⟨oL, _, _, hoL, _⟩ := id hn
  refine h _ ⟨I.ok, I.os, I.bare, ⟨fun b o e n hb hx => ?_, fun b o e n hb hx => ?_, I.base.free, fun b o e hx => ?_, I.base.tups, I.base.frzs, I.base.tbls⟩, ⟨_, hn', fun j y v' e1 e2 e3 => ?_⟩, fun y c e => ?_, I.free, I.freeC, fun p hp => ?_, tracked ⟨oL, hoL, I.free⟩ hs, by simpa using I.len⟩ ⟨_, hs, .inl rfl⟩
  ·exact (hs.2 b (Nat.ne_of_lt (Nat.lt_of_lt_of_le (Heap.lt_size e) I.ok.above))).trans (I.base.keep b o e n hb hx)
  ·obtain ⟨sl, e1⟩ := I.base.slot b o e n hb hx
   exact ⟨sl, (hs.2 b (Nat.ne_of_lt (Nat.lt_of_lt_of_le (Heap.lt_size e) I.ok.above))).trans e1⟩
  ·obtain ⟨o', e1⟩ := I.base.there b o e hx
   exact ⟨o', (hs.2 b (Nat.ne_of_lt (Nat.lt_of_lt_of_le (Heap.lt_size e) I.ok.above))).trans e1⟩
  ·by_cases hj : j = i
   ·subst hj
    rw [hi] at e1; cases e1
    rw [List.getElem?_set_self hiσ] at e2
    cases e2
    exact ⟨u, r, .inl ⟨hk, by simp⟩⟩
   ·rw [List.getElem?_set_ne (Ne.symm hj)] at e2
    obtain ⟨u', r', q⟩ := hl j y v' e1 e2 e3
    refine ⟨u', r', ?_⟩
    rcases q with ⟨k, e⟩ | ⟨k, c, e, z⟩
    ·refine .inl ⟨k, ?_⟩
     have : y ≠ x := fun e => hj (xG hN e1 (e ▸ hi))
     simp [this, e]
    ·exact .inr ⟨k, c, e, z.sameBut hs (cne y c e)⟩
  ·obtain ⟨w', z⟩ := I.cell y c e
   exact ⟨w', z.sameBut hs (cne y c e)⟩
  ·obtain ⟨e, n, ne, nf, d⟩ := I.pin p hp
   exact ⟨(hs.2 p.1 ne).trans e, n, ne, nf, d⟩
 ·have hfn : X.fn x = true := by
   rcases hf with z | z
   ·exact z
   ·rw [z] at hk; cases hk
  obtain ⟨c, hc⟩ := I.ok.has x (.inl hk)
  obtain ⟨w', z⟩ := I.cell x c hc
  refine wpAny_storeName_cell I.ok.kind hk hc z (fun h' hc' hs => ?_)
  obtain ⟨oc, hoc, hocd⟩ := id z
  refine h { s with heap := h' } ⟨I.ok, I.os, I.bare, ⟨fun b o e n hb hx => ?_, fun b o e n hb hx => ?_, I.base.free, fun b o e hx => ?_, I.base.tups, I.base.frzs, I.base.tbls⟩, ⟨m, hn.sameBut hs (Ne.symm (cne x c hc)), fun j y v' e1 e2 e3 => ?_⟩, fun y c' e => ?_, I.free, I.freeC, fun p hp => ?_, tracked ⟨oc, hoc, I.freeC x c hc⟩ hs, by simpa using I.len⟩ ⟨c, hs, .inr hc⟩
  ·exact (hs.2 b (Nat.ne_of_lt (Nat.lt_of_lt_of_le (Heap.lt_size e) (I.ok.cab x c hfn hc)))).trans (I.base.keep b o e n hb hx)
  ·obtain ⟨sl, e1⟩ := I.base.slot b o e n hb hx
   exact ⟨sl, (hs.2 b (Nat.ne_of_lt (Nat.lt_of_lt_of_le (Heap.lt_size e) (I.ok.cab x c hfn hc)))).trans e1⟩
  ·obtain ⟨o', e1⟩ := I.base.there b o e hx
   exact ⟨o', (hs.2 b (Nat.ne_of_lt (Nat.lt_of_lt_of_le (Heap.lt_size e) (I.ok.cab x c hfn hc)))).trans e1⟩
  ·by_cases hj : j = i
   ·subst hj
    rw [hi] at e1; cases e1
    rw [List.getElem?_set_self hiσ] at e2
    cases e2
    exact ⟨u, r, .inr ⟨.inl hk, c, hc, hc'⟩⟩
   ·rw [List.getElem?_set_ne (Ne.symm hj)] at e2
    obtain ⟨u', r', q⟩ := hl j y v' e1 e2 e3
    refine ⟨u', r', ?_⟩
    rcases q with q | ⟨k, c', e, z'⟩
    ·exact .inl q
    ·refine .inr ⟨k, c', e, z'.sameBut hs ?_⟩
     rintro rfl
     exact hj (xG hN e1 (I.ok.inj _ _ _ e hc ▸ hi))
  ·by_cases hcc : c' = c
   ·subst hcc; exact ⟨_, hc'⟩
   ·obtain ⟨w2, z2⟩ := I.cell y c' e
    exact ⟨w2, z2.sameBut hs hcc⟩
  ·obtain ⟨e, n, ne, nf, d⟩ := I.pin p hp
   refine ⟨(hs.2 p.1 ?_).trans e, n, ne, nf, d⟩
   intro q
   rw [q, hoc] at e
   have q' : oc = p.2 := Option.some.inj e
   exact d w' (by rw [← q']; exact hocd)
theorem gB {M : Model} {A : Around} {E : Value → Shared → Prop} {i : Nat} {x : Str} {v : V} {u : Value} {Q : Unit → Shared → Prop} (I : Inv X pins σ H s) (hN : X.N.Nodup) (hi : X.N[i]? = some x) (hx : Loc X.env.scope x) (r : RelV v u)
  (h : ∀ s', Inv X pins (σ.set i (some v)) H s' → Q () s') (hf : X.fn x = true ∨ X.env.scope.names.lookup x = some .local := by first | exact .inl rfl | exact .inr rfl | assumption) : wpAny M A (storeName X.env x u) Q E s :=
 ur I hN hi hx r (fun s' I' _ => h s' I') hf
theorem Inv.call' {s' : Shared} {ch : List Addr} (I : Inv X pins σ H s) (ho : s'.os = s.os) (u : Un (frs X.stack) ch H H' s.heap s'.heap) (hok : HOk X.prog X.w H' s'.heap) (hg : AllBare s'.gens)
  (hch : ∀ b ∈ ch, (b ∈ X.ex ∨ X.s₀.heap.objs.size ≤ b) ∧ b ≠ X.env.locals ∧ (∀ x c, X.env.cells.lookup x = some c → c ≠ b) ∧ ∀ p ∈ X.pn ++ pins, p.1 ≠ b) : Inv X pins σ H' s' := by
 obtain ⟨h', g', d', t', o'⟩ := s'
 have e : o' = s.os := ho
 subst e
 exact I.call (g' := g') (t' := t') (d' := d') u hok hg hch
end
abbrev XK := Value → Option Addr → Hp → Prop
abbrev St := List (Option V)
abbrev VK := V → Hp → Prop
abbrev TE := St → Hp → VK → Prop
abbrev TT := St → Hp → (Bool → Hp → Prop) → Prop
abbrev TA := St → Hp → (List V → Hp → Prop) → Prop
structure Ends where
 nx : St → Hp → Prop
 rt : VK
 bk : St → Hp → Prop := fun _ _ => False
 ct : St → Hp → Prop := fun _ _ => False
abbrev TS := Ends → St → Hp → Prop
def EP (X : Cx) (pins : List (Addr × Obj)) (σ : St) (Q : VK) (u : Value) (s' : Shared) : Prop := ∃ v H', Inv X pins σ H' s' ∧ RelV v u ∧ Q v H'
def TP (X : Cx) (pins : List (Addr × Obj)) (σ : St) (Q : Bool → Hp → Prop) (b : Bool) (s' : Shared) : Prop := ∃ H', Inv X pins σ H' s' ∧ Q b H'
def AP (X : Cx) (pins : List (Addr × Obj)) (σ : St) (Q : List V → Hp → Prop) (us : List Value) (s' : Shared) : Prop := ∃ vs H', Inv X pins σ H' s' ∧ Vals vs us ∧ Q vs H'
def SP (X : Cx) (pins : List (Addr × Obj)) (D : Ends) (f : Flow) (s' : Shared) : Prop :=
 match f with
 | .next => ∃ σ' H', Inv X pins σ' H' s' ∧ D.nx σ' H'
 | .brk => ∃ σ' H', Inv X pins σ' H' s' ∧ D.bk σ' H'
 | .cont => ∃ σ' H', Inv X pins σ' H' s' ∧ D.ct σ' H'
 | .ret u => ∃ v σ' H', Inv X pins σ' H' s' ∧ RelV v u ∧ D.rt v H'
def PE (X : Cx) (e : Expr) (t : TE) : Prop :=
 ∀ (pins : List (Addr × Obj)) (s : Shared) (σ : St) (H : Hp) (Q : VK), Inv X pins σ H s → t σ H Q → wpAny (model X.prog X.w) X.A (eval e X.env) (EP X pins σ Q) X.xe s
def PT (X : Cx) (e : Expr) (t : TT) : Prop :=
 ∀ (pins : List (Addr × Obj)) (s : Shared) (σ : St) (H : Hp) (Q : Bool → Hp → Prop), Inv X pins σ H s → t σ H Q → wpAny (model X.prog X.w) X.A (isTrue e X.env (eval e X.env)) (TP X pins σ Q) X.xe s
def PW (X : Cx) (e : Expr) (t : TT) : Prop :=
 ∀ (whole : Sem Value) (pins : List (Addr × Obj)) (s : Shared) (σ : St) (H : Hp) (Q : Bool → Hp → Prop), Inv X pins σ H s → t σ H Q → wpAny (model X.prog X.w) X.A (isTrue e X.env whole) (TP X pins σ Q) X.xe s
theorem PW.pt {X : Cx} {e : Expr} {t : TT} (h : PW X e t) : PT X e t := h _
def PA (X : Cx) (es : List Expr) (t : TA) : Prop :=
 ∀ (pos : Pos) (pins : List (Addr × Obj)) (s : Shared) (σ : St) (H : Hp) (Q : List V → Hp → Prop), Inv X pins σ H s → t σ H Q → wpAny (model X.prog X.w) X.A (spliced (backTo pos (starEach es X.env))) (AP X pins σ Q) X.xe s
def PS (X : Cx) (st : Stmt) (t : TS) : Prop :=
 ∀ (pins : List (Addr × Obj)) (s : Shared) (σ : St) (H : Hp) (D : Ends), Inv X pins σ H s → t D σ H → wpAny (model X.prog X.w) X.A (exec st X.env) (SP X pins D) X.xe s
def PSs (X : Cx) (st : List Stmt) (t : TS) : Prop :=
 ∀ (pins : List (Addr × Obj)) (s : Shared) (σ : St) (H : Hp) (D : Ends), Inv X pins σ H s → t D σ H → wpAny (model X.prog X.w) X.A (execs st X.env) (SP X pins D) X.xe s
theorem thn {α : Type} {t : Sem α} {Q Q' : α → Shared → Prop} {M : Model} {A : Around} {E : Value → Shared → Prop} {s : Shared} (h : wpAny M A t Q E s) (hQ : ∀ a s, Q a s → Q' a s) : wpAny M A t Q' E s := wpAny_mono h hQ fun _ _ x => x
theorem thE {t : Sem Value} {X : Cx} {pins : List (Addr × Obj)} {σ : St} {Q : VK} {Q' : Value → Shared → Prop} {M : Model} {A : Around} {E : Value → Shared → Prop} {s : Shared} (h : wpAny M A t (EP X pins σ Q) E s) (hQ : ∀ u s x H, Inv X pins σ H s → RelV x u → Q x H → Q' u s) : wpAny M A t Q' E s := thn h fun u s z => by
 obtain ⟨x, H, I, r, q⟩ := z
 exact hQ u s x H I r q
theorem thA {t : Sem (List Value)} {X : Cx} {pins : List (Addr × Obj)} {σ : St} {Q : List V → Hp → Prop} {Q' : List Value → Shared → Prop} {M : Model} {A : Around} {E : Value → Shared → Prop} {s : Shared} (h : wpAny M A t (AP X pins σ Q) E s) (hQ : ∀ u s x H, Inv X pins σ H s → Vals x u → Q x H → Q' u s) : wpAny M A t Q' E s := thn h fun u s z => by
 obtain ⟨x, H, I, r, q⟩ := z
 exact hQ u s x H I r q
theorem thT {t : Sem Bool} {X : Cx} {pins : List (Addr × Obj)} {σ : St} {Q : Bool → Hp → Prop} {Q' : Bool → Shared → Prop} {M : Model} {A : Around} {E : Value → Shared → Prop} {s : Shared} (h : wpAny M A t (TP X pins σ Q) E s) (hQ : ∀ u s H, Inv X pins σ H s → Q u H → Q' u s) : wpAny M A t Q' E s := thn h fun u s z => by
 obtain ⟨H, I, q⟩ := z
 exact hQ u s H I q
section
variable {X : Cx}
def jl (i : Nat) : TE := fun σ H Q => ∃ v, σ[i]? = some (some v) ∧ Q v H
def tC (v : V) : TE := fun _ H Q => Q v H
theorem Hj {i : Nat} {x : Str} {pos : Pos} (hN : X.N[i]? = some x) (hv : Vis X.env.scope x) (hd : (x == ("__debug__" : Str)) = false := by decide) (hcd : (x == ("__classdict__" : Str)) = false := by decide) : PE X (.Name x pos) (jl i) := by
 intro pins s σ H Q I h
 obtain ⟨v, e, h⟩ := h
 obtain ⟨m, hn, hl⟩ := I.loc
 obtain ⟨u, r, l⟩ := hl i x v hN e hv
 have fin : EP X pins σ Q u s := ⟨v, H, I, r, h⟩
 rcases l with ⟨hk, hm⟩ | ⟨hk, c, hc, hcell⟩
 ·exact wpAny_Name (wpAny_loadName_local I.ok.kind hk hn hm fin) hd
 ·rcases hk with hk | hk
  ·exact wpAny_Name (wpAny_loadName_cell I.ok.kind hk hc hcell fin) hd
  ·exact wpAny_Name (wpAny_loadName_free I.ok.kind hk hc hcell fin hcd) hd
theorem RJ {i j pos} : PE X (.Constant (.int i) j pos) (tC (.int i)) := fun _ _ _ H _ I h => wpAny_Constant_int ⟨.int i, H, I.tok _, ⟨_, rfl⟩, h⟩
theorem Uw {b j pos} : PE X (.Constant (.bool b) j pos) (tC (.bl b)) := fun _ _ _ H _ I h => Constant_bool ⟨.bl b, H, I, rfl, h⟩
theorem RD {j pos} : PE X (.Constant .none j pos) (tC .non) := fun _ _ _ H _ I h => Constant_none ⟨.non, H, I, rfl, h⟩
theorem Ry {x j pos} : PE X (.Constant (.str x) j pos) (tC (.str x)) := fun _ _ _ H _ I h => Calls.Constant_str ⟨.str x, H, I.tok _, ⟨_, rfl⟩, h⟩
def Gl (X : Cx) (x : Str) : Prop := X.env.kindOf x = some .globalImplicit
theorem Bc {E : Value → Shared → Prop} {pins : List (Addr × Obj)} {s : Shared} {σ : St} {H : Hp} {x : Str} {u : Value} {pos : Pos} {Q : Value → Shared → Prop} (I : Inv X pins σ H s) (hg : Gl X x) (hm : X.mg x = some u) (h : Q u s)
  (hd : (x == ("__debug__" : Str)) = false := by decide) : wpAny (model X.prog X.w) X.A (eval (.Name x pos) X.env) Q E s :=
 Calls.Name_function_global I.ok.kind hg (Calls.loadGlobal_global (by rw [I.ok.glob]; exact I.mod.glob.keeps I.bk) hm h) hd
theorem oU {E : Value → Shared → Prop} {pins : List (Addr × Obj)} {s : Shared} {σ : St} {H : Hp} {x : Str} {u : Value} {pos : Pos} {Q : Value → Shared → Prop} (I : Inv X pins σ H s) (hg : Gl X x) (hm : X.mg x = none) (hv : bootBuiltins x = some u) (h : Q u s)
  (hn : x ≠ "__name__" := by decide) (hd : (x == ("__debug__" : Str)) = false := by decide) : wpAny (model X.prog X.w) X.A (eval (.Name x pos) X.env) Q E s := by
 obtain ⟨mb, h1, h2⟩ := I.mod.blt
 exact Calls.Name_function_global I.ok.kind hg (Calls.loadGlobal_builtin (by rw [I.ok.glob]; exact I.mod.glob.keeps I.bk) hm (by rw [I.ok.blt]; exact h1.keeps I.bk) ((h2 x hn).trans hv) h) hd
theorem Mv {x : Str} {v : V} {u : Value} {pos : Pos} (hg : Gl X x) (hm : X.mg x = some u) (r : RelV v u) (hd : (x == ("__debug__" : Str)) = false := by decide) : PE X (.Name x pos) (tC v) :=
 fun _ _ _ H _ I h => Bc I hg hm ⟨v, H, I, r, h⟩ hd
theorem MK {x : Str} {v : V} {u : Value} {pos : Pos} (hg : Gl X x) (hm : X.mg x = none) (hv : bootBuiltins x = some u) (r : RelV v u) (hn : x ≠ "__name__" := by decide) (hd : (x == ("__debug__" : Str)) = false := by decide) : PE X (.Name x pos) (tC v) :=
 fun _ _ _ H _ I h => oU I hg hm hv ⟨v, H, I, r, h⟩ hn hd
variable {a b : Expr} {ta tb : TE} {pos : Pos}
def tB (t : TE) : TT := fun σ H Q => t σ H fun x H1 => ∃ c, x = .bl c ∧ Q c H1
theorem Rj {e : Expr} {t : TE} (h : PE X e t) (he : ∀ whole, isTrue e X.env whole = (do let v ← whole; standAt e.pos; holding [v] (truthy v)) := by intro _; rfl) : PT X e (tB t) := by
 intro pins s σ H Q I hw
 refine isTrue_plain (thE (h pins s σ H _ I hw) fun v s1 x H1 I1 r1 q1 => ?_) (he _)
 obtain ⟨d, rfl, q⟩ := q1
 cases r1
 exact wpAny_truthy_bool ⟨H1, I1, q⟩
variable {tA tB' : TT} {rest : List Expr}
def Qw (t u : TT) : TT := fun σ H Q => t σ H fun c H1 => if c = true then u σ H1 Q else Q false H1
def tOr (t u : TT) : TT := fun σ H Q => t σ H fun c H1 => if c = true then Q true H1 else u σ H1 Q
def Qm (t : TT) : TT := fun σ H Q => t σ H fun c H1 => Q (!c) H1
theorem Ly (ha : PT X a tA) : PW X (.BoolOp .And [a] pos) tA := by
 intro wh pins s σ H Q I h
 refine isTrue_and (thn (ha pins s σ H Q I h) fun c s1 e => ?_)
 cases c with
 | true => exact isTrue_and_nil e
 | false => exact e
theorem Rh (ha : PT X a tA) : PW X (.BoolOp .Or [a] pos) tA := by
 intro wh pins s σ H Q I h
 refine isTrue_or (thn (ha pins s σ H Q I h) fun c s1 e => ?_)
 cases c with
 | false => exact isTrue_or_nil e
 | true => exact e
theorem Ri (ha : PT X a tA) (hb : PW X (.BoolOp .And (b :: rest) pos) tB') : PW X (.BoolOp .And (a :: b :: rest) pos) (Qw tA tB') := by
 intro wh pins s σ H Q I h
 refine isTrue_and (thT (ha pins s σ H _ I h) fun c s1 H1 I1 q1 => ?_)
 cases c with
 | true => exact hb wh pins s1 σ H1 Q I1 q1
 | false => exact ⟨H1, I1, q1⟩
theorem Ug (ha : PT X a tA) (hb : PW X (.BoolOp .Or (b :: rest) pos) tB') : PW X (.BoolOp .Or (a :: b :: rest) pos) (tOr tA tB') := by
 intro wh pins s σ H Q I h
 refine isTrue_or (thT (ha pins s σ H _ I h) fun c s1 H1 I1 q1 => ?_)
 cases c with
 | true => exact ⟨H1, I1, q1⟩
 | false => exact hb wh pins s1 σ H1 Q I1 q1
theorem Rk (ha : PT X a tA) : PT X (.UnaryOp .Not a pos) (Qm tA) := by
 intro pins s σ H Q I h
 exact isTrue_not (ha pins s σ H (fun c H1 => Q (!c) H1) I h)
def Fx (ta tb : TE) : TE := fun σ H Q => ta σ H fun x H1 => ∃ c, x = .bl c ∧ if c = true then tb σ H1 Q else Q (.bl false) H1
def Vf (ta tb : TE) : TE := fun σ H Q => ta σ H fun x H1 => ∃ c, x = .bl c ∧ if c = true then Q (.bl true) H1 else tb σ H1 Q
def Fo (ta : TE) : TE := fun σ H Q => ta σ H fun x H1 => ∃ c, x = .bl c ∧ Q (.bl (!c)) H1
theorem Rz {op} {t : TE} (h : PE X a t) : PE X (.BoolOp op [a] pos) t := fun pins s σ H Q I hw => BoolOp_one (h pins s σ H Q I hw)
theorem RL (ha : PE X a ta) (hb : PE X (.BoolOp .And (b :: rest) pos) tb) : PE X (.BoolOp .And (a :: b :: rest) pos) (Fx ta tb) := by
 intro pins s σ H Q I h
 refine BoolOp_and (thE (ha pins s σ H _ I h) fun v s1 x H1 I1 r1 q1 => ?_)
 obtain ⟨c, rfl, q1⟩ := q1
 cases r1
 refine wpAny_truthy_bool ?_
 cases c with
 | true => exact hb pins s1 σ H1 Q I1 q1
 | false => exact ⟨.bl false, H1, I1, rfl, q1⟩
theorem RB (ha : PE X a ta) : PE X (.UnaryOp .Not a pos) (Fo ta) := by
 intro pins s σ H Q I h
 refine UnaryOp_ (thE (ha pins s σ H _ I h) fun v s1 x H1 I1 r1 q1 => ?_)
 obtain ⟨c, rfl, q1⟩ := q1
 cases r1
 exact not_of (wpAny_truthy_bool ⟨.bl (!c), H1, I1, rfl, q1⟩)
def tIf (t : TT) (ta tb : TE) : TE := fun σ H Q => t σ H fun c H1 => if c = true then ta σ H1 Q else tb σ H1 Q
theorem Ho {c : Expr} (hc : PT X c tA) (ha : PE X a ta) (hb : PE X b tb) : PE X (.IfExp c a b pos) (tIf tA ta tb) := by
 intro pins s σ H Q I h
 refine wpAny_IfExp (thT (hc pins s σ H _ I h) fun d s1 H1 I1 q1 => ?_)
 cases d with
 | true => exact ha pins s1 σ H1 Q I1 q1
 | false => exact hb pins s1 σ H1 Q I1 q1
end
def SqL (K : PySem.W.Frag) (H : Hp) (a : Addr) (xs : List V) : Prop :=
 Rd H a (.lst xs) ∨
  ∃ (o : Obj) (its : Array Value) (n : Nat), K.lookup a = some o ∧ o.cls = .type "list" ∧ o.dict = none ∧ o.data = .seq its n ∧ its.size ≤ sizeLine ∧ Vals xs its.toList
def SqT (K : PySem.W.Frag) (H : Hp) (a : Addr) (xs : List V) : Prop :=
 Rd H a (.tup xs) ∨
  ∃ (o : Obj) (its : Array Value) (n : Nat), K.lookup a = some o ∧ o.cls = .type "tuple" ∧ o.data = .seq its n ∧ its.size ≤ sizeLine ∧ Vals xs its.toList
def Vw : Value → Option V
 | .none => some .non
 | .bool b => some (.bl b)
 | .int i _ => some (.int i)
 | .str x _ => some (.str x)
 | .bytes b _ => some (.byt b)
 | .float b _ => some (.flt b)
 | .ref a => some (.ref a)
 | .type n => some (.ty n)
 | _ => none
theorem RelV.abs {x : V} {u : Value} (r : RelV x u) : Vw u = some x := by
 cases x with
 | non => cases r; rfl
 | bl _ => cases r; rfl
 | int _ => obtain ⟨t, rfl⟩ := r; rfl
 | str _ => obtain ⟨t, rfl⟩ := r; rfl
 | byt _ => obtain ⟨t, rfl⟩ := r; rfl
 | flt _ => obtain ⟨t, rfl⟩ := r; rfl
 | ref _ => cases r; rfl
 | ty _ => cases r; rfl
theorem RelV.inj {x y : V} {u : Value} (r : RelV x u) (q : RelV y u) : x = y := Option.some.inj (r.abs.symm.trans q.abs)
theorem Vals.inj : ∀ {xs ys : List V} {us : List Value}, Vals xs us → Vals ys us → xs = ys
 | _, _, _, .nil, .nil => rfl
 | _, _, _, .cons r t, .cons r' t' => by rw [r.inj r', Vals.inj t t']
section
variable {X : Cx} {pins : List (Addr × Obj)} {σ : St} {H : Hp} {s : Shared} {a : Addr} {xs ys : List V}
theorem SqL.of {K : PySem.W.Frag} (h : H a = some (.lst xs)) : SqL K H a xs := .inl (.inl h)
theorem SqT.of {K : PySem.W.Frag} (h : H a = some (.tup xs)) : SqT K H a xs := .inl (.inl h)
theorem Inv.list (I : Inv X pins σ H s) (h : SqL X.K H a xs) : ∃ its : List Value, Vals xs its ∧ PlainL s.heap a its.toArray ∧ xs.length ≤ sizeLine := by
 rcases h with h | ⟨o, its, n, hk, hc, hd, hs, hz, r⟩
 ·obtain ⟨z, its, n, r, e⟩ := h.ok I.hok
  exact ⟨its, r, ⟨_, n, e, rfl, rfl, rfl⟩, z⟩
 ·refine ⟨its.toList, r, ⟨o, n, I.kIn a o hk, hc, hd, by simpa using hs⟩, ?_⟩
  have e := r.length
  simp only [Array.length_toList] at e
  omega
theorem Inv.tuple (I : Inv X pins σ H s) (h : SqT X.K H a xs) : ∃ its : List Value, Vals xs its ∧ IsTup s.heap a its.toArray ∧ xs.length ≤ sizeLine := by
 rcases h with h | ⟨o, its, n, hk, hc, hs, hz, r⟩
 ·obtain ⟨z, its, r, p⟩ := h.ok I.hok
  exact ⟨its, r, p, z⟩
 ·refine ⟨its.toList, r, ⟨o, I.kIn a o hk, hc, n, by simpa using hs⟩, ?_⟩
  have e := r.length
  simp only [Array.length_toList] at e
  omega
theorem Inv.nu (I : Inv X pins σ H s) (h : SqL X.K H a xs) (h' : SqL X.K H a ys) : xs = ys := by
 obtain ⟨its, r, ⟨o, n, e, _, _, d⟩, _⟩ := I.list h
 obtain ⟨its', r', ⟨o', n', e', _, _, d'⟩, _⟩ := I.list h'
 rw [e] at e'; cases e'
 rw [d] at d'
 injection d' with d1 _
 have : its = its' := by simpa using congrArg Array.toList d1
 subst this
 exact r.inj r'
theorem Inv.nZ (I : Inv X pins σ H s) (h : SqT X.K H a xs) (h' : SqT X.K H a ys) : xs = ys := by
 obtain ⟨its, r, ⟨o, e, _, n, d⟩, _⟩ := I.tuple h
 obtain ⟨its', r', ⟨o', e', _, n', d'⟩, _⟩ := I.tuple h'
 rw [e] at e'; cases e'
 rw [d] at d'
 injection d' with d1 _
 have : its = its' := by simpa using congrArg Array.toList d1
 subst this
 exact r.inj r'
end
abbrev Cx.wish (X : Cx) (E : Value → Shared → Prop) : Cx := { X with xe := E }
abbrev Cx.nox (X : Cx) : Cx := X.wish fun _ _ => False
theorem Cx.Ok.wish {X : Cx} (ok : X.Ok) (E : Value → Shared → Prop) : (X.wish E).Ok :=
 ⟨ok.mod, ok.kind, ok.glob, ok.blt, ok.above, ok.inj, ok.has, ok.cab, ok.hd, ok.frames, ok.stk, ok.exf, ok.bs, ok.bsz, ok.noex, ok.exfs, ok.qe, ok.frf⟩
theorem Cx.Ok.jL {X : Cx} {E : Value → Shared → Prop} (ok : (X.wish E).Ok) : X.Ok :=
 ⟨ok.mod, ok.kind, ok.glob, ok.blt, ok.above, ok.inj, ok.has, ok.cab, ok.hd, ok.frames, ok.stk, ok.exf, ok.bs, ok.bsz, ok.noex, ok.exfs, ok.qe, ok.frf⟩
section
variable {X : Cx} {pins : List (Addr × Obj)} {σ : St} {H : Hp} {s : Shared} {E : Value → Shared → Prop}
theorem Inv.wish (I : Inv X pins σ H s) (E : Value → Shared → Prop) : Inv (X.wish E) pins σ H s := ⟨I.ok.wish E, I.os, I.bare, I.base, I.loc, I.cell, I.free, I.freeC, I.pin, I.hok, I.len⟩
theorem Inv.jL (I : Inv (X.wish E) pins σ H s) : Inv X pins σ H s := ⟨I.ok.jL, I.os, I.bare, I.base, I.loc, I.cell, I.free, I.freeC, I.pin, I.hok, I.len⟩
theorem SP.jL {D : Ends} {f : Flow} {s' : Shared} (h : SP (X.wish E) pins D f s') : SP X pins D f s' := by
 cases f with
 | next => obtain ⟨σ', H', I, q⟩ := h; exact ⟨σ', H', I.jL, q⟩
 | brk => obtain ⟨σ', H', I, q⟩ := h; exact ⟨σ', H', I.jL, q⟩
 | cont => obtain ⟨σ', H', I, q⟩ := h; exact ⟨σ', H', I.jL, q⟩
 | ret u => obtain ⟨v, σ', H', I, r, q⟩ := h; exact ⟨v, σ', H', I.jL, r, q⟩
theorem PSs.nox {st : List Stmt} {t : TS} (h : PSs X.nox st t) : PSs X st t := fun pins s σ H D I hw =>
 wpAny_mono (h pins s σ H D (I.wish _) hw) (fun _ _ q => q.jL) fun _ _ z => False.elim z
end
section
variable {X : Cx} {st : Stmt} {rest : List Stmt} {t u : TS} {e : Expr} {te : TE} {pos : Pos}
def Fp : TS := fun D σ H => D.nx σ H
def Fg (t u : TS) : TS := fun D σ H => t { D with nx := u D } σ H
theorem LQ : PSs X [] Fp := fun _ _ σ H _ I h => wpAny_execs_nil ⟨σ, H, I, h⟩
theorem G7 (h1 : PS X st t) (h2 : PSs X rest u) : PSs X (st :: rest) (Fg t u) := by
 intro pins s σ H D I h
 refine wpAny_execs_cons (thn (h1 pins s σ H { D with nx := u D } I h) fun f s1 q => ?_)
 cases f with
 | next =>
  obtain ⟨σ', H', I', q⟩ := q
  exact h2 pins s1 σ' H' D I' q
 | ret v => exact q
 | brk => exact q
 | cont => exact q
theorem LK (h1 : PS X st t) : PSs X [st] t := by
 intro pins s σ H D I h
 refine wpAny_execs_cons (thn (h1 pins s σ H D I h) fun f s1 q => ?_)
 cases f with
 | next => exact wpAny_execs_nil q
 | ret v => exact q
 | brk => exact q
 | cont => exact q
theorem Inv.quiet {pins : List (Addr × Obj)} {σ : St} {H : Hp} {s : Shared} (I : Inv X pins σ H s) : interactive X.env = false := by simp [interactive, I.ok.kind]
def Fq (te : TE) : TS := fun D σ H => te σ H fun _ H1 => D.nx σ H1
theorem Mf (he : PE X e te) (hs : swapsWith e none pos.line X.env = pure false := by rfl) : PS X (.Expr e pos) (Fq te) := by
 intro pins s σ H D I h
 exact wpAny_Expr_any (thE (he pins s σ H _ I h) fun v s1 x H1 I1 r1 q1 => ⟨σ, H1, I1, q1⟩) I.quiet hs
def Cj (te : TE) : TS := fun D σ H => te σ H D.rt
theorem Rn (he : PE X e te) : PS X (.Return (some e) pos) (Cj te) := by
 intro pins s σ H D I h
 exact wpAny_Return_some (thE (he pins s σ H _ I h) fun v s1 x H1 I1 r1 q1 => ⟨x, σ, H1, I1, r1, q1⟩)
def TY : TS := fun D _ H => D.rt .non H
def Qq (c : TT) (t u : TS) : TS := fun D σ H => c σ H fun b H1 => if b = true then t D σ H1 else u D σ H1
theorem Uj {c : Expr} {a b : List Stmt} {tc : TT} (hc : PT X c tc) (ha : PSs X a t) (hb : PSs X b u) : PS X (.If c a b pos) (Qq tc t u) := by
 intro pins s σ H D I h
 refine wpAny_If (thT (hc pins s σ H _ I h) fun d s1 H1 I1 q1 => ?_)
 cases d with
 | true => exact ha pins s1 σ H1 D I1 q1
 | false => exact hb pins s1 σ H1 D I1 q1
end
abbrev TG := V → St → Hp → (St → Hp → Prop) → Prop
abbrev TGs := List V → St → Hp → (St → Hp → Prop) → Prop
def PG (X : Cx) (target : Expr) (t : TG) : Prop :=
 ∀ (pins : List (Addr × Obj)) (s : Shared) (σ : St) (H : Hp) (v : V) (u : Value) (Q : St → Hp → Prop), Inv X pins σ H s → RelV v u → t v σ H Q →
  wpAny (model X.prog X.w) X.A (assign target X.env u) (fun _ s' => ∃ σ' H', Inv X pins σ' H' s' ∧ Q σ' H') X.xe s
def PGs (X : Cx) (ts : List Expr) (t : TGs) : Prop :=
 ∀ (pins : List (Addr × Obj)) (s : Shared) (σ : St) (H : Hp) (vs : List V) (us : List Value) (Q : St → Hp → Prop), Inv X pins σ H s → Vals vs us → t vs σ H Q →
  wpAny (model X.prog X.w) X.A (assignInOrder ((assignEach ts X.env).map (·.2)) us) (fun _ s' => ∃ σ' H', Inv X pins σ' H' s' ∧ Q σ' H') X.xe s
abbrev O3 := V → V → V → Hp → (Hp → Prop) → Prop
def O4 (X : Cx) (t : O3) : Prop :=
 ∀ (pins : List (Addr × Obj)) (s : Shared) (σ : St) (H : Hp) (o i v : V) (ov iv u : Value) (Q : Hp → Prop), Inv X pins σ H s → RelV o ov → RelV i iv → RelV v u → t o i v H Q →
  wpAny (model X.prog X.w) X.A (setItem ov iv u) (fun _ s' => ∃ H', Inv X pins σ H' s' ∧ Q H') X.xe s
abbrev TIp := V → V → Hp → VK → Prop
section
variable {X : Cx} {pos : Pos}
def jh (i : Nat) : TG := fun v σ H Q => Q (σ.set i (some v)) H
theorem Av {i : Nat} {x : Str} (hN : X.N.Nodup) (hi : X.N[i]? = some x) (hx : Loc X.env.scope x) (hf : X.fn x = true ∨ X.env.scope.names.lookup x = some .local := by first | exact .inl rfl | exact .inr rfl | assumption) : PG X (.Name x pos) (jh i) := by
 intro pins s σ H v u Q I r h
 exact wpAny_assign_Name (gB I hN hi hx r (fun s' I' => ⟨_, H, I', h⟩) hf)
def Te : TGs := fun vs σ H Q => vs = [] ∧ Q σ H
def Jj (t : TG) (u : TGs) : TGs := fun vs σ H Q => ∃ v r, vs = v :: r ∧ t v σ H fun σ' H' => u r σ' H' Q
theorem Ms : PGs X [] Te := by
 intro pins s σ H vs us Q I r h
 obtain ⟨e, h⟩ := h
 subst e
 cases r
 exact assignInOrder_nil ⟨σ, H, I, h⟩
theorem Hg {e : Expr} {es : List Expr} {t : TG} {u : TGs} (h1 : PG X e t) (h2 : PGs X es u)
  (hs : (assignEach (e :: es) X.env).map (·.2) = assign e X.env :: (assignEach es X.env).map (·.2) := by rfl) : PGs X (e :: es) (Jj t u) := by
 intro pins s σ H vs us Q I r h
 obtain ⟨v, vr, e1, h⟩ := h
 subst e1
 cases r with
 | cons r rr =>
  rw [hs]
  refine assignInOrder_cons (thn (h1 pins s σ H _ _ _ I r h) fun _ s1 ⟨σ1, H1, I1, q1⟩ => ?_)
  exact h2 pins s1 σ1 H1 _ _ Q I1 rr q1
def Vv (K : PySem.W.Frag) (n : Nat) (t : TGs) : TG := fun v σ H Q => ∃ a xs, v = .ref a ∧ SqT K H a xs ∧ xs.length = n ∧ t xs σ H Q
theorem Hi {es : List Expr} {k : Nat} {t : TGs} {n : Nat} (hc : X.calm = true) (h : PGs X es t)
  (hn : (assignEach es X.env).length = n := by rfl) (hst : (assignEach es X.env).findIdx? (·.1) = none := by rfl) : PG X (.Tuple es k pos) (Vv X.K n t) := by
 intro pins s σ H v u Q I r hw
 obtain ⟨a, xs, e1, hq, hl, hw⟩ := hw
 subst e1
 cases r
 obtain ⟨its, rv, ht, hz⟩ := I.tuple hq
 refine assign_Tuple_tuple (I.ok.hd hc) ht (by simp [hn, ← hl, rv.length]) hst fun h' hx => ?_
 have I1 : Inv X pins σ H { s with heap := h' } := I.kept (t' := s.toks) fun b o e => hx b o (Nat.ne_of_lt (Heap.lt_size e)) e
 exact h pins _ σ H xs _ Q I1 (by simpa using rv) hw
def Tc (to ti : TE) (t : O3) : TG := fun v σ H Q => to σ H fun o H1 => ti σ H1 fun i H2 => t o i v H2 fun H3 => Q σ H3
theorem Rw {o i : Expr} {to ti : TE} {t : O3} (ho : PE X o to) (hi : PE X i ti) (hs : O4 X t)
  (ha : ∀ v, assign (.Subscript o i pos) X.env v = (do
   let ov ← holding [v] (eval o X.env)
   let iv ← holding [v, ov] (eval i X.env)
   standAt pos
   holding [v, ov, iv] (setItem ov iv v)
   release [v, ov, iv] []) := by intro _; rfl) : PG X (.Subscript o i pos) (Tc to ti t) := by
 intro pins s σ H v u Q I r h
 rw [ha]
 refine wpAny_bind (wpAny_holding (thE (ho pins s σ H _ I h) fun ov s1 x H1 I1 r1 q1 => ?_))
 refine wpAny_bind (wpAny_holding (thE (hi pins s1 σ H1 _ I1 q1) fun iv s2 y H2 I2 r2 q2 => ?_))
 refine wpAny_bind (wpAny_standAt (wpAny_bind (wpAny_holding (thn (hs pins s2 σ H2 x y v ov iv u _ I2 r1 r2 r q2) fun _ s3 ⟨H3, I3, q3⟩ => ?_))))
 exact wpAny_release ⟨σ, H3, I3, q3⟩
def sZ (te : TE) (g : TG) : TS := fun D σ H => te σ H fun x H1 => g x σ H1 D.nx
theorem Rq {tg e : Expr} {te : TE} {g : TG} (he : PE X e te) (hg : PG X tg g) (hs : swapsWithSole [tg] e pos.line X.env = pure false := by rfl) (hw : swappedStores [tg] e X.env = pure none := by rfl)
  (h1 : (assignEach [tg] X.env).map (·.2) = [assign tg X.env] := by rfl) : PS X (.Assign [tg] e pos) (sZ te g) := by
 intro pins s σ H D I h
 refine wpAny_Assign_stores (thE (he pins s σ H _ I h) fun v s1 x H1 I1 r1 q1 => ?_) hs hw
 rw [h1]
 exact thn (hg pins s1 σ H1 x v _ I1 r1 q1) fun _ s2 q => q
theorem Rm {i : Nat} {x : Str} {e : Expr} {te : TE} {pos' : Pos} (hN : X.N.Nodup) (hi : X.N[i]? = some x) (hx : Loc X.env.scope x) (he : PE X e te) (hs : swapsWith e (some (.Name x pos')) pos.line X.env = pure false := by rfl) (hf : X.fn x = true ∨ X.env.scope.names.lookup x = some .local := by first | exact .inl rfl | exact .inr rfl | assumption) :
  PS X (.Assign [.Name x pos'] e pos) (sZ te (jh i)) := by
 intro pins s σ H D I h
 refine wpAny_Assign_Name (thE (he pins s σ H _ I h) fun v s1 y H1 I1 r1 q1 => ?_) hs
 exact gB I1 hN hi hx r1 (fun s2 I2 => ⟨_, H1, I2, q1⟩) hf
def Ql (i j : Nat) (ta : TA) : TS := fun D σ H => ta σ H fun vs H1 => ∃ v w, vs = [v, w] ∧ D.nx ((σ.set i (some v)).set j (some w)) H1
theorem Ro {i j : Nat} {x y : Str} {a b : Expr} {ta : TA} {px py pt : Pos} {kt k2 pt2} (hc : X.calm = true) (hN : X.N.Nodup) (hi : X.N[i]? = some x) (hj : X.N[j]? = some y) (hij : i ≠ j)
  (hx : X.env.scope.names.lookup x = some .local) (hy : X.env.scope.names.lookup y = some .local) (ha : PA X [a, b] ta)
  (hw : swappedStores [.Tuple [.Name x px, .Name y py] kt pt] (.Tuple [a, b] k2 pt2) X.env = pure (some [x, y]))
  (hs : swapsWithSole [.Tuple [.Name x px, .Name y py] kt pt] (.Tuple [a, b] k2 pt2) pos.line X.env = pure false := by rfl) :
  PS X (.Assign [.Tuple [.Name x px, .Name y py] kt pt] (.Tuple [a, b] k2 pt2) pos) (Ql i j ta) := by
 intro pins s σ H D I h
 rw [exec_Assign_arm]
 refine wpAny_bind (wpAny_standAt ?_)
 rw [hs]
 refine wpAny_bind (wpAny_pure ?_)
 rw [if_neg (by decide)]
 refine wpAny_bind (Tuple_ (thA (ha _ pins s σ H _ I h) fun us s1 vs H1 I1 r1 q1 => ?_))
 obtain ⟨v, w, e1, q1⟩ := q1
 subst e1
 obtain ⟨u1, u2, rfl, rv, rw'⟩ : ∃ u1 u2, us = [u1, u2] ∧ RelV v u1 ∧ RelV w u2 := by
  cases r1 with
  | cons p q =>
   cases q with
   | cons p' q' =>
    cases q'
    exact ⟨_, _, rfl, p, p'⟩
 refine wpAny_newObj_type ?_ (by show 2 ≤ sizeLine; decide)
 have I2 : Inv X pins σ H1 { s1 with heap := s1.heap.push { cls := .type "tuple", data := .seq [u1, u2].toArray } } := I1.kept (t' := s1.toks) fun b o e => Heap.get?_push_of_some _ e
 rw [hw]
 refine wpAny_bind (wpAny_pure ?_)
 show wpAny (model X.prog X.w) X.A (do rule "assign.swapped-stores"; let items ← unpackItems (.ref s1.heap.objs.size) 2 none; assignInOrder [fun v => bindName X.env y v, fun v => bindName X.env x v] items.reverse; pure Flow.next) _ _ _
 refine wpAny_bind (wpAny_rule (wpAny_bind (unpackItems_tuple (items := #[u1, u2]) (I.ok.hd hc) (IsTup.new s1.heap _) fun h' hx' => ?_)))
 have I3 := I2.kept (h' := h') (t' := s1.toks) fun b o e => hx' b o (Nat.ne_of_lt (Heap.lt_size e)) e
 show wpAny _ _ (assignInOrder [fun v => bindName X.env y v, fun v => bindName X.env x v] [u2, u1] >>= fun _ => pure Flow.next) _ _ _
 refine wpAny_bind (assignInOrder_cons (wpAny_bindName (gB I3 hN hj (.inl hy) rw' (fun s2 I4 => ?_) (.inr hy))))
 refine assignInOrder_cons (wpAny_bindName (gB I4 hN hi (.inl hx) rv (fun s3 I5 => assignInOrder_nil (wpAny_pure ?_)) (.inr hx)))
 rw [List.set_comm _ _ (Ne.symm hij)] at I5
 exact ⟨_, H1, I5, q1⟩
def Vg (i : Nat) (te : TE) (ti : TIp) : TS := fun D σ H => ∃ x, σ[i]? = some (some x) ∧ te σ H fun y H1 => ti x y H1 fun z H2 => D.nx (σ.set i (some z)) H2
def ipI (f : Int → Int → Int) : TIp := fun x y H Q => ∃ i j, x = .int i ∧ y = .int j ∧ Q (.int (f i j)) H
end
structure It where
 go : Nat → Hp → Prop
 yld : Nat → Hp → V → Hp → Prop
 stop : Nat → Hp → Prop
def nW (X : Cx) (pins : List (Addr × Obj)) (H : Hp) (b : Addr) : Prop :=
 H b = none ∧ b ≠ X.env.locals ∧ b ∉ X.fs ∧ (b ∈ X.ex ∨ X.s₀.heap.objs.size ≤ b) ∧ (∀ x c, X.env.cells.lookup x = some c → c ≠ b) ∧ ∀ p ∈ X.pn ++ pins, p.1 ≠ b
theorem Inv.DQ {X : Cx} {pins : List (Addr × Obj)} {σ : St} {H H' : Hp} {s : Shared} {b : Addr} (I : Inv X pins σ H s) (hb : s.heap.objs.size ≤ b) (hn : H' b = none) : nW X pins H' b := by
 refine ⟨hn, Nat.ne_of_gt (Nat.lt_of_lt_of_le I.lt hb), I.R4 hb, .inr (Nat.le_trans I.sz hb), fun x c e z => ?_, fun p hp z => ?_⟩
 ·obtain ⟨v, q⟩ := I.cell x c e
  exact absurd (Nat.lt_of_lt_of_le q.lt (by rw [z]; exact hb)) (Nat.lt_irrefl _)
 ·exact absurd (Nat.lt_of_lt_of_le (Heap.lt_size (I.pin p hp).1) (by rw [z]; exact hb)) (Nat.lt_irrefl _)
structure Turn (P : Program) (w : World) (K : PySem.W.Frag) (tg : Expr) (J : It) (fp : List Addr) (it : Addr) (tn : Nat → Heap → Prop) : Prop where
 mem : it ∈ fp
 obj : ∀ i h, tn i h → ∀ b ∈ fp, ∃ o, h.get? b = some o ∧ ∀ v, o.data ≠ .cell v
 keep : ∀ i h h', tn i h → (∀ b ∈ fp, ∀ o, h.get? b = some o → h'.get? b = some o) → tn i h'
 item : ∀ (X : Cx), X.prog = P → X.w = w → X.K = K → X.calm = true → ∀ (i : Nat) (pins : List (Addr × Obj)) (s : Shared) (σ : St) (H : Hp) (E : Value → Shared → Prop), Inv X pins σ H s → (∀ b ∈ fp, nW X pins H b) → tn i s.heap → J.go i H →
  wpAny (model P w) X.A (pyNext (.ref it)) (fun r s1 => ∃ u, r = some u ∧
   wpAny (model P w) X.A (letOwnedTupleGo tg (.ref it) u) (fun _ s2 => ∃ x H', Inv X pins σ H' s2 ∧ RelV x u ∧ J.yld i H x H' ∧ tn (i + 1) s2.heap ∧ ∀ b ∈ fp, H' b = none) E s1) E s
 done : ∀ (X : Cx), X.prog = P → X.w = w → X.K = K → X.calm = true → ∀ (i : Nat) (pins : List (Addr × Obj)) (s : Shared) (σ : St) (H : Hp) (E : Value → Shared → Prop), Inv X pins σ H s → (∀ b ∈ fp, nW X pins H b) → tn i s.heap → J.stop i H →
  wpAny (model P w) X.A (pyNext (.ref it)) (fun r s1 => r = none ∧ Inv X pins σ H s1) E s
 self : ∀ (A : Around) (i : Nat) (s : Shared) (Q : Value → Shared → Prop) (E : Value → Shared → Prop), tn i s.heap → Q (.ref it) s → wpAny (model P w) A (pyIter (.ref it)) Q E s
abbrev TI := St → Hp → (It → Hp → Prop) → Prop
def PIE (X : Cx) (pins : List (Addr × Obj)) (σ : St) (tg : Expr) (R : It → Hp → Prop) (itv : Value) (s2 : Shared) : Prop :=
 ∃ (it : Addr) (fp : List Addr) (tn : Nat → Heap → Prop) (J : It) (H' : Hp), itv = .ref it ∧ Inv X pins σ H' s2 ∧ Turn X.prog X.w X.K tg J fp it tn ∧ tn 0 s2.heap ∧ (∀ b ∈ fp, nW X pins H' b) ∧ R J H'
def PI (X : Cx) (tg iter : Expr) (wi : TI) : Prop :=
 ∀ (pins : List (Addr × Obj)) (s : Shared) (σ : St) (H : Hp) (R : It → Hp → Prop), Inv X pins σ H s → wi σ H R →
  wpAny (model X.prog X.w) X.A (eval iter X.env) (fun v s1 => wpAny (model X.prog X.w) X.A (pyIter v) (PIE X pins σ tg R) X.xe s1) X.xe s
theorem Br {M : Model} {A : Around} {E : Value → Shared → Prop} {s : Shared} {tg : Expr} {it : Addr} {u : Value} {o : Obj} {n : String} {vs : Array Value} {Q : Unit → Shared → Prop} (ho : s.heap.get? it = some o) (hc : o.cls = .type n) (hd : o.data = .fields vs)
  (hn : ["enumerate", "zip", "dict_itemiterator", "dict_reverseitemiterator", "odict_iterator", "itertools.zip_longest", "itertools.pairwise"].contains n = false) (hQ : Q () s) : wpAny M A (letOwnedTupleGo tg (.ref it) u) Q E s := by
 unfold letOwnedTupleGo
 cases tg <;> first
  | exact wpAny_pure hQ
  | (cases u <;> first
    | exact wpAny_pure hQ
    | (refine wpAny_bind (wpAny_load ho ?_)
       rw [hc, hd]
       show wpAny M A (if (["enumerate", "zip", "dict_itemiterator", "dict_reverseitemiterator", "odict_iterator", "itertools.zip_longest", "itertools.pairwise"].contains n && vs[0]? == some (rawInt _)) = true then _ else _) Q E s
       rw [if_neg (by intro h; rw [hn, Bool.false_and] at h; cases h)]
       exact wpAny_pure hQ))
def Itl (K : PySem.W.Frag) (a : Addr) : It :=
 ⟨fun i H => ∃ xs x, SqL K H a xs ∧ xs[i]? = some x, fun i H x H' => H' = H ∧ ∀ xs, SqL K H a xs → xs[i]? = some x, fun i H => ∃ xs, SqL K H a xs ∧ xs.length ≤ i⟩
def Itt (K : PySem.W.Frag) (a : Addr) : It :=
 ⟨fun i H => ∃ xs x, SqT K H a xs ∧ xs[i]? = some x, fun i H x H' => H' = H ∧ ∀ xs, SqT K H a xs → xs[i]? = some x, fun i H => ∃ xs, SqT K H a xs ∧ xs.length ≤ i⟩
def Itr (lo : Int) (n : Nat) : It := ⟨fun i _ => i < n, fun i H x H' => H' = H ∧ x = .int (lo + i), fun i _ => n ≤ i⟩
theorem Ce {P : Program} {w : World} {K : PySem.W.Frag} {tg : Expr} (a it : Addr) : Turn P w K tg (Itl K a) [it] it (fun i h => h.IsListIter it a i) where
 mem := by simp
 obj := fun i h st b hb => by
  have e : b = it := by simpa using hb
  subst e
  obtain ⟨o, e, c, d⟩ := st
  exact ⟨o, e, fun v z => by rw [d] at z; cases z⟩
 keep := fun i h h' st k => st.at fun o e => k it (by simp) o e
 item := by
  intro X hP hw hK hc i pins s σ H E I hf st hg
  subst hP hw hK
  obtain ⟨xs, x, hq, hx⟩ := hg
  obtain ⟨its, rv, p, hz⟩ := I.list hq
  obtain ⟨u, hu, ru⟩ := rv.get hx
  obtain ⟨f0, f1, f2, f3, f4, f5⟩ := hf it (by simp)
  refine wpAny_pyNext_list_item st p.isList (x := u) (by simpa using hu) fun h' st' sb => ?_
  have I1 : Inv X pins σ H { s with heap := h' } := I.turned (t' := s.toks) (fun b o hb e => (sb.2 b hb).trans e) f0 f1 f3 f4 f5
  obtain ⟨o, e, c, d⟩ := id st'
  exact ⟨u, rfl, Br (s := { s with heap := h' }) e c d (by decide) ⟨x, H, I1, ru, ⟨rfl, fun ys hy => by rw [I.nu hy hq]; exact hx⟩, st', fun b hb => (hf b hb).1⟩⟩
 done := by
  intro X hP hw hK hc i pins s σ H E I hf st hg
  subst hP hw hK
  obtain ⟨xs, hq, hx⟩ := hg
  obtain ⟨its, rv, p, hz⟩ := I.list hq
  obtain ⟨f0, f1, f2, f3, f4, f5⟩ := hf it (by simp)
  have hl := rv.length
  exact wpAny_pyNext_list_end (I.ok.hd hc) st p.isList (by simp; omega) fun h' eb => ⟨rfl, I.turned (t' := s.toks) (fun b o hb e => eb b o hb e) f0 f1 f3 f4 f5⟩
 self := fun _ _ _ _ _ st h => wpAny_pyIter_listiter st h
theorem yE {P : Program} {w : World} {K : PySem.W.Frag} {tg : Expr} (a it : Addr) : Turn P w K tg (Itt K a) [it] it (fun i h => h.IsTupleIter it a i) where
 mem := by simp
 obj := fun i h st b hb => by
  have e : b = it := by simpa using hb
  subst e
  obtain ⟨o, e, c, d⟩ := st
  exact ⟨o, e, fun v z => by rw [d] at z; cases z⟩
 keep := fun i h h' st k => st.at fun o e => k it (by simp) o e
 item := by
  intro X hP hw hK hc i pins s σ H E I hf st hg
  subst hP hw hK
  obtain ⟨xs, x, hq, hx⟩ := hg
  obtain ⟨its, rv, p, hz⟩ := I.tuple hq
  obtain ⟨u, hu, ru⟩ := rv.get hx
  obtain ⟨f0, f1, f2, f3, f4, f5⟩ := hf it (by simp)
  refine wpAny_pyNext_tuple_item st (show s.heap.IsTuple a its.toArray from p) (x := u) (by simpa using hu) fun h' st' sb => ?_
  have I1 : Inv X pins σ H { s with heap := h' } := I.turned (t' := s.toks) (fun b o hb e => (sb.2 b hb).trans e) f0 f1 f3 f4 f5
  obtain ⟨o, e, c, d⟩ := id st'
  exact ⟨u, rfl, Br (s := { s with heap := h' }) e c d (by decide) ⟨x, H, I1, ru, ⟨rfl, fun ys hy => by rw [I.nZ hy hq]; exact hx⟩, st', fun b hb => (hf b hb).1⟩⟩
 done := by
  intro X hP hw hK hc i pins s σ H E I hf st hg
  subst hP hw hK
  obtain ⟨xs, hq, hx⟩ := hg
  obtain ⟨its, rv, p, hz⟩ := I.tuple hq
  obtain ⟨f0, f1, f2, f3, f4, f5⟩ := hf it (by simp)
  have hl := rv.length
  exact wpAny_pyNext_tuple_end (I.ok.hd hc) st (show s.heap.IsTuple a its.toArray from p) (by simp; omega) fun h' eb => ⟨rfl, I.turned (t' := s.toks) (fun b o hb e => eb b o hb e) f0 f1 f3 f4 f5⟩
 self := fun _ _ _ _ _ st h => wpAny_pyIter_tupleiter st h
theorem yF {P : Program} {w : World} {K : PySem.W.Frag} {tg : Expr} (it : Addr) (lo : Int) (n : Nat) : Turn P w K tg (Itr lo n) [it] it (fun i h => IsRangeIter h it (lo + (i : Nat) * 1) ((n : Int) - (i : Nat)) 1) where
 mem := by simp
 obj := fun i h st b hb => by
  have e : b = it := by simpa using hb
  subst e
  exact ⟨_, st, fun v z => by
   have z' : Data.fields _ = Data.cell v := z
   cases z'⟩
 keep := fun i h h' st k => k it (by simp) _ st
 item := by
  intro X hP hw hK hc i pins s σ H E I hf st hg
  subst hP hw hK
  obtain ⟨f0, f1, f2, f3, f4, f5⟩ := hf it (by simp)
  have W := Walks.range (prog := X.prog) (w := X.w) (I.ok.hd hc) it lo 1 n
  refine W.item i s _ _ hg st fun v h' tk hv st' kk => ?_
  obtain ⟨t, rfl⟩ := hv
  have I1 : Inv X pins σ H { s with heap := h', toks := tk } := I.turned (fun b o hb e => kk b o (by simpa using hb) e) f0 f1 f3 f4 f5
  refine ⟨_, rfl, Br (s := { s with heap := h', toks := tk }) (n := "range_iterator") st' rfl rfl (by decide) ⟨.int (lo + i), H, I1, ⟨t, ?_⟩, ⟨rfl, rfl⟩, st', fun b hb => (hf b hb).1⟩⟩
  rw [Int.mul_one]
 done := by
  intro X hP hw hK hc i pins s σ H E I hf st hg
  subst hP hw hK
  obtain ⟨f0, f1, f2, f3, f4, f5⟩ := hf it (by simp)
  exact wpAny_pyNext_range_end (I.ok.hd hc) st (by have : n ≤ i := hg; omega) fun h' eb => ⟨rfl, I.turned (t' := s.toks) (fun b o hb e => eb b o hb e) f0 f1 f3 f4 f5⟩
 self := fun _ _ _ _ _ st h => wpAny_pyIter_rangeiter st h
section
variable {X : Cx} {tg : Expr}
theorem Gj {pins : List (Addr × Obj)} {σ : St} {H : Hp} {s : Shared} {R : It → Hp → Prop} {E : Value → Shared → Prop} {lo hi : Int} {t u v : Tok} {tk : Nat} (I : Inv X pins σ H s) (h1 : -(2 ^ 62) ≤ lo) (h2 : lo < 2 ^ 62) (h3 : -(2 ^ 62) ≤ hi) (h4 : hi < 2 ^ 62)
  (q : R (Itr lo (hi - lo).toNat) H) : wpAny (model X.prog X.w) X.A (pyIter (.ref s.heap.objs.size)) (PIE X pins σ tg R) E { s with heap := s.heap.push { cls := .type "range", data := .fields #[.int lo t, .int hi u, .int 1 v] }, toks := tk } := by
 refine wpAny_pyIter_range (IsRange.new ..) (small_one h1 h2 h3 h4) ?_
 have I1 : Inv X pins σ H { s with heap := s.heap.push { cls := .type "range", data := .fields #[.int lo t, .int hi u, .int 1 v] }, toks := tk } := I.kept fun b o e => Heap.get?_push_of_some _ e
 refine ⟨(s.heap.push { cls := .type "range", data := .fields #[.int lo t, .int hi u, .int 1 v] }).objs.size, [(s.heap.push { cls := .type "range", data := .fields #[.int lo t, .int hi u, .int 1 v] }).objs.size], _, _, H, rfl,
  I1.kept (t' := tk) fun b o e => Heap.get?_push_of_some _ e, yF _ lo (hi - lo).toNat, ?_, fun b hb => ?_, q⟩
 ·have e1 : lo + ((0 : Nat) : Int) * 1 = lo := by simp
  have e2 : (((hi - lo).toNat : Nat) : Int) - ((0 : Nat) : Int) = Builtin.Range.rangeSize lo hi 1 := by rw [rangeSize_one]; split <;> omega
  show IsRangeIter _ _ (lo + ((0 : Nat) : Int) * 1) ((((hi - lo).toNat : Nat) : Int) - ((0 : Nat) : Int)) 1
  rw [e1, e2]
  exact Heap.get?_push_size _ rfl
 ·have e : b = (s.heap.push { cls := .type "range", data := .fields #[.int lo t, .int hi u, .int 1 v] }).objs.size := by simpa using hb
  subst e
  exact I1.DQ (Nat.le_refl _) (I1.hok.fresh (Nat.le_refl _))
def pK (ta : TA) : TI := fun σ H R => ta σ H fun vs H1 => ∃ j : Int, vs = [.int j] ∧ -(2 ^ 62) ≤ j ∧ j < 2 ^ 62 ∧ R (Itr 0 j.toNat) H1
theorem CP {a : Expr} {ta : TA} {p pos : Pos} (hg : Gl X "range") (hm : X.mg "range" = none) (ha : PA X [a] ta) (hs : starEach [a] X.env = [(false, eval a X.env)] := by rfl) : PI X tg (.Call (.Name "range" p) [a] [] pos) (pK ta) := by
 intro pins s σ H R I h
 refine Call_ (oU I hg hm boot_range (PyProof.Rows.callWith_type1 (thA (ha pos pins s σ H _ I h) fun us s1 vs H1 I1 r1 q1 => ?_) hs rfl))
 obtain ⟨j, e, q1, q2, q⟩ := q1
 subst e
 cases r1 with
 | cons r rr =>
  cases rr
  obtain ⟨t, rfl⟩ := r
  exact call_range_1 (Gj I1 (by omega) (by omega) q1 q2 (by simpa using q))
def J8 (wi : TI) (g : TG) (tb : TS) : TS := fun D σ H => wi σ H fun J H1 => ∃ W : Nat → Nat → St → Hp → Prop, (∃ m, W 0 m σ H1) ∧ ∀ i m σ H, W i m σ H →
 (J.stop i H ∧ D.nx σ H) ∨ (J.go i H ∧ ∃ N : St → Hp → Prop, (∀ σ' H', N σ' H' → ∃ m', m' < m ∧ W (i + 1) m' σ' H') ∧ ∀ x H', J.yld i H x H' → g x σ H' fun σ2 H2 => tb { D with nx := N, ct := N, bk := D.nx } σ2 H2)
def iC (fp : List Addr) (h : Heap) : List (Addr × Obj) := fp.filterMap fun b => (h.get? b).map fun o => (b, o)
theorem jA {fp : List Addr} {h : Heap} {b : Addr} {o : Obj} (hb : b ∈ fp) (e : h.get? b = some o) : (b, o) ∈ iC fp h := List.mem_filterMap.mpr ⟨b, hb, by rw [e]; rfl⟩
theorem oF {fp : List Addr} {h : Heap} {p : Addr × Obj} (hp : p ∈ iC fp h) : p.1 ∈ fp ∧ h.get? p.1 = some p.2 := by
 obtain ⟨b, hb, e⟩ := List.mem_filterMap.mp hp
 cases q : h.get? b with
 | none => rw [q] at e; cases e
 | some o =>
  rw [q] at e
  have e' : (b, o) = p := Option.some.inj e
  subst e'
  exact ⟨hb, q⟩
theorem Inv.pinned {pins : List (Addr × Obj)} {σ : St} {H : Hp} {s : Shared} {fp : List Addr} (I : Inv X pins σ H s) (hf : ∀ b ∈ fp, nW X pins H b) (ho : ∀ b ∈ fp, ∃ o, s.heap.get? b = some o ∧ ∀ v, o.data ≠ .cell v) : Inv X (pins ++ iC fp s.heap) σ H s :=
 I.lF fun p hp => (List.mem_append.mp hp).elim (fun z => I.pin p (List.mem_append_right _ z)) fun z => by
  obtain ⟨hb, e⟩ := oF z
  obtain ⟨f0, f1, f2, _⟩ := hf p.1 hb
  obtain ⟨o, e', d⟩ := ho p.1 hb
  rw [e] at e'; cases e'
  exact ⟨e, f0, f1, f2, d⟩
theorem Inv.jM {pins pl : List (Addr × Obj)} {σ : St} {H : Hp} {s : Shared} (I : Inv X (pins ++ pl) σ H s) : Inv X pins σ H s := I.lF fun p hp => I.pin p (List.mem_append_right _ (List.mem_append_left _ hp))
theorem Rp {iter : Expr} {body : List Stmt} {wi : TI} {g : TG} {tb : TS} {pos : Pos} (hp : PassesOwn (model X.prog X.w) X.A X.env X.xe) (hc : X.calm = true) (hi : PI X tg iter wi) (hg : PG X tg g) (hb : PSs X body tb)
  (hs : ∀ x, foldedSetIterable iter X.env x = pure x := by intro _; rfl) : PS X (.For tg iter body [] pos) (J8 wi g tb) := by
 intro pins s σ H D I h
 refine wpAny_For (thn (hi pins s σ H _ I h) fun v s1 h1 => thn h1 fun itv s2 h2 => ?_) hs
 obtain ⟨it, fp, tn, J, H2, e, I2, T, st2, f2, W, ⟨m0, w0⟩, turn⟩ := h2
 subst e
 -- what stays true of the iterator's objects through the loop
 have stat : ∀ {H' : Hp}, (∀ b ∈ fp, H' b = none) → ∀ b ∈ fp, nW X pins H' b := fun hn b hb => ⟨hn b hb, (f2 b hb).2⟩
 refine codeAny_forLoop_any (fun n s' => ∃ i σ' H', Inv X pins σ' H' s' ∧ tn i s'.heap ∧ (∀ b ∈ fp, H' b = none) ∧ W i n σ' H') ?_ m0 ⟨0, σ, H2, I2, st2, fun b hb => (f2 b hb).1, w0⟩
 rintro n s3 ⟨i, σ3, H3, I3, st3, fr3, w3⟩
 rcases turn i n σ3 H3 w3 with ⟨stop, qn⟩ | ⟨go, N, hN, step⟩
 ·refine wpAny_passesOwn hp (thn (T.done X rfl rfl rfl hc i pins s3 σ3 H3 X.xe I3 (stat fr3) st3 stop) fun r s4 ⟨hr, I4⟩ => ?_)
  subst hr
  exact wpAny_execs_nil ⟨σ3, H3, I4, qn⟩
 ·refine wpAny_passesOwn hp (thn (T.item X rfl rfl rfl hc i pins s3 σ3 H3 X.xe I3 (stat fr3) st3 go) fun r s4 ⟨u, hr, h4⟩ => ?_)
  subst hr
  refine wpAny_passesOwn hp (thn h4 fun _ s5 ⟨x, H5, I5, r5, y5, st5, fr5⟩ => ?_)
  have I5' := I5.pinned (stat fr5) (T.obj _ _ st5)
  refine wpAny_passesOwn hp (thn (hg _ s5 σ3 H5 x u _ I5' r5 (step x H5 y5)) fun _ s6 ⟨σ6, H6, I6, q6⟩ => ?_)
  refine wpAny_passesOwn hp (thn (hb _ s6 σ6 H6 _ I6 q6) fun f s7 q7 => ?_)
  have again : ∀ {σ7 : St} {H7 : Hp}, Inv X (pins ++ iC fp s5.heap) σ7 H7 s7 → N σ7 H7 → ∃ m, m < n ∧ ∃ i σ' H', Inv X pins σ' H' s7 ∧ tn i s7.heap ∧ (∀ b ∈ fp, H' b = none) ∧ W i m σ' H' := fun {σ7 H7} I7 n7 => by
   obtain ⟨m', hm, w7⟩ := hN σ7 H7 n7
   refine ⟨m', hm, i + 1, σ7, H7, I7.jM, T.keep _ _ _ st5 fun b hb o e => (I7.pin (b, o) (List.mem_append_right _ (List.mem_append_right _ (jA hb e)))).1, fun b hb => ?_, w7⟩
   obtain ⟨o, e, d⟩ := T.obj _ _ st5 b hb
   exact (I7.pin (b, o) (List.mem_append_right _ (List.mem_append_right _ (jA hb e)))).2.1
  cases f with
  | next => obtain ⟨σ7, H7, I7, n7⟩ := q7; exact again I7 n7
  | cont => obtain ⟨σ7, H7, I7, n7⟩ := q7; exact again I7 n7
  | brk => obtain ⟨σ7, H7, I7, q7⟩ := q7; exact ⟨σ7, H7, I7.jM, q7⟩
  | ret v => obtain ⟨x7, σ7, H7, I7, r7, q7⟩ := q7; exact ⟨x7, σ7, H7, I7.jM, r7, q7⟩
end
theorem Jl {K : PySem.W.Frag} {a : Addr} {xs : List V} {g : TG} {tb : TS} {D : Ends} {σ : St} {H : Hp} (Pv : Nat → St → Hp → Prop) (h0 : Pv 0 σ H) (hl : ∀ i σ H, i ≤ xs.length → Pv i σ H → SqL K H a xs)
  (hs : ∀ i x σ H, xs[i]? = some x → Pv i σ H → g x σ H fun σ2 H2 => tb { D with nx := Pv (i + 1), ct := Pv (i + 1), bk := D.nx } σ2 H2) (hd : ∀ σ H, Pv xs.length σ H → D.nx σ H) :
  ∃ W : Nat → Nat → St → Hp → Prop, (∃ m, W 0 m σ H) ∧ ∀ i m σ H, W i m σ H →
   ((Itl K a).stop i H ∧ D.nx σ H) ∨ ((Itl K a).go i H ∧ ∃ N : St → Hp → Prop, (∀ σ' H', N σ' H' → ∃ m', m' < m ∧ W (i + 1) m' σ' H') ∧ ∀ x H', (Itl K a).yld i H x H' → g x σ H' fun σ2 H2 => tb { D with nx := N, ct := N, bk := D.nx } σ2 H2) := by
 refine ⟨fun i m σ H => m = xs.length - i ∧ i ≤ xs.length ∧ Pv i σ H, ⟨xs.length, by simp, Nat.zero_le _, h0⟩, ?_⟩
 rintro i m σ H ⟨rfl, hi, p⟩
 have q := hl i σ H hi p
 by_cases hlt : i < xs.length
 ·refine .inr ⟨⟨xs, xs[i], q, by simp [hlt]⟩, Pv (i + 1), fun σ' H' p' => ⟨xs.length - (i + 1), by omega, rfl, hlt, p'⟩, fun x H' y => ?_⟩
  obtain ⟨e, y⟩ := y
  subst e
  exact hs i x σ _ (y xs q) p
 ·have e : i = xs.length := by omega
  subst e
  exact .inl ⟨⟨xs, q, Nat.le_refl _⟩, hd σ H p⟩
theorem DR {lo : Int} {n : Nat} {g : TG} {tb : TS} {D : Ends} {σ : St} {H : Hp} (Pv : Nat → St → Hp → Prop) (h0 : Pv 0 σ H)
  (hs : ∀ i σ H, i < n → Pv i σ H → g (.int (lo + i)) σ H fun σ2 H2 => tb { D with nx := Pv (i + 1), ct := Pv (i + 1), bk := D.nx } σ2 H2) (hd : ∀ σ H, Pv n σ H → D.nx σ H) :
  ∃ W : Nat → Nat → St → Hp → Prop, (∃ m, W 0 m σ H) ∧ ∀ i m σ H, W i m σ H →
   ((Itr lo n).stop i H ∧ D.nx σ H) ∨ ((Itr lo n).go i H ∧ ∃ N : St → Hp → Prop, (∀ σ' H', N σ' H' → ∃ m', m' < m ∧ W (i + 1) m' σ' H') ∧ ∀ x H', (Itr lo n).yld i H x H' → g x σ H' fun σ2 H2 => tb { D with nx := N, ct := N, bk := D.nx } σ2 H2) := by
 refine ⟨fun i m σ H => m = n - i ∧ i ≤ n ∧ Pv i σ H, ⟨n, by simp, Nat.zero_le _, h0⟩, ?_⟩
 rintro i m σ H ⟨rfl, hi, p⟩
 by_cases hlt : i < n
 ·refine .inr ⟨hlt, Pv (i + 1), fun σ' H' p' => ⟨n - (i + 1), by omega, rfl, hlt, p'⟩, fun x H' y => ?_⟩
  obtain ⟨e, y⟩ := y
  subst e y
  exact hs i σ _ hlt p
 ·have e : i = n := by omega
  subst e
  exact .inl ⟨Nat.le_refl _, hd σ H p⟩
abbrev R2 := V → V → Hp → VK → Prop
def OpR (X : Cx) (f : Value → Value → Sem Value) (r : R2) : Prop :=
 ∀ (pins : List (Addr × Obj)) (s : Shared) (σ : St) (H : Hp) (x y : V) (v u : Value) (Q : VK), Inv X pins σ H s → RelV x v → RelV y u → r x y H Q →
  wpAny (model X.prog X.w) X.A (f v u) (EP X pins σ Q) X.xe s
def UnR (X : Cx) (f : Value → Sem Value) (r : V → Hp → VK → Prop) : Prop :=
 ∀ (pins : List (Addr × Obj)) (s : Shared) (σ : St) (H : Hp) (x : V) (v : Value) (Q : VK), Inv X pins σ H s → RelV x v → r x H Q →
  wpAny (model X.prog X.w) X.A (f v) (EP X pins σ Q) X.xe s
def cM (X : Cx) (f : Value) (r : List V → Hp → VK → Prop) : Prop :=
 ∀ (pins : List (Addr × Obj)) (s : Shared) (σ : St) (H : Hp) (xs : List V) (us : List Value) (Q : VK), Inv X pins σ H s → Vals xs us → r xs H Q →
  wpAny (model X.prog X.w) X.A (call f us) (EP X pins σ Q) X.xe s
def Vy (X : Cx) (r : V → Hp → (Bool → Hp → Prop) → Prop) : Prop :=
 ∀ (pins : List (Addr × Obj)) (s : Shared) (σ : St) (H : Hp) (x : V) (v : Value) (Q : Bool → Hp → Prop), Inv X pins σ H s → RelV x v → r x H Q →
  wpAny (model X.prog X.w) X.A (truthy v) (TP X pins σ Q) X.xe s
def tOp (r : R2) (ta tb : TE) : TE := fun σ H Q => ta σ H fun x H1 => tb σ H1 fun y H2 => r x y H2 Q
def tUn (r : V → Hp → VK → Prop) (ta : TE) : TE := fun σ H Q => ta σ H fun x H1 => r x H1 Q
def rI (C : Int → Int → Prop) (g : Int → Int → V) : R2 := fun x y H Q => ∃ i j, x = .int i ∧ y = .int j ∧ C i j ∧ Q (g i j) H
def rI0 (g : Int → Int → V) : R2 := fun x y H Q => ∃ i j, x = .int i ∧ y = .int j ∧ Q (g i j) H
def rU (g : Int → V) : V → Hp → VK → Prop := fun x H Q => ∃ i, x = .int i ∧ Q (g i) H
section
variable {X : Cx} {a b c : Expr} {ta tb tc : TE} {pos : Pos}
theorem Tq (ha : PE X a ta) (hb : PE X b tb) {pins : List (Addr × Obj)} {s : Shared} {σ : St} {H : Hp} {R : V → V → Hp → Prop} (I : Inv X pins σ H s)
  (h : ta σ H fun x H1 => tb σ H1 fun y H2 => R x y H2) {Q : Value → Shared → Prop} {f : Value → Value → Sem Value}
  (hf : ∀ v u s2 x y H2, Inv X pins σ H2 s2 → RelV x v → RelV y u → R x y H2 → wpAny (model X.prog X.w) X.A (f v u) Q X.xe s2) :
  wpAny (model X.prog X.w) X.A (eval a X.env) (fun v s₁ => wpAny (model X.prog X.w) X.A (eval b X.env) (fun u s₂ => wpAny (model X.prog X.w) X.A (f v u) Q X.xe s₂) X.xe s₁) X.xe s := by
 refine thE (ha pins s σ H _ I h) fun v s1 x H1 I1 r1 q1 => ?_
 refine thE (hb pins s1 σ H1 _ I1 q1) fun u s2 y H2 I2 r2 q2 => ?_
 exact hf v u s2 x y H2 I2 r1 r2 q2
theorem Uo {op : Operator} {r : R2} (ho : OpR X (binaryOp op) r) (ha : PE X a ta) (hb : PE X b tb) : PE X (.BinOp a op b pos) (tOp r ta tb) := by
 intro pins s σ H Q I h
 exact wpAny_BinOp (Tq ha hb I h fun v u s2 x y H2 I2 rx ry q => ho pins s2 σ H2 x y v u Q I2 rx ry q)
theorem Ul {op : UnaryOp} {r : V → Hp → VK → Prop} (ho : UnR X (unaryOp op) r) (ha : PE X a ta) : PE X (.UnaryOp op a pos) (tUn r ta) := by
 intro pins s σ H Q I h
 exact UnaryOp_ (thE (ha pins s σ H _ I h) fun v s1 x H1 I1 r1 q1 => ho pins s1 σ H1 x v Q I1 r1 q1)
theorem opI {f : Value → Value → Sem Value} {C : Int → Int → Prop} {g : Int → Int → Int}
  (rule : ∀ (i j : Int) (t u : Tok) (s : Shared) (Q : Value → Shared → Prop) (E : Value → Shared → Prop), C i j → Q (.int (g i j) s.toks) { s with toks := s.toks + 1 } → wpAny (model X.prog X.w) X.A (f (.int i t) (.int j u)) Q E s) :
  OpR X f (rI C fun i j => .int (g i j)) := by
 intro pins s σ H x y v u Q I rx ry h
 obtain ⟨i, j, rfl, rfl, hc, q⟩ := h
 obtain ⟨t, rfl⟩ := rx
 obtain ⟨t', rfl⟩ := ry
 exact rule i j t t' s _ _ hc ⟨.int (g i j), H, I.tok _, ⟨_, rfl⟩, q⟩
theorem RX {f : Value → Value → Sem Value} {g : Int → Int → Int}
  (rule : ∀ (i j : Int) (t u : Tok) (s : Shared) (Q : Value → Shared → Prop) (E : Value → Shared → Prop), Q (.int (g i j) s.toks) { s with toks := s.toks + 1 } → wpAny (model X.prog X.w) X.A (f (.int i t) (.int j u)) Q E s) :
  OpR X f (rI0 fun i j => .int (g i j)) := by
 intro pins s σ H x y v u Q I rx ry h
 obtain ⟨i, j, rfl, rfl, q⟩ := h
 obtain ⟨t, rfl⟩ := rx
 obtain ⟨t', rfl⟩ := ry
 exact rule i j t t' s _ _ ⟨.int (g i j), H, I.tok _, ⟨_, rfl⟩, q⟩
theorem MT {f : Value → Value → Sem Value} {g : Int → Int → Bool}
  (rule : ∀ (i j : Int) (t u : Tok) (s : Shared) (Q : Value → Shared → Prop) (E : Value → Shared → Prop), Q (.bool (g i j)) s → wpAny (model X.prog X.w) X.A (f (.int i t) (.int j u)) Q E s) :
  OpR X f (rI0 fun i j => .bl (g i j)) := by
 intro pins s σ H x y v u Q I rx ry h
 obtain ⟨i, j, rfl, rfl, q⟩ := h
 obtain ⟨t, rfl⟩ := rx
 obtain ⟨t', rfl⟩ := ry
 exact rule i j t t' s _ _ ⟨.bl (g i j), H, I, rfl, q⟩
def O6 (i j : Int) : Prop := 0 ≤ j ∧ j ≤ 1000000 ∧ i.natAbs < 2 ^ 64
def Ep (i j : Int) : Prop := (-(2 ^ 64) < i ∧ i < 2 ^ 64) ∨ (-(2 ^ 64) < j ∧ j < 2 ^ 64)
theorem Ep.ok {i j : Int} (h : Ep i j) : IntMulOk i j := by
 rcases h with ⟨h1, h2⟩ | ⟨h1, h2⟩
 ·exact .of_left (intBits_le_64 h1 h2)
 ·exact .of_right (intBits_le_64 h1 h2)
theorem RW : OpR X (binaryOp .Add) (rI0 fun i j => .int (i + j)) := RX fun _ _ _ _ _ _ _ q => add_int q
theorem fC : OpR X (binaryOp .Sub) (rI0 fun i j => .int (i - j)) := RX fun _ _ _ _ _ _ _ q => sub_int q
theorem RP : OpR X (binaryOp .Mult) (rI Ep fun i j => .int (i * j)) := opI fun _ _ _ _ _ _ _ hc q => mul_int q hc.ok
theorem gH : OpR X (binaryOp .Mod) (rI (fun _ j => 0 < j) fun i j => .int (i % j)) := opI fun i j _ _ _ _ _ hc q => by
 have h1 : (0 : Int) < j := hc
 exact mod_int' (by omega) (by rw [Int.fmod_eq_emod_of_nonneg i (by omega)]; exact q)
theorem Hu : OpR X (binaryOp .Pow) (rI O6 fun i j => .int (i ^ j.toNat)) := opI fun _ _ _ _ _ _ _ hc q => pow_int_small hc.1 hc.2.1 hc.2.2 q
theorem fW : OpR X (binaryOp .LShift) (rI O6 fun i j => .int (i * 2 ^ j.toNat)) := opI fun _ _ _ _ _ _ _ hc q => lshift_int_small hc.1 hc.2.1 hc.2.2 q
theorem Hv : OpR X (binaryOp .BitAnd) (rI0 fun i j => .int (Builtin.bitAnd i j)) := RX fun _ _ _ _ _ _ _ q => and_int q
theorem unI {f : Value → Sem Value} {g : Int → Int}
  (rule : ∀ (i : Int) (t : Tok) (s : Shared) (Q : Value → Shared → Prop) (E : Value → Shared → Prop), Q (.int (g i) s.toks) { s with toks := s.toks + 1 } → wpAny (model X.prog X.w) X.A (f (.int i t)) Q E s) :
  UnR X f (rU fun i => .int (g i)) := by
 intro pins s σ H x v Q I rx h
 obtain ⟨i, rfl, q⟩ := h
 obtain ⟨t, rfl⟩ := rx
 exact rule i t s _ _ ⟨.int (g i), H, I.tok _, ⟨_, rfl⟩, q⟩
theorem yD : UnR X (unaryOp .USub) (rU fun i => .int (-i)) := unI fun _ _ _ _ _ q => neg_int q
end
def pP : V → V → Bool
 | .non, .non => true | .non, .int _ => true | .int _, .non => true | .non, .bl _ => true | .bl _, .non => true | .non, .str _ => true | .str _, .non => true
 | .int _, .int _ => true | .bl _, .bl _ => true | .str _, .str _ => true | .byt _, .byt _ => true
 | .int _, .str _ => true | .str _, .int _ => true | .bl _, .str _ => true | .str _, .bl _ => true
 | _, _ => false
def rEq : R2 := fun x y H Q => pP x y = true ∧ Q (.bl (decide (x = y))) H
def rNe : R2 := fun x y H Q => pP x y = true ∧ Q (.bl (!decide (x = y))) H
theorem BK {i j : Int} : decide (V.int i = V.int j) = (i == j) := by
 rw [Bool.eq_iff_iff]
 simp
theorem Jy {i j : Bool} : decide (V.bl i = V.bl j) = (i == j) := by
 rw [Bool.eq_iff_iff]
 simp
theorem BJ {i j : Str} : decide (V.str i = V.str j) = (i == j) := by
 rw [Bool.eq_iff_iff]
 simp
theorem BL {i j : Array UInt8} : decide (V.byt i = V.byt j) = (i.toList == j.toList) := by
 rw [Bool.eq_iff_iff]
 cases i
 cases j
 simp
section
variable {X : Cx} {a b c : Expr} {ta tb tc : TE} {pos : Pos}
theorem bK {pins : List (Addr × Obj)} {σ : St} {H : Hp} {s : Shared} {Q : VK} {k k' : Bool} (I : Inv X pins σ H s) (q : Q (.bl k) H) (e : k = k') : EP X pins σ Q (.bool k') s := by
 subst e
 exact ⟨.bl k, H, I, rfl, q⟩
theorem UG : OpR X (compareOp .Eq) rEq := by
 intro pins s σ H x y v u Q I rx ry h
 obtain ⟨hs, q⟩ := h
 cases x with
 | non =>
  cases rx
  cases y with
  | non => cases ry; exact PySem.EqNone.eq_none_none (bK I q (by simp))
  | bl j => cases ry; exact PySem.EqNone.eq_none_bool (bK I q (by simp))
  | int j => obtain ⟨t', rfl⟩ := ry; exact PySem.EqNone.eq_none_int (bK I q (by simp))
  | str j => obtain ⟨t', rfl⟩ := ry; exact PySem.EqNone.eq_none_str (bK I q (by simp))
  | _ => exact absurd (show false = true from hs) Bool.false_ne_true
 | bl i =>
  cases rx
  cases y with
  | non => cases ry; exact PySem.EqNone.eq_bool_none (bK I q (by simp))
  | bl j => cases ry; exact eq_bool (bK I q Jy)
  | str j => obtain ⟨t', rfl⟩ := ry; exact PySem.EqMixed.eq_bool_str (bK I q (by simp))
  | _ => exact absurd (show false = true from hs) Bool.false_ne_true
 | int i =>
  obtain ⟨t, rfl⟩ := rx
  cases y with
  | non => cases ry; exact PySem.EqNone.eq_int_none (bK I q (by simp))
  | int j => obtain ⟨t', rfl⟩ := ry; exact eq_int (bK I q BK)
  | str j => obtain ⟨t', rfl⟩ := ry; exact PySem.EqMixed.eq_int_str (bK I q (by simp))
  | _ => exact absurd (show false = true from hs) Bool.false_ne_true
 | str i =>
  obtain ⟨t, rfl⟩ := rx
  cases y with
  | non => cases ry; exact PySem.EqNone.eq_str_none (bK I q (by simp))
  | bl j => cases ry; exact PySem.EqMixed.eq_str_bool (bK I q (by simp))
  | int j => obtain ⟨t', rfl⟩ := ry; exact PySem.EqMixed.eq_str_int (bK I q (by simp))
  | str j => obtain ⟨t', rfl⟩ := ry; exact eq_str (bK I q BJ)
  | _ => exact absurd (show false = true from hs) Bool.false_ne_true
 | byt i =>
  obtain ⟨t, rfl⟩ := rx
  cases y with
  | byt j => obtain ⟨t', rfl⟩ := ry; exact PySem.W.eq_bytes (bK I q BL)
  | _ => exact absurd (show false = true from hs) Bool.false_ne_true
 | _ => cases y <;> exact absurd (show false = true from hs) Bool.false_ne_true
theorem Uy : OpR X (compareOp .NotEq) rNe := by
 intro pins s σ H x y v u Q I rx ry h
 obtain ⟨hs, q⟩ := h
 cases x with
 | non =>
  cases rx
  cases y with
  | non => cases ry; exact PySem.EqNone.ne_none_none (bK I q (by simp))
  | bl j => cases ry; exact PySem.EqNone.ne_none_bool (bK I q (by simp))
  | int j => obtain ⟨t', rfl⟩ := ry; exact PySem.EqNone.ne_none_int (bK I q (by simp))
  | str j => obtain ⟨t', rfl⟩ := ry; exact PySem.EqNone.ne_none_str (bK I q (by simp))
  | _ => exact absurd (show false = true from hs) Bool.false_ne_true
 | bl i =>
  cases rx
  cases y with
  | non => cases ry; exact PySem.EqNone.ne_bool_none (bK I q (by simp))
  | bl j => cases ry; exact ne_bool (bK I q (congrArg not Jy))
  | str j => obtain ⟨t', rfl⟩ := ry; exact PySem.EqMixed.ne_bool_str (bK I q (by simp))
  | _ => exact absurd (show false = true from hs) Bool.false_ne_true
 | int i =>
  obtain ⟨t, rfl⟩ := rx
  cases y with
  | non => cases ry; exact PySem.EqNone.ne_int_none (bK I q (by simp))
  | int j => obtain ⟨t', rfl⟩ := ry; exact ne_int (bK I q (congrArg not BK))
  | str j => obtain ⟨t', rfl⟩ := ry; exact PySem.EqMixed.ne_int_str (bK I q (by simp))
  | _ => exact absurd (show false = true from hs) Bool.false_ne_true
 | str i =>
  obtain ⟨t, rfl⟩ := rx
  cases y with
  | non => cases ry; exact PySem.EqNone.ne_str_none (bK I q (by simp))
  | bl j => cases ry; exact PySem.EqMixed.ne_str_bool (bK I q (by simp))
  | int j => obtain ⟨t', rfl⟩ := ry; exact PySem.EqMixed.ne_str_int (bK I q (by simp))
  | str j => obtain ⟨t', rfl⟩ := ry; exact ne_str (bK I q (congrArg not BJ))
  | _ => exact absurd (show false = true from hs) Bool.false_ne_true
 | byt i =>
  obtain ⟨t, rfl⟩ := rx
  cases y with
  | byt j => obtain ⟨t', rfl⟩ := ry; exact PySem.W.ne_bytes (bK I q (congrArg not BL))
  | _ => exact absurd (show false = true from hs) Bool.false_ne_true
 | _ => cases y <;> exact absurd (show false = true from hs) Bool.false_ne_true
theorem pG : OpR X (compareOp .Lt) (rI0 fun i j => .bl (decide (i < j))) := MT fun _ _ _ _ _ _ _ q => lt_int q
theorem gh : OpR X (compareOp .LtE) (rI0 fun i j => .bl (decide (i ≤ j))) := MT fun _ _ _ _ _ _ _ q => le_int q
theorem Pu : OpR X (compareOp .Gt) (rI0 fun i j => .bl (decide (j < i))) := MT fun _ _ _ _ _ _ _ q => gt_int q
theorem Uz : OpR X (compareOp .GtE) (rI0 fun i j => .bl (decide (j ≤ i))) := MT fun _ _ _ _ _ _ _ q => ge_int q
theorem CW : OpR X (compareOp .In) (fun x y H Q => ∃ i j, x = .str i ∧ y = .str j ∧ Q (.bl (!(Builtin.Str.occurrences j i 0 j.length 1).isEmpty)) H) := by
 intro pins s σ H x y v u Q I rx ry h
 obtain ⟨i, j, rfl, rfl, q⟩ := h
 obtain ⟨t, rfl⟩ := rx
 obtain ⟨t', rfl⟩ := ry
 exact in_str (bK I q rfl)
theorem vL : OpR X (compareOp .Is) (fun x y H Q => y = .non ∧ Q (.bl (decide (x = .non))) H) := by
 intro pins s σ H x y v u Q I rx ry h
 obtain ⟨rfl, q⟩ := h
 cases ry
 refine is_none_gen (bK I q ?_)
 cases x <;> first
  | (cases rx; rfl)
  | (obtain ⟨t, rfl⟩ := rx; rfl)
theorem aU (b : Expr) {op : CmpOp} (h : op ≠ .In := by decide) (h2 : op ≠ .NotIn := by decide) : behindInMarks op b = false := by
 have e1 : (op == CmpOp.In) = false := by cases op <;> first | rfl | exact absurd rfl h
 have e2 : (op == CmpOp.NotIn) = false := by cases op <;> first | rfl | exact absurd rfl h2
 cases b <;> simp [behindInMarks, e1, e2]
theorem MF {op : CmpOp} {r : R2} (ho : OpR X (compareOp op) r) (ha : PE X a ta) (hb : PE X b tb) (hm : behindInMarks op b = false) : PE X (.Compare a [op] [b] pos) (tOp r ta tb) := by
 intro pins s σ H Q I h
 exact wpAny_Compare1 (Tq ha hb I h fun v u s2 x y H2 I2 rx ry q => ho pins s2 σ H2 x y v u Q I2 rx ry q) hm
def um (t : TE) : TT := fun σ H Q => t σ H fun x H' => ∃ k, x = .bl k ∧ Q k H'
theorem LC {op : CmpOp} {r : R2} (ho : OpR X (compareOp op) r) (ha : PE X a ta) (hb : PE X b tb) (hm : behindInMarks op b = false) : PT X (.Compare a [op] [b] pos) (um (tOp r ta tb)) := by
 intro pins s σ H Q I h
 refine wpAny_isTrue_Compare1 (thE (ha pins s σ H _ I h) fun v s1 x H1 I1 r1 q1 => thE (hb pins s1 σ H1 _ I1 q1) fun u s2 y H2 I2 r2 q2 =>
  thn (ho pins s2 σ H2 x y v u _ I2 r1 r2 q2) fun c s3 ⟨z, H3, I3, r3, k, e, q3⟩ => ?_) hm
 subst e
 cases r3
 exact wpAny_truthy_bool ⟨H3, I3, q3⟩
def qz (r r' : R2) (ta tb tc : TE) : TE := fun σ H Q => ta σ H fun x H1 => tb σ H1 fun y H2 => r x y H2 fun z H3 => ∃ k, z = .bl k ∧
 (if k = true then tc σ H3 fun w' H4 => r' y w' H4 Q else Q (.bl false) H3)
theorem Hr {op op' : CmpOp} {r r' : R2} (ho : OpR X (compareOp op) r) (ho' : OpR X (compareOp op') r') (ha : PE X a ta) (hb : PE X b tb) (hc : PE X c tc)
  (hm : lastMarks [op, op'] [b, c] = false := by with_unfolding_all rfl) : PE X (.Compare a [op, op'] [b, c] pos) (qz r r' ta tb tc) := by
 intro pins s σ H Q I h
 refine Compare_chain (thE (ha pins s σ H _ I h) fun v s1 x H1 I1 r1 q1 => chain_link (thE (hb pins s1 σ H1 _ I1 q1) fun u s2 y H2 I2 r2 q2 =>
  thn (ho pins s2 σ H2 x y v u _ I2 r1 r2 q2) fun d s3 ⟨z, H3, I3, r3, k, e, q3⟩ => ?_)) hm
 subst e
 cases r3
 refine wpAny_truthy_bool ?_
 cases k with
 | false => exact ite_ff ⟨.bl false, H3, I3, rfl, q3⟩
 | true => exact ite_tt (chain_last (thn (hc pins s3 σ H3 _ I3 q3) fun w' s4 ⟨z', H4, I4, r4, q4⟩ => ho' pins s4 σ H4 y z' u w' Q I4 r2 r4 q4))
theorem G6 {op op' : CmpOp} {r r' : R2} (ho : OpR X (compareOp op) r) (ho' : OpR X (compareOp op') r') (ha : PE X a ta) (hb : PE X b tb) (hc : PE X c tc)
  (hm : lastMarks [op, op'] [b, c] = false := by with_unfolding_all rfl) : PT X (.Compare a [op, op'] [b, c] pos) (um (qz r r' ta tb tc)) := by
 intro pins s σ H Q I h
 refine isTrue_chain (thE (ha pins s σ H _ I h) fun v s1 x H1 I1 r1 q1 => test_link (thE (hb pins s1 σ H1 _ I1 q1) fun u s2 y H2 I2 r2 q2 =>
  thn (ho pins s2 σ H2 x y v u _ I2 r1 r2 q2) fun d s3 ⟨z, H3, I3, r3, k, e, q3⟩ => ?_)) hm
 subst e
 cases r3
 refine wpAny_truthy_bool ?_
 cases k with
 | false =>
  obtain ⟨k', e', q'⟩ := q3
  cases e'
  exact ite_ff ⟨H3, I3, q'⟩
 | true =>
  refine ite_tt (test_last (thn (hc pins s3 σ H3 _ I3 q3) fun w' s4 ⟨z', H4, I4, r4, q4⟩ => thn (ho' pins s4 σ H4 y z' u w' _ I4 r2 r4 q4) fun d' s5 ⟨z2, H5, I5, r5, k2, e2, q5⟩ => ?_))
  subst e2
  cases r5
  exact wpAny_truthy_bool ⟨H5, I5, q5⟩
def Vx (K : PySem.W.Frag) (x : V) (H : Hp) (k : Bool) : Prop :=
 match x with
 | .non => k = false
 | .bl b => k = b
 | .int i => k = (i != 0)
 | .str y => y.length ≤ sizeLine ∧ k = ((y.length : Int) != 0)
 | .byt y => y.size ≤ sizeLine ∧ k = ((y.size : Int) != 0)
 | .ref p => (∃ xs, SqL K H p xs ∧ k = !xs.isEmpty) ∨ (∃ xs, SqT K H p xs ∧ k = !xs.isEmpty) ∨ ∃ kvs, H p = some (.dK kvs) ∧ k = !kvs.isEmpty
 | _ => False
theorem zA {κ : Type} {kvs : List (κ × V)} {vs : List (κ × Value)} (r : KV kvs vs) : (!vs.isEmpty) = !kvs.isEmpty := by
 cases r <;> rfl
theorem rG {xs : List V} {its : List Value} (r : Vals xs its) : (!its.toArray.isEmpty) = !xs.isEmpty := by
 cases r <;> simp
theorem mF : (sizeLine : Nat) < 2 ^ 63 := by rw [sizeLine_eq]; decide
theorem Qg : Vy X (fun x H Q => ∃ k, Vx X.K x H k ∧ Q k H) := by
 intro pins s σ H x v Q I rx h
 obtain ⟨k, e, q⟩ := h
 have hl := mF
 have hs : sizeLine = 16777216 := sizeLine_eq
 cases x with
 | non =>
  cases rx
  have e' : k = false := e
  subst e'
  exact truthy_none ⟨H, I, q⟩
 | bl b =>
  cases rx
  have e' : k = b := e
  subst e'
  exact wpAny_truthy_bool ⟨H, I, q⟩
 | int i =>
  obtain ⟨t, rfl⟩ := rx
  have e' : k = (i != 0) := e
  subst e'
  exact PySem.P.truthy_int ⟨H, I, q⟩
 | str y =>
  obtain ⟨t, rfl⟩ := rx
  obtain ⟨hy, e'⟩ : y.length ≤ sizeLine ∧ k = ((y.length : Int) != 0) := e
  subst e'
  exact PySem.P.truthy_str (by omega) ⟨H, I.tok _, q⟩
 | byt y =>
  obtain ⟨t, rfl⟩ := rx
  obtain ⟨hy, e'⟩ : y.size ≤ sizeLine ∧ k = ((y.size : Int) != 0) := e
  subst e'
  exact PySem.W.truthy_bytes (by omega) ⟨H, I.tok _, q⟩
 | ref p =>
  cases rx
  have e' : (∃ xs, SqL X.K H p xs ∧ k = !xs.isEmpty) ∨ (∃ xs, SqT X.K H p xs ∧ k = !xs.isEmpty) ∨ ∃ kvs, H p = some (.dK kvs) ∧ k = !kvs.isEmpty := e
  rcases e' with ⟨xs, hx, e'⟩ | ⟨xs, hx, e'⟩ | ⟨kvs, hx, e'⟩
  ·subst e'
   obtain ⟨its, r, pl, hz⟩ := I.list hx
   have hlen := r.length
   exact wpAny_truthy_list pl.isList (by simp only [List.size_toArray]; omega) ⟨H, I.tok _, by rw [rG r]; exact q⟩
  ·subst e'
   obtain ⟨its, r, pl, hz⟩ := I.tuple hx
   have hlen := r.length
   exact truthy_tuple pl (by simp only [List.size_toArray]; omega) ⟨H, I.tok _, by rw [rG r]; exact q⟩
  ·subst e'
   obtain ⟨hz, hS, vs, r, m⟩ : kvs.length ≤ sizeLine ∧ (p == sysModules) = false ∧ ∃ vs, KV kvs vs ∧ s.heap.DictOf (cU X.prog X.w) p vs := I.hok p _ hx
   have hlen : kvs.length = vs.length := Paired.length r
   exact wpAny_truthy_dict hS m (by omega) ⟨H, I.tok _, by rw [zA r]; exact q⟩
 | _ => exact (show False from e).elim
theorem zf : OpR X (binaryOp .Add) (fun x y H Q => ∃ i j, x = .str i ∧ y = .str j ∧ i.length + j.length ≤ sizeLine ∧ Q (.str (i ++ j)) H) := by
 intro pins s σ H x y v u Q I rx ry h
 obtain ⟨i, j, rfl, rfl, hz, q⟩ := h
 obtain ⟨t, rfl⟩ := rx
 obtain ⟨t', rfl⟩ := ry
 exact add_str (fun t' tk => ⟨.str (i ++ j), H, I.tok _, ⟨_, rfl⟩, q⟩) hz
theorem vals1 {x : V} {us : List Value} (r : Vals [x] us) : ∃ u, us = [u] ∧ RelV x u := by
 cases r with
 | cons r1 r2 => cases r2; exact ⟨_, rfl, r1⟩
theorem vals2 {x y : V} {us : List Value} (r : Vals [x, y] us) : ∃ u w', us = [u, w'] ∧ RelV x u ∧ RelV y w' := by
 cases r with
 | cons r1 r2 =>
  cases r2 with
  | cons r3 r4 => cases r4; exact ⟨_, _, rfl, r1, r3⟩
theorem yp : cM X (.builtin "abs") (fun xs H Q => ∃ i, xs = [.int i] ∧ Q (.int (if i < 0 then -i else i)) H) := by
 intro pins s σ H xs us Q I r h
 obtain ⟨i, rfl, q⟩ := h
 obtain ⟨u, rfl, t, rfl⟩ := vals1 r
 exact call_abs_int fun u tk => ⟨.int (if i < 0 then -i else i), H, I.tok _, ⟨_, rfl⟩, q⟩
theorem Ed (hc : X.calm = true) : cM X (.builtin "max") (fun xs H Q => ∃ i j, xs = [.int i, .int j] ∧ Q (.int (if j > i then j else i)) H) := by
 intro pins s σ H xs us Q I r h
 obtain ⟨i, j, rfl, q⟩ := h
 obtain ⟨u, w', rfl, ⟨t, rfl⟩, ⟨t', rfl⟩⟩ := vals2 r
 refine max_two_ints (I.ok.hd hc) fun h' tk k => ⟨_, H, I.kept k, ?_, q⟩
 by_cases hj : j > i
 ·rw [if_pos hj, if_pos hj]; exact ⟨_, rfl⟩
 ·rw [if_neg hj, if_neg hj]; exact ⟨_, rfl⟩
theorem Eb (hc : X.calm = true) : cM X (.builtin "min") (fun xs H Q => ∃ i j, xs = [.int i, .int j] ∧ Q (.int (if j < i then j else i)) H) := by
 intro pins s σ H xs us Q I r h
 obtain ⟨i, j, rfl, q⟩ := h
 obtain ⟨u, w', rfl, ⟨t, rfl⟩, ⟨t', rfl⟩⟩ := vals2 r
 refine min_two_ints (I.ok.hd hc) fun h' tk k => ⟨_, H, I.kept k, ?_, q⟩
 by_cases hj : j < i
 ·rw [if_pos hj, if_pos hj]; exact ⟨_, rfl⟩
 ·rw [if_neg hj, if_neg hj]; exact ⟨_, rfl⟩
theorem uQ : cM X (.type "int") (fun xs H Q => (∃ i, xs = [.int i] ∧ Q (.int i) H) ∨ ∃ k, xs = [.bl k] ∧ Q (.int (if k then 1 else 0)) H) := by
 intro pins s σ H xs us Q I r h
 rcases h with ⟨i, rfl, q⟩ | ⟨k, rfl, q⟩
 ·obtain ⟨u, rfl, t, rfl⟩ := vals1 r
  exact call_int_int ⟨.int i, H, I, ⟨_, rfl⟩, q⟩
 ·obtain ⟨u, rfl, r1⟩ := vals1 r
  cases r1
  exact call_int_bool ⟨.int (if k then 1 else 0), H, I.tok _, ⟨_, rfl⟩, q⟩
theorem v8 : cM X (.type "str") (fun xs H Q => ∃ i, xs = [.int i] ∧ i.natAbs.log2 < 1920 ∧ Q (.str (toString i)) H) := by
 intro pins s σ H xs us Q I r h
 obtain ⟨i, rfl, hz, q⟩ := h
 obtain ⟨u, rfl, t, rfl⟩ := vals1 r
 exact PySem.P.str_of_int hz ⟨.str _, H, I.tok _, ⟨_, rfl⟩, q⟩
end
structure Tz (h : Heap) (x dx C : Addr) (mA : Str → Option Value) : Prop where
 obj : h.get? x = some (PySem.W.instObj C dx)
 ns : h.Ns1 dx mA
 ne : dx ≠ x
theorem Ds {h : Heap} {dx : Addr} {mA : Str → Option Value} (n : h.Ns1 dx mA) : ∃ od, h.get? dx = some od ∧ ∀ name, PySem.W.lookIn name od = some (mA name) := by
 obtain ⟨o, es, ep, ho, hd, hk, _, hm⟩ := n
 refine ⟨o, ho, fun name => ?_⟩
 have e := hm name
 unfold nsFind findBy at e
 rw [← Array.find?_toList] at e
 unfold PySem.W.lookIn
 rw [hd]
 dsimp only
 split
 ·rename_i y q
  rw [q] at e
  exact congrArg some e
 ·rename_i q
  rw [q] at e
  have a : es.toList.any (·.refKey) = false := by
   rw [List.any_eq_false]
   intro y hy
   obtain ⟨z, t, hkey⟩ := hk y (Array.mem_toList_iff.mp hy)
   simp [DictEntry.refKey, hkey]
  have a' : ¬ es.toList.any (·.refKey) = true := by rw [a]; exact Bool.false_ne_true
  rw [if_neg a']
  exact congrArg some e
theorem Tz.look {h : Heap} {x dx C : Addr} {mA : Str → Option Value} (I : Tz h x dx C mA) : ∃ od, PySem.W.InstAt h x (PySem.W.instObj C dx) C (some od) ∧ ∀ name, PySem.W.lookIn name od = some (mA name) :=
 let ⟨od, ho, hl⟩ := Ds I.ns
 ⟨od, ⟨I.obj, rfl, rfl, ho⟩, hl⟩
section
variable {prog : Program} {w : World} {A : Around} {E : Value → Shared → Prop} {s : Shared} {K : PySem.W.Frag} {x dx C f : Addr} {mA : Str → Option Value} {name : Str} {v : Value}
end
theorem wD.some_of {v : V} {o : Option Value} (r : wD (some v) o) : ∃ u, o = some u ∧ RelV v u := by
 cases o with
 | none => exact (show False from r).elim
 | some u => exact ⟨u, rfl, r⟩
section
variable {P : Program} {w : World} {H H' : Hp} {h h' : Heap} {a C dx : Addr} {fs fs' : List (Str × V)}
theorem NT (hok : HOk P w H h) (e : H a = some (.ins C dx fs)) : ∃ mA, Tz h a dx C mA ∧ (∀ f, wD (fs.lookup f) (mA f)) ∧ PySem.Within mA (fs.map (·.1)) ∧ fs.length ≤ 1000 ∧ H dx = some (.own a) := by
 obtain ⟨d, z, ne, ob, mA, n, r, q⟩ := (show cu P w H h a (.ins C dx fs) from hok a _ e)
 exact ⟨mA, ⟨ob, n, ne⟩, r, q, z, d⟩
end
structure Cls (K : PySem.W.Frag) (C : Addr) : Prop where
 pg : PySem.W.plainGet K C Str.empty = true
 hd : PySem.W.hasDictIn K C = true
 po : PySem.W.plainOver K C = true
 sa : PySem.W.findIn K (.ref C) "__setattr__" = some (some (.builtin "object.__setattr__"))
theorem Cls.get {K : PySem.W.Frag} {C : Addr} (c : Cls K C) (f : Str) : PySem.W.plainGet K C f = true := c.pg
section
variable {X : Cx} {pins : List (Addr × Obj)} {σ : St} {H : Hp} {s : Shared} {a C dx : Addr} {fs : List (Str × V)} {f : Str} {v : V} {A : Around} {E : Value → Shared → Prop}
end
section
variable {X : Cx} {o e value : Expr} {f : Str} {pos pos' tpos : Pos} {ta tv : TE}
def Vp : V → V → Hp → VK → Prop := fun x y H Q => ∃ i j, x = .int i ∧ y = .int j ∧ Q (.int (i + j)) H
end
section
variable {X : Cx} {pins : List (Addr × Obj)} {σ : St} {H : Hp} {s : Shared} {A : Around} {E : Value → Shared → Prop} {Q : Value → Shared → Prop} {c : Value} {b : Bool}
inductive lK (K : PySem.W.Frag) (H : Hp) : V → Value → Prop where
 | non : lK K H .non (.type "NoneType")
 | bl (x : Bool) : lK K H (.bl x) (.type "bool")
 | int (i : Int) : lK K H (.int i) (.type "int")
 | str (x : Str) : lK K H (.str x) (.type "str")
 | flt (x : UInt64) : lK K H (.flt x) (.type "float")
 | lst {a : Addr} {xs : List V} (e : H a = some (.lst xs)) : lK K H (.ref a) (.type "list")
 | frz {a : Addr} {o : Obj} {xs : List V} (e : H a = some (.frz o (.lst xs))) : lK K H (.ref a) (.type "list")
 | tup {a : Addr} {xs : List V} (e : H a = some (.tup xs)) : lK K H (.ref a) (.type "tuple")
 | dK {a : Addr} {kvs : List (Key × V)} (e : H a = some (.dK kvs)) : lK K H (.ref a) (.type "dict")
 | dT {a : Addr} {kvs : List (List Key × V)} (e : H a = some (.dT kvs)) : lK K H (.ref a) (.type "dict")
 | ins {a C dx : Addr} {fs : List (Str × V)} (e : H a = some (.ins C dx fs)) (cl : Cls K C) (ha : PySem.W.findIn K (.ref C) "__class__" = some (some (.builtin "object.__class__")))
   (hn : PySem.W.specialIn K (.builtin "object.__class__") "__get__" = some (some (.builtin "getset_descriptor.__get__"))) (htk : PySem.W.takesIn K (.builtin "object.__class__") = some true)
   (hm : PySem.W.mroIn K C (.type "object") = some true) : lK K H (.ref a) (.ref C)
theorem Dv {x : V} {u t : Value} (I : Inv X pins σ H s) (rx : RelV x u) (ty : lK X.K H x t) (e : PySem.W.kitOne X.K t c = some b) (h : ∀ tk, Q (.bool b) { s with toks := tk }) :
  wpAny (model X.prog X.w) A (call (.builtin "isinstance") [u, c]) Q E s := by
 cases ty with
 | non => cases (show u = Value.none from rx); exact PySem.W.kia_one PySem.W.kitx_none I.kIn True.intro e (fun z => nomatch z) h
 | bl y => cases (show u = Value.bool y from rx); exact PySem.W.kia_one PySem.W.kitx_bool I.kIn True.intro e (fun z => nomatch z) h
 | int i => obtain ⟨t, q⟩ := (show ∃ t, u = Value.int i t from rx); cases q; exact PySem.W.kia_one PySem.W.kitx_int I.kIn True.intro e (fun z => nomatch z) h
 | str y => obtain ⟨t, q⟩ := (show ∃ t, u = Value.str y t from rx); cases q; exact PySem.W.kia_one PySem.W.kitx_str I.kIn True.intro e (fun z => nomatch z) h
 | flt y => obtain ⟨t, q⟩ := (show ∃ t, u = Value.float y t from rx); cases q; exact PySem.W.kia_one PySem.W.kitx_float I.kIn True.intro e (fun z => nomatch z) h
 | @lst a xs ea =>
  cases (show u = Value.ref a from rx)
  obtain ⟨_, _, n, _, h1⟩ := (show cu X.prog X.w H s.heap a (.lst xs) from I.hok a _ ea)
  exact PySem.W.kia_one PySem.W.kitx_list I.kIn ⟨_, h1, rfl⟩ e (fun z => nomatch z) h
 | @frz a ob xs ea =>
  cases (show u = Value.ref a from rx)
  obtain ⟨_, _, _, n, _, h1⟩ := (show cu X.prog X.w H s.heap a (.frz ob (.lst xs)) from I.hok a _ ea)
  exact PySem.W.kia_one PySem.W.kitx_list I.kIn ⟨_, h1, rfl⟩ e (fun z => nomatch z) h
 | @tup a xs ea =>
  cases (show u = Value.ref a from rx)
  obtain ⟨_, _, _, p⟩ := (show cu X.prog X.w H s.heap a (.tup xs) from I.hok a _ ea)
  obtain ⟨o, h1, h2, _⟩ := p
  exact PySem.W.kia_one PySem.W.kitx_tuple I.kIn ⟨o, h1, h2⟩ e (fun z => nomatch z) h
 | @dK a kvs ea =>
  cases (show u = Value.ref a from rx)
  obtain ⟨_, _, vs, _, p⟩ := (show cu X.prog X.w H s.heap a (.dK kvs) from I.hok a _ ea)
  obtain ⟨o, es, ep, h1, h2, _⟩ := p
  exact PySem.W.kia_one PySem.W.kitx_dict I.kIn ⟨o, h1, h2.1⟩ e (fun z => nomatch z) h
 | @dT a kvs ea =>
  cases (show u = Value.ref a from rx)
  obtain ⟨_, _, xs, _, o, es, ep, h1, h2, _⟩ := (show cu X.prog X.w H s.heap a (.dT kvs) from I.hok a _ ea)
  exact PySem.W.kia_one PySem.W.kitx_dict I.kIn ⟨o, h1, h2.1⟩ e (fun z => nomatch z) h
 | @ins a C dx fs ea cl ha hn htk hm =>
  cases (show u = Value.ref a from rx)
  obtain ⟨mA, O, _⟩ := NT I.hok ea
  obtain ⟨od, J, _⟩ := O.look
  exact PySem.W.kia_one (PySem.W.kitx_own (cl.get _) cl.hd ha hn htk hm) I.kIn J e (fun z => nomatch z) h
end
structure fZ (k : Nat) (A : Around) : Prop where
 hd : A.handled = none
 dp : A.depth + 3 * k + 5 < recursionLimit
 un : A.units + 16 * k + 200 < cLine
 gd : A.guards = some []
theorem fZ.mono {j k : Nat} {A : Around} (r : fZ k A) (h : j ≤ k) : fZ j A := ⟨r.hd, by have := r.dp; omega, by have := r.un; omega, r.gd⟩
theorem fZ.deeper {k : Nat} {A : Around} (r : fZ (k + 1) A) (env : Env) : fZ k (A.deeper env) :=
 ⟨r.hd, by have := r.dp; show A.depth + 1 + 3 * k + 5 < _; omega, by have := r.un; show A.units + 3 + 16 * k + 200 < _; omega, r.gd⟩
theorem fZ.depth {k : Nat} {A : Around} (r : fZ k A) : A.depth < recursionLimit := by have := r.dp; omega
theorem fZ.bL {k : Nat} {A : Around} (r : fZ k A) : A.units < cLine := by have := r.un; omega
def sY : TA := fun _ H Q => Q [] H
def gA (ta : TE) (tr : TA) : TA := fun σ H Q => ta σ H fun x H1 => tr σ H1 fun xs H2 => Q (x :: xs) H2
section
variable {X : Cx} {e : Expr} {es : List Expr} {te : TE} {t : TA} {pos : Pos}
theorem RM : PA X [] sY := fun _ _ _ _ H Q I h => Calls.spliced_nil ⟨[], H, I, .nil, h⟩
theorem MP (ha : PE X e te) (hr : PA X es t) (hs : starEach (e :: es) X.env = (false, eval e X.env) :: starEach es X.env := by rfl) : PA X (e :: es) (gA te t) := by
 intro pos pins s σ H Q I h
 rw [hs]
 show wpAny _ _ (spliced ((false, eval e X.env) :: backTo pos (starEach es X.env))) _ _ s
 refine Calls.spliced_cons (thE (ha pins s σ H _ I h) fun u s1 x H1 I1 r1 q1 => ?_)
 exact thA (hr pos pins s1 σ H1 _ I1 q1) fun us s2 xs H2 I2 r2 q2 => ⟨x :: xs, H2, I2, .cons r1 r2, q2⟩
def J6 (t : TA) : TE := fun σ H Q => t σ H fun xs H1 => xs.length ≤ sizeLine ∧ ∀ p, H1 p = none → Q (.ref p) (upd H1 p (.tup xs))
def Qo (t : TA) : TE := fun σ H Q => t σ H fun xs H1 => xs.length ≤ sizeLine ∧ ∀ p, H1 p = none → Q (.ref p) (upd H1 p (.lst xs))
theorem Rx {x1} (h : PA X es t) : PE X (.Tuple es x1 pos) (J6 t) := by
 intro pins s σ H Q I hq
 refine wpAny_Tuple_spliced (thn (h pos pins s σ H _ I hq) fun us s1 ⟨xs, H1, I1, r, z, q⟩ => ⟨by rw [← r.length]; exact z, ?_⟩)
 have hf : H1 s1.heap.objs.size = none := I1.hok.fresh (Nat.le_refl _)
 refine ⟨.ref s1.heap.objs.size, upd H1 s1.heap.objs.size (.tup xs), I1.laid (t' := s1.toks) (fun b u e => Heap.get?_push_of_some _ e) (Nat.le_refl _) ?_, rfl, q _ hf⟩
 exact ⟨z, us, r, ⟨_, Heap.get?_push_size _ rfl, rfl, _, rfl⟩⟩
theorem RG (h : PA X es t) : PE X (.List es pos) (Qo t) := by
 intro pins s σ H Q I hq
 refine wpAny_List_spliced (thn (h pos pins s σ H _ I hq) fun us s1 ⟨xs, H1, I1, r, z, q⟩ => ⟨by rw [← r.length]; exact z, ?_⟩)
 have hf : H1 s1.heap.objs.size = none := I1.hok.fresh (Nat.le_refl _)
 refine ⟨.ref s1.heap.objs.size, upd H1 s1.heap.objs.size (.lst xs), I1.laid (t' := s1.toks) (fun b u e => Heap.get?_push_of_some _ e) (Nat.le_refl _) ?_, rfl, q _ hf⟩
 exact ⟨z, us, 0, r, Heap.get?_push_size _ rfl⟩
end
abbrev Sp := List V → Hp → VK → XK → Prop
abbrev CXT := List Env → Hp → Shared → XK → Value → Shared → Prop
structure O5 (P : Program) (w : World) (K : PySem.W.Frag) (mg : Str → Option Value) (base : Heap) (A : Around) (outer : List Env) (s : Shared) (H : Hp) : Prop where
 frames : A.frames = some outer
 mod : Mod K mg base
 bs : ∀ b o, base.get? b = some o → s.heap.get? b = some o ∧ H b = none
 bsz : base.objs.size ≤ s.heap.objs.size
 qe : s.heap.FunFrames base outer
 frf : ∀ b ∈ frs outer, H b = none
 hok : HOk P w H s.heap
 bare : AllBare s.gens
def CE (outer : List Env) (P : Program) (w : World) (H : Hp) (s : Shared) (Q : VK) (u : Value) (s' : Shared) : Prop :=
 ∃ v H', s'.os = s.os ∧ AllBare s'.gens ∧ Un (frs outer) [] H H' s.heap s'.heap ∧ HOk P w H' s'.heap ∧ RelV v u ∧ Q v H'
def CR (CX : CXT) (outer : List Env) (P : Program) (w : World) (H : Hp) (s : Shared) (Q : VK) (E : XK) (r : Result) (s' : Shared) : Prop :=
 match r with
 | .ok (.ret u) => CE outer P w H s Q u s'
 | .ok _ => False
 | .error e => CX outer H s E e s'
structure cX (P : Program) (w : World) (K : PySem.W.Frag) (mg : Str → Option Value) (base : Heap) (CX : CXT) (k : Nat) (f : Addr) (fd : FuncData) (ps : List Str) (sp : Sp) : Prop where
 len : ∀ vs H Q E, sp vs H Q E → vs.length = ps.length
 run : ∀ (A : Around) (outer : List Env) (s : Shared) (H : Hp) (args : Args) (us : List Value) (vs : List V) (Q : VK) (E : XK), fZ k A → O5 P w K mg base A outer s H → BindsTo s fd args (ps.zip us) → Vals vs us → sp vs H Q E →
  codeAny (model P w) A (.call (.ref f) args) (CR CX outer P w H s Q E) s
section
variable {X : Cx} {pins : List (Addr × Obj)} {σ : St} {H : Hp} {s s' : Shared}
theorem Inv.env0 (I : Inv X pins σ H s) : O5 X.prog X.w X.K X.mg X.base X.A X.stack s H :=
 ⟨I.ok.frames, I.ok.mod, I.bs, Nat.le_trans I.ok.bsz I.sz, I.stack, I.zY, I.hok, I.bare⟩
theorem Inv.after {Q : VK} {u : Value} (I : Inv X pins σ H s) (h : CE X.stack X.prog X.w H s Q u s') : EP X pins σ Q u s' := by
 obtain ⟨v, H', os, bare, un, hok, r, q⟩ := h
 obtain ⟨hh, g, d, t, os'⟩ := s'
 obtain rfl : os' = s.os := os
 exact ⟨v, H', I.call (h' := hh) (g' := g) (d' := d) (t' := t) (ch := []) un hok bare (fun b z => absurd z (by simp)), r, q⟩
end
def mR (sp : Sp) (dvs : List V) (E : XK) (t : TA) : TE := fun σ H Q => t σ H fun vs H1 => sp (vs ++ dvs) H1 Q E
def Binds (K : PySem.W.Frag) (fd : FuncData) (ps : List Str) (ds : List Value) : Prop :=
 ∀ (s : Shared) (us : List Value), K.In s.heap → (us ++ ds).length = ps.length → BindsTo s fd ⟨us, []⟩ (ps.zip (us ++ ds))
theorem Binds.all {K : PySem.W.Frag} {fd : FuncData} {ps : List Str} (h : ∀ us : List Value, us.length = ps.length → bindArgs fd ⟨us, []⟩ = pure (ps.zip us)) : Binds K fd ps [] := fun s us _ hl => by
 rw [List.append_nil] at hl ⊢
 exact .of_eq (h us hl)
def zX (CX : CXT) (X : Cx) (E : XK) : Prop := ∀ (pins : List (Addr × Obj)) (σ : St) (H : Hp) (s : Shared) (e : Value) (s' : Shared), Inv X pins σ H s → CX X.stack H s E e s' → X.xe e s'
section
variable {X : Cx} {CX : CXT} {k : Nat} {f C : Addr} {fd : FuncData} {ps : List Str} {sp : Sp} {dvs : List V} {ds : List Value} {E : XK} {x m : Str} {p pos apos : Pos} {e o : Expr} {es : List Expr} {ta : TE} {t : TA}
theorem QL {pins : List (Addr × Obj)} {σ : St} {H : Hp} {s : Shared} {Q : VK} {us : List Value} {vs : List V} (F : cX X.prog X.w X.K X.mg X.base CX k f fd ps sp) (hr : fZ k X.A) (hb : Binds X.K fd ps ds) (hd : Vals dvs ds) (hx : zX CX X E)
  (I : Inv X pins σ H s) (r : Vals vs us) (h : sp (vs ++ dvs) H Q E) : wpAny (model X.prog X.w) X.A (call (.ref f) us) (EP X pins σ Q) X.xe s := by
 have r2 : Vals (vs ++ dvs) (us ++ ds) := r.append hd
 have hl : (us ++ ds).length = ps.length := by rw [← r2.length]; exact F.len _ _ _ _ h
 refine wpAny_call (codeAny_mono (F.run X.A X.stack s H ⟨us, []⟩ (us ++ ds) (vs ++ dvs) Q E hr I.env0 (hb s us I.kIn hl) r2 h) fun r s' hq => ?_)
 cases r with
 | error e => exact hx pins σ H s e s' I hq
 | ok fl =>
  cases fl with
  | ret u => exact I.after hq
  | next => exact False.elim hq
  | brk => exact False.elim hq
  | cont => exact False.elim hq
theorem MJ (F : cX X.prog X.w X.K X.mg X.base CX k f fd ps sp) (hr : fZ k X.A) (hg : Gl X x) (hm : X.mg x = some (.ref f)) (hk : PySem.W.keepIn X.K (.ref f) = true) (hb : Binds X.K fd ps ds) (hd : Vals dvs ds) (hx : zX CX X E)
  (ha : PA X (e :: es) t) (hdb : (x == ("__debug__" : Str)) = false := by decide) (he : starEach (e :: es) X.env = (false, eval e X.env) :: starEach es X.env := by rfl) (hpl : (backTo pos (starEach es X.env)).any (·.1) = false := by rfl) :
  PE X (.Call (.Name x p) (e :: es) [] pos) (mR sp dvs E t) := by
 intro pins s σ H Q I h
 refine wpAny_Call_Name_kw (Bc I hg hm ?_ hdb)
 refine PySem.W.callWith_K (h₀ := X.base) I.ok.mod.kin hk (thA (ha pos pins s σ H _ I h) fun us s1 vs H1 I1 r q => ⟨I1.kIn, ?_⟩) he hpl
 exact QL F hr hb hd hx I1 r q
end
def PK (X : Cx) (kws : List Keyword) (t : TA) : Prop :=
 ∀ (pos : Pos) (pins : List (Addr × Obj)) (s : Shared) (σ : St) (H : Hp) (Q : List V → Hp → Prop), Inv X pins σ H s → t σ H Q → wpAny (model X.prog X.w) X.A (evalAll ((backToKw pos (keywordEach kws X.env)).map (·.2))) (AP X pins σ Q) X.xe s
section
variable {X : Cx} {CX : CXT} {k : Nat} {f C : Addr} {fd : FuncData} {ps ks : List Str} {sp : Sp} {E : XK} {x m : Str} {p pos apos kpos : Pos} {e o : Expr} {es : List Expr} {kws : List Keyword} {te ta : TE} {t tk : TA} {nm : Option Str}
theorem Rt : PK X [] sY := fun _ _ _ _ H Q I h => wpAny_evalAll_nil ⟨[], H, I, .nil, h⟩
theorem Mp (ha : PE X e te) (hr : PK X kws t) : PK X (⟨nm, e, kpos⟩ :: kws) (gA te t) := by
 intro pos pins s σ H Q I h
 show wpAny _ _ (evalAll ((do let v ← eval e X.env; standAt pos; pure v) :: (backToKw pos (keywordEach kws X.env)).map (·.2))) _ _ s
 refine wpAny_evalAll_cons (wpAny_bind (thE (ha pins s σ H _ I h) fun u s1 x H1 I1 r1 q1 => wpAny_bind (wpAny_standAt (wpAny_pure ?_))))
 exact thA (hr pos pins s1 σ H1 _ I1 q1) fun us s2 xs H2 I2 r2 q2 => ⟨x :: xs, H2, I2, .cons r1 r2, q2⟩
variable {g : List Value → List Value → List Value} {gV : List V → List V → List V}
end
structure bh (N P : List Str) (sc : Scope) : Prop where
 kind : sc.kind = .function
 co : sc.isCoroutine = false
 gen : sc.isGenerator = false
 nd : N.Nodup
 pre : N.take P.length = P
 par : ∀ x ∈ P, sc.names.lookup x = some .local ∨ sc.names.lookup x = some .cell
 nofree : ∀ y ∈ sc.names, y.2 ≠ .free
theorem uU {kindOf : Str → Option NameKind} {x : Str} : ∀ {binds : List (Str × Value)} {m : Str → Option Value}, (∀ v, (x, v) ∉ binds) → bindL kindOf binds m x = m x
 | [], _, _ => rfl
 | (n, v) :: r, m, h => by
  unfold bindL
  rw [uU fun w hw => h w (List.mem_cons_of_mem _ hw)]
  split
  ·have : x ≠ n := by rintro rfl; exact h v List.mem_cons_self
   simp [this]
  ·rfl
theorem uW {kindOf : Str → Option NameKind} {x : Str} : ∀ {binds : List (Str × Value)} {m : Str → Option Value}, (∀ v, (x, v) ∉ binds) → bindC kindOf binds m x = m x
 | [], _, _ => rfl
 | (n, v) :: r, m, h => by
  unfold bindC
  rw [uW fun w hw => h w (List.mem_cons_of_mem _ hw)]
  split
  ·rfl
  ·have : x ≠ n := by rintro rfl; exact h v List.mem_cons_self
   simp [this]
theorem uV {kindOf : Str → Option NameKind} {x : Str} {v : Value} : ∀ {P : List Str} {vs : List Value} {i : Nat} {m : Str → Option Value}, P.Nodup → P[i]? = some x → vs[i]? = some v → kindOf x = some .local →
  bindL kindOf (P.zip vs) m x = some v
 | [], _, _, _, _, h, _, _ => by simp at h
 | _ :: _, [], _, _, _, _, h, _ => by simp at h
 | p :: P, w :: vs, 0, m, nd, h1, h2, hk => by
  simp at h1 h2; subst h1; subst h2
  show bindL kindOf ((p, w) :: P.zip vs) m p = _
  unfold bindL
  rw [uU fun v hv => (List.nodup_cons.mp nd).1 (List.of_mem_zip hv).1, if_pos hk]
  simp
 | p :: P, w :: vs, i + 1, m, nd, h1, h2, hk => by
  show bindL kindOf ((p, w) :: P.zip vs) m x = _
  unfold bindL
  exact uV (i := i) (List.nodup_cons.mp nd).2 (by simpa using h1) (by simpa using h2) hk
theorem uX {kindOf : Str → Option NameKind} {x : Str} {v : Value} : ∀ {P : List Str} {vs : List Value} {i : Nat} {m : Str → Option Value}, P.Nodup → P[i]? = some x → vs[i]? = some v → kindOf x ≠ some .local →
  bindC kindOf (P.zip vs) m x = some v
 | [], _, _, _, _, h, _, _ => by simp at h
 | _ :: _, [], _, _, _, _, h, _ => by simp at h
 | p :: P, w :: vs, 0, m, nd, h1, h2, hk => by
  simp at h1 h2; subst h1; subst h2
  show bindC kindOf ((p, w) :: P.zip vs) m p = _
  unfold bindC
  rw [uW fun v hv => (List.nodup_cons.mp nd).1 (List.of_mem_zip hv).1, if_neg hk]
  simp
 | p :: P, w :: vs, i + 1, m, nd, h1, h2, hk => by
  show bindC kindOf ((p, w) :: P.zip vs) m x = _
  unfold bindC
  exact uX (i := i) (List.nodup_cons.mp nd).2 (by simpa using h1) (by simpa using h2) hk
def start (N : List Str) (vs : List V) : St := vs.map some ++ List.replicate (N.length - vs.length) none
def zN (CX : CXT) (P : Program) (w : World) (K : PySem.W.Frag) (mg : Str → Option Value) (base : Heap) (N : List Str) (qual : Str) (scope : Scope) (f : Addr) (cd : Value) (A : Around) (outer : List Env) (s : Shared) (H : Hp) (E : XK) : Cx where
 prog := P
 w := w
 K := K
 mg := mg
 base := base
 A := A.deeper (envOfC qual scope s.heap.objs.size f cd)
 N := N
 s₀ := s
 H₀ := H
 env := envOfC qual scope s.heap.objs.size f cd
 outer := outer
 stack := envOfC qual scope s.heap.objs.size f cd :: outer
 ex := []
 calm := true
 fn := fun _ => true
 pn := []
 xe := fun e s' => wpAny (model P w) (A.deeper (envOfC qual scope s.heap.objs.size f cd)) (leaving (envOfC qual scope s.heap.objs.size f cd) e) (fun _ s'' => CX outer H s E e s'') (fun e' s'' => CX outer H s E e' s'') s'
theorem yh {sc : Scope} {n : Nat} {x : Str} (h : sc.names.lookup x = some .cell) : ∃ c, (cellsFrom n sc.names []).lookup x = some c := by
 have q := PySem.W.cellsFrom_some sc.names n [] (.inl h)
 exact Option.isSome_iff_exists.mp q
theorem Dz {CX : CXT} {P : Program} {w : World} {K : PySem.W.Frag} {mg : Str → Option Value} {base : Heap} {N ps : List Str} {qual : Str} {scope : Scope} {f : Addr} {cd : Value} {A : Around} {outer : List Env} {s s1 : Shared} {H : Hp} {E : XK} {us : List Value} {vs : List V}
  (S : bh N ps scope) (hd : A.handled = none) (e0 : O5 P w K mg base A outer s H) (hl : vs.length = ps.length) (r : Vals vs us)
  (x : InCallC s s.heap.objs.size (bindL (envOfC qual scope s.heap.objs.size f cd).kindOf (ps.zip us) fun _ => none) (cellsFrom (s.heap.objs.size + 1) scope.names []) (bindC (envOfC qual scope s.heap.objs.size f cd).kindOf (ps.zip us) fun _ => none) s1) :
  Inv (zN CX P w K mg base N qual scope f cd A outer s H E) [] (start N vs) H s1 := by
 have hpl : ps.length ≤ N.length := by have := congrArg List.length S.pre; rw [List.length_take] at this; omega
 obtain ⟨h1, tk, rfl, hk⟩ := x.done
 have noA : ∀ b : Addr, b ∉ (zN CX P w K mg base N qual scope f cd A outer s H E).ex := fun b z => absurd (show b ∈ ([] : List Addr) from z) (by simp)
 refine ⟨⟨e0.mod, S.kind, rfl, rfl, Nat.le_refl _, fun y z c h1 h2 => ?_, fun y hy => ?_, fun y c _ h => ?_, fun _ => hd, Around.frames_deeper e0.frames, .inr ⟨rfl, rfl⟩, fun b z => absurd z (noA b), e0.bs, e0.bsz, fun b _ _ => noA b, fun b z => absurd z (noA b), e0.qe, e0.frf⟩,
  rfl, e0.bare, Un.kept hk, ⟨_, x.toInCall.ns, fun i y v h1 h2 h3 => ?_⟩, fun y c h => ⟨_, x.cell y c h⟩, e0.hok.fresh (Nat.le_refl _), fun y c h => ?_, fun p hp => absurd (show p ∈ ([] : List (Addr × Obj)) from hp) (by simp), e0.hok.kept hk, ?_⟩
 ·exact name_of_addr x.apart (PySem.mem_of_lookup h1) (PySem.mem_of_lookup h2)
 ·have hy : scope.names.lookup y = some .cell ∨ scope.names.lookup y = some .free := hy
  rcases hy with hy | hy
  ·exact yh hy
  ·exact absurd rfl (S.nofree _ (PySem.mem_of_lookup hy))
 ·exact Nat.le_of_lt (x.above y c (PySem.mem_of_lookup h))
 ·have hi : i < vs.length := by
   unfold start at h2
   by_cases hi : i < vs.length
   ·exact hi
   ·rw [List.getElem?_append_right (by simpa using hi)] at h2
    rw [List.getElem?_replicate] at h2
    split at h2 <;> cases h2
  have ha : vs[i]? = some v := by
   unfold start at h2
   rw [List.getElem?_append_left (by simpa using hi), List.getElem?_map] at h2
   cases e : vs[i]? with
   | none => rw [e] at h2; cases h2
   | some a => rw [e] at h2; cases h2; rfl
  obtain ⟨u, hu, rv⟩ := r.get ha
  have hp : ps[i]? = some y := by
   rw [← S.pre, List.getElem?_take_of_lt (by omega)]; exact h1
  have ndP : ps.Nodup := by rw [← S.pre]; exact S.nd.sublist (List.take_sublist _ _)
  refine ⟨u, rv, ?_⟩
  rcases S.par y (List.mem_of_getElem? hp) with k | k
  ·exact .inl ⟨k, uV ndP hp hu k⟩
  ·obtain ⟨c, e⟩ := yh (n := s.heap.objs.size + 1) k
   refine .inr ⟨.inl k, c, e, ?_⟩
   have q := x.cell y c e
   rw [uX ndP hp hu (by show scope.names.lookup y ≠ _; rw [k]; decide)] at q
   exact q
 ·exact e0.hok.fresh (Nat.le_of_lt (x.above y c (PySem.mem_of_lookup h)))
 ·unfold start
  show _ = N.length
  rw [List.length_append, List.length_map, List.length_replicate]
  omega
theorem U6 {CX : CXT} {P : Program} {w : World} {K : PySem.W.Frag} {mg : Str → Option Value} {base : Heap} {k : Nat} {f : Addr} {name qual : Str} {params : Arguments} {body : List Stmt} {scope : Scope} {dV kV doc pm cdv ct oc : Value} {an od : Option Addr}
  {osl : Array (Option Value)} {N ps : List Str} {sp : Sp} (lk : K.lookup f = some ⟨oc, od, .func (PySem.W.fnOf name qual params body scope dV kV doc pm an cdv ct), osl⟩) (hcd : PySem.W.codeIn K cdv qual = true) (S : bh N ps scope)
  (len : ∀ vs H Q E, sp vs H Q E → vs.length = ps.length)
  (hbody : ∀ (A : Around) (outer : List Env) (s : Shared) (H : Hp) (vs : List V) (Q : VK) (E : XK), fZ k (A.deeper (envOfC qual scope s.heap.objs.size f cdv)) → sp vs H Q E →
   ∃ t, PSs (zN CX P w K mg base N qual scope f cdv A outer s H E) body t ∧ t { nx := fun _ H' => Q .non H', rt := Q } (start N vs) H) :
  cX P w K mg base CX (k + 1) f (PySem.W.fnOf name qual params body scope dV kV doc pm an cdv ct) ps sp := by
 refine ⟨len, fun A outer s H args us vs Q E hr e0 hb r hsp => ?_⟩
 have hl := len _ _ _ _ hsp
 have KX : K.In s.heap := e0.mod.kin.keeps fun b o e => (e0.bs b o e).1
 have lim : s.heap.NoLimit := e0.mod.nolimit.keeps fun b o e => (e0.bs b o e).1
 have hkind : ∀ y ∈ ps.zip us, scope.names.lookup y.1 = some .local ∨ (scope.names.lookup y.1 = some .cell ∧ ((cellsFrom (s.heap.objs.size + 1) scope.names []).lookup y.1).isSome = true) := fun ⟨n, v⟩ hy => by
  rcases S.par n (List.of_mem_zip hy).1 with q | q
  ·exact .inl q
  ·exact .inr ⟨q, PySem.W.cellsFrom_some _ _ _ (.inl q)⟩
 refine codeAny_call_function hr.depth (KX _ _ lk) rfl S.co S.gen rfl (PySem.W.codeRec_of KX hcd) (hb _ _ _ _ ?_)
 refine wpAny_newFunctionEnv_cells S.kind hkind fun env he s1 x => ?_
 subst he
 refine ⟨lim.keeps x.toInCall.keep, codeAny_func ?_⟩
 obtain ⟨t, ht, hq⟩ := hbody A outer s H vs Q E (hr.deeper _) hsp
 have I : Inv (zN CX P w K mg base N qual scope f cdv A outer s H E) [] (start N vs) H s1 := Dz S hr.hd e0 hl r x
 refine wpAny_mono (ht [] s1 (start N vs) H _ I hq) (fun fl s' hs => ?_) fun e s' hs => hs
 have fin : ∀ {σ' : St} {H' : Hp} {v : V} {u : Value}, Inv (zN CX P w K mg base N qual scope f cdv A outer s H E) [] σ' H' s' → RelV v u → Q v H' → CE outer P w H s Q u s' :=
  fun {σ' H' v u} J rv q => ⟨v, H', J.os, J.bare, J.base, J.hok, rv, q⟩
 cases fl with
 | ret u =>
  obtain ⟨v, σ', H', J, rv, q⟩ := hs
  exact fin J rv q
 | next =>
  obtain ⟨σ', H', J, q⟩ := hs
  exact fin (v := V.non) (u := Value.none) J rfl q
 | brk =>
  obtain ⟨_, _, _, q⟩ := hs
  exact False.elim q
 | cont =>
  obtain ⟨_, _, _, q⟩ := hs
  exact False.elim q
section
variable {X : Cx} {x : Str} {p pos : Pos} {e : Expr} {es : List Expr} {t : TA} {id T : String} {r : List V → Hp → VK → Prop}
def tCB (r : List V → Hp → VK → Prop) (t : TA) : TE := fun σ H Q => t σ H fun vs H1 => r vs H1 Q
theorem Hs (hc : cM X (.builtin id) r) (hg : Gl X x) (hm : X.mg x = none) (hv : bootBuiltins x = some (.builtin id)) (ha : PA X (e :: es) t) (hn : x ≠ "__name__" := by decide) (hdb : (x == ("__debug__" : Str)) = false := by decide)
  (he : starEach (e :: es) X.env = (false, eval e X.env) :: starEach es X.env := by rfl) (hpl : (backTo pos (starEach es X.env)).any (·.1) = false := by rfl) : PE X (.Call (.Name x p) (e :: es) [] pos) (tCB r t) := by
 intro pins s σ H Q I h
 refine wpAny_Call_Name_kw (oU I hg hm hv ?_ hn hdb)
 exact PyProof.Rows.callWith_builtin1 (thA (ha pos pins s σ H _ I h) fun us s1 vs H1 I1 r1 q1 => hc pins s1 σ H1 vs us Q I1 r1 q1) he hpl
theorem CT (hc : cM X (.type T) r) (hg : Gl X x) (hm : X.mg x = none) (hv : bootBuiltins x = some (.type T)) (ha : PA X (e :: es) t) (hn : x ≠ "__name__" := by decide) (hdb : (x == ("__debug__" : Str)) = false := by decide)
  (he : starEach (e :: es) X.env = (false, eval e X.env) :: starEach es X.env := by rfl) (hpl : (backTo pos (starEach es X.env)).any (·.1) = false := by rfl) : PE X (.Call (.Name x p) (e :: es) [] pos) (tCB r t) := by
 intro pins s σ H Q I h
 refine wpAny_Call_Name_kw (oU I hg hm hv ?_ hn hdb)
 exact PyProof.Rows.callWith_type1 (thA (ha pos pins s σ H _ I h) fun us s1 vs H1 I1 r1 q1 => hc pins s1 σ H1 vs us Q I1 r1 q1) he hpl
end
end L2
namespace HT
open PySem PyProof.Rows
section
open PySem.SeqAt
open PySem.AutoSeq1 (wpAny_loadPart')
open PySem.MeetsSeq PySem.MeetsSeq2 PySem.MeetsSeq3
end
section
variable {prog : Program} {w : World} {A : Around} {E : Value → Shared → Prop} {s : Shared}
def sIx (n d : Nat) : Option Int → Nat
 | none => d
 | some v => if v < 0 then (v + (n : Int)).toNat else min v.toNat n
theorem QD (n d : Nat) (hd : d ≤ n) (o : Option Int) : sIx n d o ≤ n := by
 cases o with
 | none => exact hd
 | some v =>
  show (if v < 0 then (v + (n : Int)).toNat else min v.toNat n) ≤ n
  by_cases hv : v < 0
  ·rw [if_pos hv]; omega
  ·rw [if_neg hv]; exact Nat.min_le_right _ _
theorem BW (v : Int) (n d : Nat) : (if v < 0 then max (v + (n : Int)) 0 else min v (n : Int)) = ((sIx n d (some v) : Nat) : Int) := by
 show (if v < 0 then max (v + (n : Int)) 0 else min v (n : Int)) = (((if v < 0 then (v + (n : Int)).toNat else min v.toNat n) : Nat) : Int)
 by_cases hv : v < 0
 ·simp only [if_pos hv]; omega
 ·simp only [if_neg hv]; omega
theorem zW (lo hi : Option Int) (n : Nat) : Builtin.Slice.sliceAdjust lo hi 1 (n : Int) = (((sIx n 0 lo : Nat) : Int), ((sIx n n hi : Nat) : Int)) := by
 have h1 : ¬ ((1 : Int) < 0) := by omega
 unfold Builtin.Slice.sliceAdjust
 simp only [h1, if_false]
 refine Prod.ext ?_ ?_
 ·cases lo with
  | none => rfl
  | some v => exact BW v n 0
 ·cases hi with
  | none => rfl
  | some v => exact BW v n n
theorem zc (i j : Nat) : Builtin.Slice.slicePlaces (i : Int) (j : Int) 1 = j - i := by
 unfold Builtin.Slice.slicePlaces
 have h1 : (1 : Int) > 0 := by omega
 simp only [h1, if_true, Int.ediv_one]
 split <;> omega
theorem qI {v : Value} {o : Option Int} {Q : Option Int → Shared → Prop} (p : IsPart v o) (h : Q o s) : wpAny (model prog w) A (Builtin.Slice.slicePartIndex v) Q E s := by
 cases p with
 | none => exact slicePart_none h
 | int i t => exact slicePart_int h
theorem n8 {sl : Addr} {vl vu : Value} {lo hi : Option Int} {n : Nat} {Q : Int × Int × Nat → Shared → Prop} (hs : s.heap.IsSliceOf sl vl vu .none) (pl : IsPart vl lo) (pu : IsPart vu hi)
  (h : Q (((sIx n 0 lo : Nat) : Int), 1, sIx n n hi - sIx n 0 lo) s) : wpAny (model prog w) A (Builtin.Slice.sliceApplied (.ref sl) (pure (n : Int))) Q E s := by
 obtain ⟨os, hos, hcs, hds⟩ := id hs
 unfold Builtin.Slice.sliceApplied Builtin.Slice.sliceFields
 refine wpAny_bind (wpAny_bind (wpAny_field hos hds (x := vl) rfl (wpAny_bind (wpAny_field hos hds (x := vu) rfl (wpAny_bind (wpAny_field hos hds (x := .none) rfl (wpAny_pure ?_)))))))
 refine wpAny_bind (slicePart_none ?_)
 show wpAny _ _ (if ((1 : Int) == 0) = true then _ else _) _ _ s
 rw [if_neg (by decide)]
 refine wpAny_bind (qI pl (wpAny_bind (qI pu (wpAny_bind (wpAny_pure ?_)))))
 show wpAny _ _ (match Builtin.Slice.sliceAdjust lo hi 1 (n : Int) with | (lo, hi) => pure (lo, (1 : Int), Builtin.Slice.slicePlaces lo hi 1)) _ _ s
 rw [zW lo hi n]
 show wpAny _ _ (pure (((sIx n 0 lo : Nat) : Int), (1 : Int), Builtin.Slice.slicePlaces ((sIx n 0 lo : Nat) : Int) ((sIx n n hi : Nat) : Int) 1)) _ _ s
 rw [zc]
 exact wpAny_pure h
theorem G9 (xs : Array Value) (i k : Nat) : ((List.range k).filterMap fun (m : Nat) => xs[((i : Int) + (m : Int) * 1).toNat]?).toArray = ((xs.toList.drop i).take k).toArray := by
 have e : (fun (m : Nat) => xs[((i : Int) + (m : Int) * 1).toNat]?) = fun m => xs[i + m]? := by
  funext m
  have : ((i : Int) + (m : Int) * 1).toNat = i + m := by omega
  rw [this]
 rw [e]
 have := pick_run xs i k
 rw [List.filterMap_map] at this
 have e2 : ((fun x => xs[x]?) ∘ fun x => i + x) = fun m => xs[i + m]? := rfl
 rw [e2] at this
 rw [this]
theorem nF {t sl : Addr} {items : Array Value} {vl vu : Value} {lo hi : Option Int} {Q : Value → Shared → Prop} (ht : IsTup s.heap t items) (hs : s.heap.IsSliceOf sl vl vu .none) (pl : IsPart vl lo) (pu : IsPart vu hi)
  (hw : ¬ (sIx items.size 0 lo = 0 ∧ sIx items.size items.size hi = items.size))
  (h : Q (.ref s.heap.objs.size) { s with heap := s.heap.push { cls := .type "tuple", data := .seq ((items.toList.drop (sIx items.size 0 lo)).take (sIx items.size items.size hi - sIx items.size 0 lo)).toArray } })
  (hsz : items.size ≤ sizeLine) : wpAny (model prog w) A (getItem (.ref t) (.ref sl)) Q E s := by
 have htake : sizeOk (.seq ((items.toList.drop (sIx items.size 0 lo)).take (sIx items.size items.size hi - sIx items.size 0 lo)).toArray) := by
  show ((items.toList.drop (sIx items.size 0 lo)).take (sIx items.size items.size hi - sIx items.size 0 lo)).toArray.size ≤ sizeLine
  rw [List.size_toArray, List.length_take, List.length_drop, Array.length_toList]
  omega
 have hj : sIx items.size items.size hi ≤ items.size := QD _ _ (Nat.le_refl _) hi
 obtain ⟨os, hos, hcs, hds⟩ := id hs
 have hTs : s.TypeIs (.ref sl) "slice" := ⟨os, hos, hcs⟩
 unfold getItem
 try with_reducible refine wpAny_holding ?_
 first | refine wpAny_bind (wpAny_pure ?_) | skip
 refine wpAny_bind (wpAny_sequenceKey ht.typeIs (by decide) ?_)
 refine wpAny_bind (wpAny_callSpecial?_slot (name := Str.ofString "__getitem__") ht.typeIs PyProof.Rows.slot_tuple_getitem
  (wpAny_call_entry PyProof.Rows.slot_tuple_getitem ht.typeIs entry_tuple_getitem ?_ (args_tuple_getitem _ _)))
 show wpAny _ _ (Builtin.Tuple.tupleItemsOf (.ref t) >>= _) _ _ s
 refine wpAny_bind (tupleItemsOf_ ht ?_)
 refine wpAny_bind (wpAny_typeOf hTs ?_)
 rw [if_pos (by decide)]
 refine wpAny_bind (n8 hs pl pu ?_)
 have hno : ¬ ((((sIx items.size 0 lo : Nat) : Int) == 0 && (1 : Int) == 1 && (sIx items.size items.size hi - sIx items.size 0 lo) == items.size) = true) := by
  intro q
  rw [Bool.and_eq_true, Bool.and_eq_true] at q
  have q1 : ((sIx items.size 0 lo : Nat) : Int) = 0 := eq_of_beq q.1.1
  have q2 : sIx items.size items.size hi - sIx items.size 0 lo = items.size := eq_of_beq q.2
  exact hw ⟨by omega, by omega⟩
 show wpAny _ _ (if (((sIx items.size 0 lo : Nat) : Int) == 0 && (1 : Int) == 1 && (sIx items.size items.size hi - sIx items.size 0 lo) == items.size) = true then _ else _) _ _ s
 rw [if_neg hno, G9]
 first
  | exact wpAny_bind (m := Builtin.Tuple.tupleExact _) (wpAny_newObj_type (wpAny_pure ⟨_, rfl, wpAny_pure h⟩) htake)
  | exact wpAny_bind (m := Builtin.Tuple.tupleExact _) (wpAny_newObj_type (wpAny_bind (wpAny_pure (wpAny_pure ⟨_, rfl, wpAny_pure h⟩))) htake)
  | exact wpAny_bind (wpAny_bind (m := Builtin.Tuple.tupleExact _) (wpAny_newObj_type (wpAny_pure (wpAny_pure ⟨_, rfl, wpAny_pure h⟩)) htake))
  | exact wpAny_bind (wpAny_bind (m := Builtin.Tuple.tupleExact _) (wpAny_newObj_type (wpAny_pure ⟨_, rfl, wpAny_pure h⟩) htake))
end
end HT
namespace L2
open PySem PySem.Spec PyProof.Rows
abbrev TO := St → Hp → (Option Int → Hp → Prop) → Prop
def PO (X : Cx) (e : Option Expr) (t : TO) : Prop :=
 ∀ (pins : List (Addr × Obj)) (s : Shared) (σ : St) (H : Hp) (Q : Option Int → Hp → Prop), Inv X pins σ H s → t σ H Q →
  wpAny (model X.prog X.w) X.A (evalPart e X.env) (fun u s' => ∃ o H', Inv X pins σ H' s' ∧ IsPart u o ∧ Q o H') X.xe s
def uZ : TO := fun _ H Q => Q none H
def Fj (t : TE) : TO := fun σ H Q => t σ H fun x H1 => ∃ i, x = .int i ∧ Q (some i) H1
section
variable {X : Cx} {e : Expr} {te : TE} {lo hi : Option Expr} {tl th : TO} {pos p2 : Pos}
theorem Ml : PO X none uZ := by
 intro pins s σ H Q I h
 rw [evalPart_none]
 exact wpAny_pure ⟨none, H, I, .none, h⟩
theorem Mj (h : PE X e te) : PO X (some e) (Fj te) := by
 intro pins s σ H Q I hw
 rw [evalPart_some]
 refine thE (h pins s σ H _ I hw) fun u s1 x H1 I1 r1 q1 => ?_
 obtain ⟨i, rfl, q⟩ := q1
 obtain ⟨t, rfl⟩ := r1
 exact ⟨some i, H1, I1, .int i t, q⟩
def SlR (X : Cx) (r : V → Option Int → Option Int → Hp → VK → Prop) : Prop :=
 ∀ (pins : List (Addr × Obj)) (s : Shared) (σ : St) (H : Hp) (x : V) (v vl vu : Value) (lo hi : Option Int) (sl : Addr) (Q : VK), Inv X pins σ H s → RelV x v → s.heap.IsSliceOf sl vl vu .none → IsPart vl lo → IsPart vu hi → r x lo hi H Q →
  ∃ T id, typeLookup (.type T) "__getitem__" = pure (some (.builtin id)) ∧ s.TypeIs v T ∧ wpAny (model X.prog X.w) X.A (getItem v (.ref sl)) (EP X pins σ Q) X.xe s
def tSl (r : V → Option Int → Option Int → Hp → VK → Prop) (te : TE) (tl th : TO) : TE := fun σ H Q => te σ H fun x H1 => tl σ H1 fun l H2 => th σ H2 fun u H3 => r x l u H3 Q
theorem Hl {r : V → Option Int → Option Int → Hp → VK → Prop} (hr : SlR X r) (he : PE X e te) (hl : PO X lo tl) (hu : PO X hi th) : PE X (.Subscript e (.Slice lo hi none p2) pos) (tSl r te tl th) := by
 intro pins s σ H Q I h
 refine Subscript_ (thE (he pins s σ H _ I h) fun v s1 x H1 I1 r1 q1 => ?_)
 refine wpAny_Slice (thn (hl pins s1 σ H1 _ I1 q1) fun vl s2 ⟨l, H2, I2, pl, q2⟩ => thn (hu pins s2 σ H2 _ I2 q2) fun vu s3 ⟨u, H3, I3, pu, q3⟩ => ?_)
 rw [evalPart_none]
 refine wpAny_pure ?_
 have I4 : Inv X pins σ H3 { s3 with heap := s3.heap.push { cls := .type "slice", data := .fields #[vl, vu, .none] } } := I3.kept (t' := s3.toks) fun b ob q => Heap.get?_push_of_some _ q
 obtain ⟨T, id, hT, ht, hg⟩ := hr pins { s3 with heap := s3.heap.push { cls := .type "slice", data := .fields #[vl, vu, .none] } } σ H3 x v vl vu l u s3.heap.objs.size Q I4 r1 (Heap.IsSliceOf.new ..) pl pu q3
 show wpAny (model X.prog X.w) X.A (subscriptTail e (.Slice lo hi none p2) v (.ref s3.heap.objs.size)) (EP X pins σ Q) X.xe { s3 with heap := s3.heap.push { cls := .type "slice", data := .fields #[vl, vu, .none] } }
 exact tail_any (ops := [.ref s3.heap.objs.size, v]) ht hT hg (by with_unfolding_all rfl)
def jK (xs : List V) (lo hi : Option Int) : List V := (xs.drop (HT.sIx xs.length 0 lo)).take (HT.sIx xs.length xs.length hi - HT.sIx xs.length 0 lo)
theorem pN (xs : List V) (lo hi : Option Int) : (jK xs lo hi).length ≤ xs.length := by
 unfold jK
 rw [List.length_take, List.length_drop]
 omega
def Vi (K : PySem.W.Frag) : V → Option Int → Option Int → Hp → VK → Prop := fun x lo hi H Q => ∃ a xs, x = .ref a ∧ SqT K H a xs ∧
 ¬ (HT.sIx xs.length 0 lo = 0 ∧ HT.sIx xs.length xs.length hi = xs.length) ∧ ∀ p, H p = none → Q (.ref p) (upd H p (.tup (jK xs lo hi)))
theorem Qy : SlR X (Vi X.K) := by
 intro pins s σ H x v vl vu lo hi sl Q I rx hs pl pu h
 obtain ⟨a, xs, rfl, hx, hw, q⟩ := h
 cases rx
 obtain ⟨its, r, ht, hz⟩ := I.tuple hx
 have hlen : its.toArray.size = xs.length := by rw [List.size_toArray]; exact r.length.symm
 refine ⟨"tuple", _, PyProof.Rows.slot_tuple_getitem.lookup, ht.typeIs, ?_⟩
 refine HT.nF ht hs pl pu (by rw [hlen]; exact hw) ?_ (by rw [hlen]; exact hz)
 rw [hlen]
 refine ⟨.ref s.heap.objs.size, _, I.laid (t' := s.toks) (o := .tup (jK xs lo hi)) (fun b ob q => Heap.get?_push_of_some _ q) (Nat.le_refl _) ?_, rfl, q _ (I.hok.fresh (Nat.le_refl _))⟩
 exact ⟨Nat.le_trans (pN xs lo hi) hz, _, (r.drop (HT.sIx xs.length 0 lo)).take (HT.sIx xs.length xs.length hi - HT.sIx xs.length 0 lo), IsTup.new _ _⟩
end
def ixN (n : Nat) (i : Int) : Option Nat := if 0 ≤ i then (if i < n then some i.toNat else none) else if -(n : Int) ≤ i then some (i + n).toNat else none
def atI {α : Type} (xs : List α) (i : Int) : Option α := (ixN xs.length i).bind fun j => xs[j]?
theorem Bl {n : Nat} {i : Int} {j : Nat} (h : ixN n i = some j) : seqIndex? i n = some j ∧ j < n ∧ -(n : Int) ≤ i ∧ i < n := by
 unfold ixN at h
 by_cases h0 : 0 ≤ i
 ·rw [if_pos h0] at h
  by_cases h1 : i < n
  ·rw [if_pos h1] at h
   have e : i.toNat = j := Option.some.inj h
   exact ⟨by rw [seqIndex_of h0 h1, e], by omega, by omega, h1⟩
  ·rw [if_neg h1] at h; cases h
 ·rw [if_neg h0] at h
  by_cases h1 : -(n : Int) ≤ i
  ·rw [if_pos h1] at h
   have e : (i + n).toNat = j := Option.some.inj h
   exact ⟨by rw [seqIndex_neg (by omega) h1, e], by omega, h1, by omega⟩
  ·rw [if_neg h1] at h; cases h
theorem wB {α : Type} {xs : List α} {i : Int} {v : α} (h : atI xs i = some v) : ∃ j, seqIndex? i xs.length = some j ∧ xs[j]? = some v ∧ j < xs.length ∧ -(xs.length : Int) ≤ i ∧ i < xs.length := by
 unfold atI at h
 cases e : ixN xs.length i with
 | none => rw [e] at h; cases h
 | some j =>
  rw [e] at h
  obtain ⟨h1, h2, h3, h4⟩ := Bl e
  exact ⟨j, h1, h, h2, h3, h4⟩
theorem d7 {α : Type} {xs : List α} {j : Nat} {v : α} (h : xs[j]? = some v) : atI xs (j : Int) = some v := by
 have hj : j < xs.length := (List.getElem?_eq_some_iff.mp h).1
 have e : ixN xs.length (j : Int) = some j := by
  unfold ixN
  rw [if_pos (by omega), if_pos (by omega)]; simp
 unfold atI; rw [e]; exact h
def Ca (b : Expr) : Prop := ∀ o i, subscripted b false o i = operate [o, i] (getItem o i)
def IxR (X : Cx) (r : R2) : Prop :=
 ∀ (value slice : Expr) (pins : List (Addr × Obj)) (s : Shared) (σ : St) (H : Hp) (x y : V) (v u : Value) (Q : VK), Inv X pins σ H s → RelV x v → RelV y u → r x y H Q →
  subscripted slice false v u = operate [v, u] (getItem v u) → wpAny (model X.prog X.w) X.A (subscriptTail value slice v u) (EP X pins σ Q) X.xe s
def MtR (X : Cx) (id : String) (r : V → List V → Hp → VK → Prop) : Prop :=
 ∀ (pins : List (Addr × Obj)) (s : Shared) (σ : St) (H : Hp) (x : V) (xs : List V) (v : Value) (us : List Value) (Q : VK), Inv X pins σ H s → RelV x v → Vals xs us → r x xs H Q →
  wpAny (model X.prog X.w) X.A (call (.builtin id) (v :: us)) (EP X pins σ Q) X.xe s
section
variable {X : Cx} {a b : Expr} {ta tb : TE} {pos : Pos}
theorem Uq {r : R2} (hr : IxR X r) (ha : PE X a ta) (hb : PE X b tb) (hs : Ca b) : PE X (.Subscript a b pos) (tOp r ta tb) := by
 intro pins s σ H Q I h
 exact Subscript_ (Tq ha hb I h fun v u s2 x y H2 I2 rx ry q => hr a b pins s2 σ H2 x y v u Q I2 rx ry q (hs _ _))
def Ua (K : PySem.W.Frag) : R2 := fun x y H Q => ∃ p xs i v, x = .ref p ∧ y = .int i ∧ SqL K H p xs ∧ atI xs i = some v ∧ Q v H
def Vl (K : PySem.W.Frag) : R2 := fun x y H Q => ∃ p xs i v, x = .ref p ∧ y = .int i ∧ SqT K H p xs ∧ atI xs i = some v ∧ Q v H
def Vm : R2 := fun x y H Q => ∃ z i c, x = .str z ∧ y = .int i ∧ z.length ≤ sizeLine ∧ atI z.cps.toList i = some c ∧ Q (.str ⟨#[c]⟩) H
theorem Bk : IxR X (Ua X.K) := by
 intro value slice pins s σ H x y v u Q I rx ry h hs
 obtain ⟨p, xs, i, z, rfl, rfl, hq, he, q⟩ := h
 cases rx
 obtain ⟨t, rfl⟩ := ry
 obtain ⟨its, r, pl, hz⟩ := I.list hq
 obtain ⟨j, h1, h2, h3, h4, h5⟩ := wB he
 obtain ⟨w, ew, rw'⟩ := r.get h2
 have hl := r.length
 have hn := mF
 have fin : EP X pins σ Q w s := ⟨z, H, I, rw', q⟩
 by_cases h0 : 0 ≤ i
 ·have hj : i.toNat = j := by
   rw [seqIndex_of h0 h5] at h1
   exact Option.some.inj h1
  exact item_listR pl.isList h0 (by omega) (by rw [hj]; simpa using ew) fin hs
 ·have hj : (i + (its.toArray.size : Int)).toNat = j := by
   rw [seqIndex_neg (by omega) h4] at h1
   rw [List.size_toArray, ← hl]
   exact Option.some.inj h1
  exact subscriptTail_builtinR (x := w) pl.isList.typeIs slot_list_getitem.lookup
   (wpAny_getItem_list_neg (Q := fun r s' => r = w ∧ EP X pins σ Q r s') pl.isList (by omega) (by rw [List.size_toArray] <;> omega) (by omega) (by rw [hj]; simpa using ew) ⟨rfl, fin⟩) hs
theorem SM : IxR X (Vl X.K) := by
 intro value slice pins s σ H x y v u Q I rx ry h hs
 obtain ⟨p, xs, i, z, rfl, rfl, hq, he, q⟩ := h
 cases rx
 obtain ⟨t, rfl⟩ := ry
 obtain ⟨its, r, pl, hz⟩ := I.tuple hq
 obtain ⟨j, h1, h2, h3, h4, h5⟩ := wB he
 obtain ⟨w, ew, rw'⟩ := r.get h2
 have hl := r.length
 have hn := mF
 have fin : EP X pins σ Q w s := ⟨z, H, I, rw', q⟩
 exact subscriptTail_builtinR (x := w) pl.typeIs slot_tuple_getitem.lookup
  (getItem_tuple (j := j) (Q := fun r s' => r = w ∧ EP X pins σ Q r s') pl (by omega) (by omega) (by rw [List.size_toArray, ← hl]; exact h1) (by simpa using ew) ⟨rfl, fin⟩) hs
theorem SN : IxR X Vm := by
 intro value slice pins s σ H x y v u Q I rx ry h hs
 obtain ⟨z, i, c, rfl, rfl, hz, he, q⟩ := h
 obtain ⟨t, rfl⟩ := rx
 obtain ⟨t', rfl⟩ := ry
 obtain ⟨j, h1, h2, h3, h4, h5⟩ := wB he
 have hl : z.cps.toList.length = z.length := by simp [Str.length]
 rw [hl] at h1 h4 h5
 have hn := mF
 exact tail_any (typeIs_str s z t) slot_str_getitem.lookup (getItem_str (c := c) (by
  have e1 : decide (i < -(2 ^ 63 : Int)) = false := decide_eq_false (by omega)
  have e2 : decide (i ≥ 2 ^ 63) = false := decide_eq_false (by omega)
  rw [e1, e2, Bool.or_false]) (by rw [h1]; simpa using h2) ⟨.str ⟨#[c]⟩, H, I.tok _, ⟨_, rfl⟩, q⟩) hs
theorem zx (its : List Value) (n j : Nat) (u : Value) : Obj.mapSeq (·.setIfInBounds j u) { cls := .type "list", data := .seq its.toArray n } = { cls := .type "list", data := .seq (its.set j u).toArray n } := by
 simp [Obj.mapSeq]
theorem Inv.lst {pins : List (Addr × Obj)} {σ : St} {H : Hp} {s : Shared} {p : Addr} {xs : List V} (I : Inv X pins σ H s) (h : H p = some (.lst xs)) :
  ∃ (its : List Value) (n : Nat), Vals xs its ∧ s.heap.get? p = some { cls := .type "list", data := .seq its.toArray n } ∧ xs.length ≤ sizeLine := by
 obtain ⟨z, its, n, r, e⟩ := I.hok p _ h
 exact ⟨its, n, r, e, z⟩
theorem Inv.Sq {pins : List (Addr × Obj)} {σ : St} {H : Hp} {s : Shared} {p : Addr} {xs ys : List V} {its its' : List Value} {n n' : Nat} {f : Obj → Obj} (I : Inv X pins σ H s) (h : H p = some (.lst xs))
  (ho : s.heap.get? p = some { cls := .type "list", data := .seq its.toArray n }) (hf : f { cls := .type "list", data := .seq its.toArray n } = { cls := .type "list", data := .seq its'.toArray n' }) (r : Vals ys its') (hz : ys.length ≤ sizeLine) (t : Nat) :
  Inv X pins σ (upd H p (.lst ys)) { s with heap := s.heap.update p f, toks := t } := by
 have e : (s.heap.update p f).get? p = some { cls := .type "list", data := .seq its'.toArray n' } := by
  rw [Heap.get?_update_self f ho (by rw [hf] <;> rfl), hf]
 refine I.write (x := p) (e := p) (by rw [h]; trivial) (.inl rfl) (fun b u hb q => (Heap.get?_update_other _ _ (Ne.symm hb)).trans q) ⟨_, e⟩ ?_
 exact ⟨hz, its', n', r, e⟩
def Pn : V → V → V → Hp → (Hp → Prop) → Prop := fun o i v H Q => ∃ p xs k j, o = .ref p ∧ i = .int k ∧ H p = some (.lst xs) ∧ ixN xs.length k = some j ∧ Q (upd H p (.lst (xs.set j v)))
theorem set_list : O4 X Pn := by
 intro pins s σ H o i v ov iv u Q I ro ri rv h
 obtain ⟨p, xs, k, j, rfl, rfl, hp, hj, q⟩ := h
 cases ro
 obtain ⟨t, rfl⟩ := ri
 obtain ⟨its, n, r, ho, hz⟩ := I.lst hp
 obtain ⟨h1, h2, h3, h4⟩ := Bl hj
 have hl := r.length
 have hn := mF
 have I' : Inv X pins σ (upd H p (.lst (xs.set j v))) { s with heap := s.heap.update p (Obj.mapSeq (·.setIfInBounds j u)) } :=
  I.Sq hp ho (zx its n j u) (r.set rv j) (by rw [List.length_set]; exact hz) s.toks
 by_cases h0 : 0 ≤ k
 ·have hk : k.toNat = j := by
   rw [seqIndex_of h0 h4] at h1
   exact Option.some.inj h1
  exact PySem.W.ki_setAt ho h0 (by omega) (by rw [List.size_toArray, ← hl]; exact h4) (by rw [hk]; exact ⟨_, I', q⟩)
 ·have hk : (k + (its.toArray.size : Int)).toNat = j := by
   rw [seqIndex_neg (by omega) h3] at h1
   rw [List.size_toArray, ← hl]
   exact Option.some.inj h1
  exact PySem.W.ki_setBack ho (by omega) (by rw [List.size_toArray, ← hl]; exact h3) (by omega) (by rw [hk]; exact ⟨_, I', q⟩)
theorem vf (lo hi : Option Int) (n : Nat) : (sliceBounds lo hi none n).1 = ((HT.sIx n 0 lo : Nat) : Int) ∧ (sliceBounds lo hi none n).2.1 = ((HT.sIx n n hi : Nat) : Int) ∧ (sliceBounds lo hi none n).2.2 = 1 := by
 refine ⟨?_, ?_, rfl⟩
 ·cases lo with
  | none => simp [sliceBounds, HT.sIx]
  | some i =>
   simp only [sliceBounds, HT.sIx, Option.getD_none, show (1 : Int) > 0 by decide, if_true]
   by_cases h : i < 0
   ·simp only [h, if_true] <;> omega
   ·simp only [h, if_false] <;> omega
 ·cases hi with
  | none => simp [sliceBounds, HT.sIx]
  | some i =>
   simp only [sliceBounds, HT.sIx, Option.getD_none, show (1 : Int) > 0 by decide, if_true]
   by_cases h : i < 0
   ·simp only [h, if_true] <;> omega
   ·simp only [h, if_false] <;> omega
theorem tD (its : List Value) (lo hi : Option Int) : slicePick its.toArray lo hi none = ((its.drop (HT.sIx its.length 0 lo)).take (HT.sIx its.length its.length hi - HT.sIx its.length 0 lo)).toArray := by
 obtain ⟨h1, h2, h3⟩ := vf lo hi its.toArray.size
 unfold slicePick
 rw [h1, h2, h3]
 simp only [sliceRange_one, pick_run, List.size_toArray] <;> rfl
def Vj (K : PySem.W.Frag) : V → Option Int → Option Int → Hp → VK → Prop := fun x lo hi H Q => ∃ a xs, x = .ref a ∧ SqL K H a xs ∧ ∀ p, H p = none → Q (.ref p) (upd H p (.lst (jK xs lo hi)))
theorem Kg : SlR X (Vj X.K) := by
 intro pins s σ H x v vl vu lo hi sl Q I rx hs pl pu h
 obtain ⟨a, xs, rfl, hx, q⟩ := h
 cases rx
 obtain ⟨its, r, ht, hz⟩ := I.list hx
 have hlen := r.length
 refine ⟨"list", _, slot_list_getitem.lookup, ht.isList.typeIs, ?_⟩
 refine wpAny_getItem_list_slice ht.isList hs pl pu .none (by simp) ?_ (by rw [List.size_toArray] <;> omega)
 rw [tD, ← hlen]
 refine ⟨.ref s.heap.objs.size, _, I.laid (t' := s.toks) (o := .lst (jK xs lo hi)) (fun b ob q => Heap.get?_push_of_some _ q) (Nat.le_refl _) ?_, rfl, q _ (I.hok.fresh (Nat.le_refl _))⟩
 exact ⟨Nat.le_trans (pN xs lo hi) hz, _, 0, (r.drop (HT.sIx xs.length 0 lo)).take (HT.sIx xs.length xs.length hi - HT.sIx xs.length 0 lo), Heap.get?_push_size _ rfl⟩
def dN : V → Bool
 | .non => true
 | .bl _ => true
 | .int _ => true
 | .str _ => true
 | _ => false
def eqV : V → V → Bool
 | .non, .non => true
 | .bl a, .bl b => a == b
 | .bl a, .int b => (if a then 1 else 0) == b
 | .int a, .bl b => a == (if b then 1 else 0)
 | .int a, .int b => a == b
 | .str a, .str b => a == b
 | _, _ => false
theorem Jr {A : Around} {s : Shared} {y x : V} {u v : Value} (ry : RelV y u) (rx : RelV x v) (fy : dN y = true) (fx : dN x = true) : SeqAt.EqAt A s u v (eqV y x) := by
 cases y with
 | non =>
  cases ry
  cases x with
  | non => cases rx; exact SeqAt.EqAt.same _
  | bl b => cases rx; exact SeqAt.EqAt.none_bool b
  | int b => obtain ⟨t, rfl⟩ := rx; exact SeqAt.EqAt.none_int b t
  | str b => obtain ⟨t, rfl⟩ := rx; exact SeqAt.EqAt.none_str b t
  | _ => exact absurd (show false = true from fx) Bool.false_ne_true
 | bl a =>
  cases ry
  cases x with
  | non => cases rx; exact SeqAt.EqAt.bool_none a
  | bl b => cases rx; exact SeqAt.EqAt.bool_bool a b
  | int b => obtain ⟨t, rfl⟩ := rx; exact SeqAt.EqAt.bool_int a b t
  | str b => obtain ⟨t, rfl⟩ := rx; exact SeqAt.EqAt.bool_str a b t
  | _ => exact absurd (show false = true from fx) Bool.false_ne_true
 | int a =>
  obtain ⟨t', rfl⟩ := ry
  cases x with
  | non => cases rx; exact SeqAt.EqAt.int_none a t'
  | bl b => cases rx; exact SeqAt.EqAt.int_bool a t' b
  | int b => obtain ⟨t, rfl⟩ := rx; exact SeqAt.EqAt.int_int a t' b t
  | str b => obtain ⟨t, rfl⟩ := rx; exact SeqAt.EqAt.int_str a t' b t
  | _ => exact absurd (show false = true from fx) Bool.false_ne_true
 | str a =>
  obtain ⟨t', rfl⟩ := ry
  cases x with
  | non => cases rx; exact SeqAt.EqAt.str_none a t'
  | bl b => cases rx; exact SeqAt.EqAt.str_bool a t' b
  | int b => obtain ⟨t, rfl⟩ := rx; exact SeqAt.EqAt.str_int a t' b t
  | str b => obtain ⟨t, rfl⟩ := rx; exact SeqAt.EqAt.str_str a t' b t
  | _ => exact absurd (show false = true from fx) Bool.false_ne_true
 | _ => exact absurd (show false = true from fy) Bool.false_ne_true
def eqU (x : V) (u : Value) : Bool := match u with
 | .none => eqV .non x
 | .bool b => eqV (.bl b) x
 | .int i _ => eqV (.int i) x
 | .str z _ => eqV (.str z) x
 | _ => false
theorem Jq {x y : V} {u : Value} (r : RelV y u) (f : dN y = true) : eqU x u = eqV y x := by
 cases y with
 | non => cases r; rfl
 | bl b => cases r; rfl
 | int i => obtain ⟨t, rfl⟩ := r; rfl
 | str z => obtain ⟨t, rfl⟩ := r; rfl
 | _ => exact absurd (show false = true from f) Bool.false_ne_true
theorem nU {x : V} : ∀ {xs : List V} {us : List Value}, Vals xs us → xs.all dN = true → us.any (eqU x) = xs.any fun y => eqV y x
 | _, _, .nil, _ => rfl
 | y :: xs, u :: us, .cons r t, f => by
  rw [List.all_cons, Bool.and_eq_true] at f
  rw [List.any_cons, List.any_cons, Jq r f.1, nU t f.2]
theorem kh {A : Around} {s : Shared} {x : V} {v : Value} (rx : RelV x v) (fx : dN x = true) : ∀ {xs : List V} {us : List Value}, Vals xs us → xs.all dN = true → ∀ u ∈ us, SeqAt.EqAt A s u v (eqU x u)
 | _, _, .nil, _ => fun u hu => by cases hu
 | y :: xs, u :: us, .cons r t, f => fun u' hu => by
  rw [List.all_cons, Bool.and_eq_true] at f
  rcases List.mem_cons.mp hu with rfl | hu
  ·rw [Jq r f.1]; exact Jr r rx f.1 fx
  ·exact kh rx fx t f.2 u' hu
def inV (x : V) (xs : List V) : Bool := xs.any fun y => eqV y x
def rIn (K : PySem.W.Frag) (neg : Bool) : R2 := fun x y H Q => ∃ p xs, y = .ref p ∧ (SqL K H p xs ∨ SqT K H p xs) ∧ dN x = true ∧ xs.all dN = true ∧ Q (.bl (if neg then !inV x xs else inV x xs)) H
theorem CZ : OpR X (compareOp .In) (rIn X.K false) := by
 intro pins s σ H x y v u Q I rx ry h
 obtain ⟨p, xs, rfl, hq, fx, fs, q⟩ := h
 cases ry
 rcases hq with hq | hq
 ·obtain ⟨its, r, pl, hz⟩ := I.list hq
  refine SeqAt.in_listAt (eqU x) pl.isList (fun w hw => kh rx fx r fs w (by simpa using hw)) ⟨.bl _, H, I, rfl, ?_⟩
  rw [show its.toArray.any (eqU x) = its.any (eqU x) by simp, nU r fs]
  exact q
 ·obtain ⟨its, r, pl, hz⟩ := I.tuple hq
  refine SeqAt.in_tupleAt (eqU x) pl (fun w hw => kh rx fx r fs w (by simpa using hw)) ⟨.bl _, H, I, rfl, ?_⟩
  rw [show its.toArray.any (eqU x) = its.any (eqU x) by simp, nU r fs]
  exact q
theorem vK : OpR X (compareOp .NotIn) (rIn X.K true) := by
 intro pins s σ H x y v u Q I rx ry h
 obtain ⟨p, xs, rfl, hq, fx, fs, q⟩ := h
 cases ry
 rcases hq with hq | hq
 ·obtain ⟨its, r, pl, hz⟩ := I.list hq
  refine SeqAt.notIn_listAt (eqU x) pl.isList (fun w hw => kh rx fx r fs w (by simpa using hw)) ⟨.bl _, H, I, rfl, ?_⟩
  rw [show its.toArray.any (eqU x) = its.any (eqU x) by simp, nU r fs]
  exact q
 ·obtain ⟨its, r, pl, hz⟩ := I.tuple hq
  refine SeqAt.notIn_tupleAt (eqU x) pl (fun w hw => kh rx fx r fs w (by simpa using hw)) ⟨.bl _, H, I, rfl, ?_⟩
  rw [show its.toArray.any (eqU x) = its.any (eqU x) by simp, nU r fs]
  exact q
theorem gw : cM X (.builtin "len") (fun xs H Q => ∃ p ys, xs = [.ref p] ∧ (SqL X.K H p ys ∨ SqT X.K H p ys) ∧ Q (.int ys.length) H) := by
 intro pins s σ H xs us Q I r h
 obtain ⟨p, ys, rfl, hq, q⟩ := h
 obtain ⟨u, rfl, rx⟩ := vals1 r
 cases rx
 have hn := mF
 rcases hq with hq | hq
 ·obtain ⟨its, r', pl, hz⟩ := I.list hq
  have hlen := r'.length
  exact Calls.call_len_list pl.isList (by simp only [List.size_toArray] <;> omega) ⟨.int ys.length, H, I.tok _, ⟨s.toks + 1, by rw [List.size_toArray, hlen]⟩, q⟩
 ·obtain ⟨its, r', pl, hz⟩ := I.tuple hq
  have hlen := r'.length
  exact len_tuple pl (by simp only [List.size_toArray] <;> omega) ⟨.int ys.length, H, I.tok _, ⟨s.toks + 1, by rw [List.size_toArray, hlen]⟩, q⟩
theorem v9 : cM X (.builtin "len") (fun xs H Q => ∃ z, xs = [.str z] ∧ z.length ≤ sizeLine ∧ Q (.int z.length) H) := by
 intro pins s σ H xs us Q I r h
 obtain ⟨z, rfl, hz, q⟩ := h
 obtain ⟨u, rfl, t, rfl⟩ := vals1 r
 have hn := mF
 exact len_str (by omega) ⟨.int z.length, H, I.tok _, ⟨_, rfl⟩, q⟩
def tyV (K : PySem.W.Frag) (T : String) (x : V) (H : Hp) : Prop := match x with
 | .str _ => T = "str"
 | .int _ => T = "int"
 | .ref p => (T = "list" ∧ ∃ xs, SqL K H p xs) ∨ (T = "tuple" ∧ ∃ o, K.lookup p = some o ∧ o.cls = .type "tuple" ∧ o.dict = none) ∨
   (T = "dict" ∧ ((∃ kvs, H p = some (.dK kvs)) ∨ ∃ kvs, H p = some (.dT kvs))) ∨ (T = "set" ∧ ∃ S n, H p = some (.set S n))
 | _ => False
theorem Et {pins : List (Addr × Obj)} {σ : St} {H : Hp} {s : Shared} {T : String} {x : V} {v : Value} (I : Inv X pins σ H s) (r : RelV x v) (ty : tyV X.K T x H) :
  s.TypeIs v T ∧ ∀ a, v = .ref a → ∃ ob, s.heap.get? a = some ob ∧ ob.dict = none := by
 cases x with
 | str z =>
  obtain ⟨t, rfl⟩ := r
  cases (show T = "str" from ty)
  exact ⟨typeIs_str s z t, fun _ e => nomatch e⟩
 | int i =>
  obtain ⟨t, rfl⟩ := r
  cases (show T = "int" from ty)
  exact ⟨typeIs_int s i t, fun _ e => nomatch e⟩
 | ref p =>
  cases r
  rcases ty with ⟨rfl, xs, hq⟩ | ⟨rfl, o, hk, hc, hd⟩ | ⟨rfl, hk⟩ | ⟨rfl, S, n, hk⟩
  ·obtain ⟨its, _, pl, _⟩ := I.list hq
   refine ⟨pl.isList.typeIs, fun a e => ?_⟩
   cases e
   obtain ⟨o, n, e, c, hd, _⟩ := pl
   exact ⟨o, e, hd⟩
  ·refine ⟨⟨o, I.kIn p o hk, hc⟩, fun a e => ?_⟩
   cases e
   exact ⟨o, I.kIn _ o hk, hd⟩
  ·have z : ∃ o, s.heap.get? p = some o ∧ o.ExactDict := by
    rcases hk with ⟨kvs, hk⟩ | ⟨kvs, hk⟩
    ·obtain ⟨_, _, _, _, o, _, _, e, ex, _⟩ := I.hok p _ hk
     exact ⟨o, e, ex⟩
    ·obtain ⟨_, _, _, _, o, _, _, e, ex, _⟩ := I.hok p _ hk
     exact ⟨o, e, ex⟩
   obtain ⟨o, e, ex⟩ := z
   refine ⟨⟨o, e, ex.1⟩, fun a e2 => ?_⟩
   cases e2
   exact ⟨o, e, ex.2.1⟩
  ·obtain ⟨o, _, _, _, e, ex, _⟩ := I.hok p _ hk
   refine ⟨⟨o, e, ex.1⟩, fun a e2 => ?_⟩
   cases e2
   exact ⟨o, e, ex.2.1⟩
 | _ => exact False.elim ty
def tBM (K : PySem.W.Frag) (T : String) (r : V → List V → Hp → VK → Prop) (to : TE) (t : TA) : TE := fun σ H Q => to σ H fun x H1 => tyV K T x H1 ∧ t σ H1 fun xs H2 => r x xs H2 Q
variable {o e : Expr} {es : List Expr} {to : TE} {t : TA} {name : Str} {apos cpos : Pos} {T id : String} {r : V → List V → Hp → VK → Prop}
theorem Uv (pa : PlainAttrs T) (slot : Slot T name id) (hty : typeOf (.builtin id) = pure (.type "method_descriptor")) (hm : MtR X id r) (ho : PE X o to) (ha : PA X (e :: es) t)
  (hbase : attributeBase o name X.env (eval o X.env) = eval o X.env := by rfl)
  (hfew : ((backTo cpos (starEach (e :: es) X.env)).all (fun x => !x.1) && (backToKw cpos (keywordEach [] X.env)).all (fun x => x.1.isSome)
   && decide ((e :: es).length + ([] : List Keyword).length + (if ([] : List Keyword).isEmpty then 0 else 1) < 30)) = true := by rfl)
  (hline : (apos.endLine == cpos.line) = true := by rfl) (hs : starEach (e :: es) X.env = (false, eval e X.env) :: starEach es X.env := by rfl) (hplain : (backTo cpos (starEach es X.env)).any (·.1) = false := by rfl) :
  PE X (.Call (.Attribute o name apos) (e :: es) [] cpos) (tBM X.K T r to t) := by
 intro pins s σ H Q I h
 refine wpAny_Call_method_late hbase hfew hline rfl (thn (ho pins s σ H _ I h) fun v s1 ⟨x, H1, I1, r1, ty, q1⟩ => ?_)
 obtain ⟨h1, h2⟩ := Et I1 r1 ty
 refine ⟨T, id, pa, slot, hty, h1, h2, ?_⟩
 have hA := ha cpos pins s1 σ H1 _ I1 q1
 rw [hs] at hA ⊢
 refine Calls.callWith_builtin (by show (false || (backTo cpos (starEach es X.env)).any (·.1)) = false; rw [hplain] <;> rfl) (Calls.evalArgs_plain ?_)
 exact thA hA fun us s2 vs H2 I2 r2 q2 => hm pins s2 σ H2 x vs v us Q I2 r1 r2 q2
end
def MtM (X : Cx) (id : String) (r : V → List V → Hp → VK → Prop) : Prop :=
 ∀ (pins : List (Addr × Obj)) (s : Shared) (σ : St) (H : Hp) (x : V) (xs : List V) (v : Value) (us : List Value) (Q : VK), Inv X pins σ H s → RelV x v → Vals xs us → r x xs H Q →
  wpAny (model X.prog X.w) X.A (call (.builtin id) (v :: us)) (EP X pins σ Q) X.xe s
theorem Vals.one : ∀ {x : V} {us : List Value}, Vals [x] us → ∃ u, us = [u] ∧ RelV x u := fun h => by
 cases h with
 | cons r h =>
  cases h
  exact ⟨_, rfl, r⟩
theorem Vals.rep {xs : List V} {us : List Value} (h : Vals xs us) : ∀ k : Nat, Vals (List.replicate k xs).flatten (List.replicate k us).flatten
 | 0 => .nil
 | k + 1 => by
  rw [List.replicate_succ, List.replicate_succ, List.flatten_cons, List.flatten_cons]
  exact Vals.append h (Vals.rep h k)
theorem foldl_rep (its : List Value) : ∀ (k : Nat) (acc : List Value),
  List.foldl (fun x1 x2 => x1 ++ x2) acc.toArray (List.replicate k its.toArray) = (acc ++ (List.replicate k its).flatten).toArray
 | 0, acc => by simp
 | k + 1, acc => by
  have e : acc.toArray ++ its.toArray = (acc ++ its).toArray := by simp
  have e2 : (acc ++ its) ++ (List.replicate k its).flatten = acc ++ (List.replicate (k + 1) its).flatten := by
   rw [List.replicate_succ, List.flatten_cons, List.append_assoc]
  rw [← e2, ← foldl_rep its k (acc ++ its), ← e, List.replicate_succ, List.foldl_cons]
section
variable {X : Cx} {pins : List (Addr × Obj)} {σ : St} {H : Hp} {s : Shared} {l b : Addr} {xs ys zs : List V}
theorem Inv.Vr {its its' : List Value} {n : Nat} {f : Array Value → Array Value} {t' : Nat} (I : Inv X pins σ H s) (hH : H l = some (.lst xs))
  (e : s.heap.get? l = some { cls := .type "list", data := .seq its.toArray n }) (hf : f its.toArray = its'.toArray) (hv : Vals ys its') (hz : ys.length ≤ sizeLine) :
  Inv X pins σ (upd H l (.lst ys)) { s with heap := s.heap.update l (Obj.mapSeq f), toks := t' } := by
 have q := PySem.IsL.update e f
 rw [hf] at q
 refine I.write (x := l) (e := l) (by rw [hH]; exact trivial) (.inl rfl) (fun b' u hb hu => (Heap.get?_update_other s.heap (Obj.mapSeq f) (Ne.symm hb)).trans hu) ⟨_, q⟩ ?_
 exact ⟨hz, its', _, hv, q⟩
theorem Inv.U3 {its : List Value} {t' : Nat} (I : Inv X pins σ H s) (hv : Vals ys its) (hz : ys.length ≤ sizeLine) :
  Inv X pins σ (upd H s.heap.objs.size (.lst ys)) { s with heap := s.heap.push { cls := .type "list", data := .seq its.toArray }, toks := t' } :=
 I.laid (fun _ _ q => Heap.get?_push_of_some _ q) (Nat.le_refl _) ⟨hz, its, 0, hv, Heap.get?_push_size _ rfl⟩
theorem Inv.fresh (I : Inv X pins σ H s) : H s.heap.objs.size = none := I.hok.fresh (Nat.le_refl _)
theorem Inv.Nj (I : Inv X pins σ H s) (hH : H l = some (.lst xs)) : xs.length ≤ sizeLine ∧ ∃ (its : List Value) (n : Nat), Vals xs its ∧ xs.length = its.length ∧ s.heap.get? l = some { cls := .type "list", data := .seq its.toArray n } := by
 obtain ⟨z, its, n, r, e⟩ := I.hok l _ hH
 exact ⟨z, its, n, r, r.length, e⟩
theorem HW {n : Nat} (h : n ≤ sizeLine) : Builtin.List.listTooLong n = false := by
 unfold Builtin.List.listTooLong
 exact decide_eq_false (by omega)
end
section
variable {X : Cx}
def Lg : V → List V → Hp → VK → Prop := fun x vs H Q => ∃ l xs y, x = .ref l ∧ vs = [y] ∧ H l = some (.lst xs) ∧ xs.length < sizeLine ∧ Q .non (upd H l (.lst (xs ++ [y])))
theorem Dr : MtM X "list.append" Lg := by
 intro pins s σ H x vs v us Q I rx rv h
 obtain ⟨l, xs, y, rfl, rfl, hH, hz, q⟩ := h
 cases rx
 obtain ⟨u, rfl, ru⟩ := rv.one
 obtain ⟨z, its, n, r, hl, e⟩ := I.Nj hH
 refine call_meets F.slot_list_append ⟨_, e, rfl⟩ F.entry_list_append (F.args_list_append_2 _ _) (PySem.list_append l its.toArray n u (by rw [List.size_toArray]; omega)) ⟨e, ?_⟩
 refine ⟨.non, _, I.Vr (its' := its ++ [u]) hH e (by simp) (r.append (.cons ru .nil)) ?_, rfl, q⟩
 rw [List.length_append, List.length_singleton]
 omega
def Vo : R2 := fun x y H Q => ∃ l b xs zs, x = .ref l ∧ y = .ref b ∧ H l = some (.lst xs) ∧ H b = some (.lst zs) ∧ xs.length + zs.length ≤ sizeLine ∧ ∀ p, H p = none → Q (.ref p) (upd H p (.lst (xs ++ zs)))
theorem RV : OpR X (binaryOp .Add) Vo := by
 intro pins s σ H x y v u Q I rx ry h
 obtain ⟨l, b, xs, zs, rfl, rfl, hH, hB, hz, q⟩ := h
 cases rx
 cases ry
 obtain ⟨z, its, n, r, hl, e⟩ := I.Nj hH
 obtain ⟨z2, its2, n2, r2, hl2, e2⟩ := I.Nj hB
 refine PySem.P.add_list e e2 ?_ (by rw [List.size_toArray, List.size_toArray]; omega)
 have ea : its.toArray ++ its2.toArray = (its ++ its2).toArray := by simp
 rw [ea]
 exact ⟨.ref _, _, I.U3 (t' := s.toks) (r.append r2) (by rw [List.length_append]; omega), rfl, q _ I.fresh⟩
def Vk : R2 := fun x y H Q => ∃ l k xs, x = .ref l ∧ y = .int k ∧ H l = some (.lst xs) ∧ -(2 ^ 63) ≤ k ∧ k < 2 ^ 63 ∧ xs.length * k.toNat ≤ sizeLine ∧
 ∀ p, H p = none → Q (.ref p) (upd H p (.lst (List.replicate k.toNat xs).flatten))
theorem len_rep {α : Type} (xs : List α) (k : Nat) : (List.replicate k xs).flatten.length = k * xs.length := by
 induction k with
 | zero => simp
 | succ k ih => rw [List.replicate_succ, List.flatten_cons, List.length_append, ih, Nat.succ_mul, Nat.add_comm]
theorem RN : OpR X (binaryOp .Mult) Vk := by
 intro pins s σ H x y v u Q I rx ry h
 obtain ⟨l, k, xs, rfl, rfl, hH, h1, h2, hz, q⟩ := h
 cases rx
 obtain ⟨t, rfl⟩ := ry
 obtain ⟨z, its, n, r, hl, e⟩ := I.Nj hH
 have hlen : its.toArray.size * k.toNat ≤ sizeLine := by rw [List.size_toArray, ← hl]; exact hz
 have hcap : ¬ its.toArray.size * k.toNat > (2 ^ 63 - 1) / 8 := by
  have : (sizeLine : Nat) ≤ (2 ^ 63 - 1) / 8 := by decide
  omega
 have hfit : ¬ (!Builtin.List.listFitsIndex k) = true := by
  rw [fitsIndex_both h1 h2]
  exact Bool.false_ne_true
 have hlong : ¬ Builtin.List.listTooLong (its.toArray.size * k.toNat) = true := by
  rw [HW hlen]
  exact Bool.false_ne_true
 have hnew : List.foldl (fun x1 x2 => x1 ++ x2) #[] (List.replicate (if its.toArray.isEmpty = true then 0 else k.toNat) its.toArray) = (List.replicate k.toNat its).flatten.toArray := by
  have f0 : ∀ m : Nat, List.foldl (fun x1 x2 => x1 ++ x2) #[] (List.replicate m its.toArray) = (List.replicate m its).flatten.toArray := fun m => by
   have := foldl_rep its m []
   rw [List.nil_append] at this
   exact this
  rw [f0]
  cases its with
  | nil => simp
  | cons a r' => rw [if_neg (by simp)]
 refine wpAny_binaryOp_repeat_ref (T := "list") (U := "int") (by decide) ⟨_, e, rfl⟩ (fun s' => typeIs_int s' k t) noFill_list_mul F.fills_int_mul F.slot_int_rmul repeat_list F.slot_int_index.lookup
  (call_meets F.slot_int_rmul (typeIs_int s k t) F.entry_int_rmul (F.args_int_rmul_2 _ _) (int___rmul___int_list k t l its.toArray n)
   ⟨e, rfl, ⟨_, e, rfl⟩, call_meets F.slot_list_mul ⟨_, e, rfl⟩ F.entry_list_mul (F.args_list_mul_2 _ _) (AutoListH.list___mul___list_int_3 l its.toArray n k t hfit hcap hlong) ⟨e, ?_⟩⟩)
 rw [hnew]
 exact ⟨.ref _, _, I.U3 (t' := s.toks) (r.rep k.toNat) (by rw [len_rep, Nat.mul_comm]; exact hz), rfl, q _ I.fresh⟩
end
section
variable {prog : Program} {w : World} {A : Around} {E : Value → Shared → Prop} {s : Shared}
end
section
variable {X : Cx}
end
end L2
namespace Att
open PySem PySem.W PySem.Calls PyProof.Rows
theorem pW {P : Params} {h : Heap} : ∀ (ns : List Int) (vs : List Value), WellAll P h vs (ns.map WData.int) → IntsAre vs ns := by
 intro ns
 induction ns with
 | nil =>
  intro vs w
  rw [List.map_nil] at w
  cases w
  exact .nil
 | cons n ns ih =>
  intro vs w
  rw [List.map_cons] at w
  cases w with
  | cons a b =>
   cases a
   exact .cons _ _ (ih _ b)
theorem Cu {l : OpenLaw} {n : Nat} (hn : l.most = some n) {P : Params} {h : Heap} {args : List WData} {vals : List Value}
  (hpre : l.row.toRowW.claim.pre args = true) (hwl : WellAll P h vals args) :
  ∃ a vs ns, vals = [Value.ref a] ∧ args = [WData.list (ns.map WData.int)] ∧ h.get? a = some { cls := .type "list", data := .seq vs.toArray } ∧ IntsAre vs ns ∧ ns.length ≤ n := by
 have hsh : WShape.hasAll [] args [.list .int] = true := (pre_splitW hpre).1
 have hc : l.pre.holds [] { args := args } = true := (pre_splitW hpre).2
 obtain ⟨d, r, rfl, h1, h2⟩ := hasAllW_cons hsh
 obtain rfl := hasAllW_nil h2
 obtain ⟨xs, rfl, h3⟩ := hasW_list h1
 obtain ⟨ns, rfl⟩ := items_int h3
 have hlen : ns.length ≤ n := by
  unfold OpenLaw.pre at hc
  have h4 : (WTm.not (.lt (.lit (.int (n : Int))) (.len (.arg 0)))).holds [] { args := [.list (ns.map .int)] } = true := by
   have h4 := (holds_andW hc).1
   rw [hn] at h4
   exact h4
  have h5 := condW_of h4 (w_not (w_lt w_lit (w_len_list (w_arg rfl))))
  rw [List.length_map] at h5
  refine Nat.le_of_not_lt fun q => ?_
  have q' : (n : Int) < ((ns.length : Nat) : Int) := by omega
  first
   | (rw [decide_eq_true q'] at h5; exact absurd h5 (by decide))
   | (simp at h5; omega)
 cases hwl with
 | cons w1 w2 =>
  cases w2
  cases w1 with
  | list ho hall => exact ⟨_, _, ns, rfl, rfl, ho, pW ns _ hall, hlen⟩
theorem CN (l : OpenLaw) (args : List WData) : l.row.toRowW.claim.post args (.bool true) args = true :=
 postW_of (r := l.row.toRowW) (X := (true == true))
  (show WShape.has [] (.bool true) .bool = true by first | rfl | decide | simp [WShape.has, WShape.arms, WShape.armsAll])
  (show (WTm.eq .res (.lit (.bool true))).value [] { args := args, res := some (.bool true), after := args } = some (.bool (true == true)) from w_eq_bool (w_res rfl) w_lit) rfl
theorem yw {l : OpenLaw} {n : Nat} {q : Program} {loose : List Str} {XP : (Str → Option Value) → Heap → Prop} {YP : World → Heap → Prop} {d : DefRec}
  (hn : l.most = some n) (hdf : d.params.defaults = [])
  (call : ∀ (w : World) (s₀ s₁ : Shared) (mg mb : Str → Option Value) (fa : Addr) (o : Obj) (pm cd doc : Value) (a : Addr) (vs : List Value) (ns : List Int),
   Ground q loose [] XP w s₀ mg mb s₁.heap → YP w s₁.heap →
   s₁.heap.get? fa = some o → o.data = .func (docDef d.name d.params d.body d.scope pm cd doc) → s₁.heap.CodeRec cd d.name → mg d.name = some (.ref fa) →
   s₁.heap.get? a = some { cls := .type "list", data := .seq vs.toArray } → IntsAre vs ns → ns.length ≤ n → s₁.gens = #[] →
   codeAny (model l.prog w) callerA (.call (.ref fa) ⟨[.ref a], []⟩) (fun r s' => r = .ok (.ret (.bool true)) ∧ OldK s₁.heap s'.heap ∧ s'.os = s₁.os ∧ AllBare s'.gens) s₁) :
  WalkO q loose XP YP l.row.toRowW d [] (fun f vs => PySem.call f vs) := by
 intro w s₀ s₁ mg mb G Y fa o pm cd doc dV kV ho hd hcd hD hmg hg args vals as hpre hlay hrd hwl hlo
 obtain rfl : dV = .none := Dflts.none hD hdf
 obtain rfl : kV = .none := Dflts.noKw hD
 obtain ⟨a, vs, ns, rfl, rfl, hobj, hints, hlen⟩ := Cu hn hpre hwl
 refine enter_call (codeAny_mono (call w s₀ s₁ mg mb fa o pm cd doc a vs ns G Y ho (fd_plain hd) hcd hmg hobj hints hlen hg) fun r s' hq => ?_)
 obtain ⟨rfl, h2, h3, h4⟩ := hq
 exact ⟨.inl ⟨.bool true, .bool true, [], rfl, fun _ => rfl, .bool true, CN l _, fun _ => ⟨List.Pairwise.nil, fun _ hm => (nomatch hm)⟩⟩, h2, h3, h4⟩
section
variable {prog : Program} {w : World} {A : Around} {E : Value → Shared → Prop} {s : Shared} {K : Frag}
end
end Att
namespace L2
open PySem PySem.Spec PyProof.Rows
theorem uf : ∀ {vs : List Value} {ns : List Int}, IntsAre vs ns → Vals (ns.map V.int) vs
 | _, _, .nil => .nil
 | _, _, .cons n t h => .cons ⟨t, rfl⟩ (uf h)
def Only (H : Hp) : Prop := ∀ b, H b = none ∨ ∃ o xs, H b = some (.frz o (.lst xs))
theorem Io {P : Program} {w : World} {K : PySem.W.Frag} {mg mb : Str → Option Value} {CX : CXT} {k : Nat} {fa a : Addr} {fd : FuncData} {x : Str} {sp : Sp} {s₁ : Shared} {vs : List Value} {ns : List Int}
  (KX : K.In s₁.heap) (hns : s₁.heap.Ns mainGlobals mg) (hb : s₁.heap.Ns builtinsNs mb) (hbb : ∀ x : Str, x ≠ "__name__" → mb x = bootBuiltins x) (hlim : s₁.heap.NoLimit) (hg : s₁.gens = #[])
  (ha : s₁.heap.get? a = some { cls := .type "list", data := .seq vs.toArray }) (hi : IntsAre vs ns) (hl : ns.length ≤ sizeLine) (hr : fZ k callerA)
  (F : ∀ base : Heap, K.In base → base.Ns mainGlobals mg → cX P w K mg base CX k fa fd [x] sp) (hbind : ∀ (s : Shared) (u : Value), BindsTo s fd ⟨[u], []⟩ [(x, u)])
  (hsp : ∀ H : Hp, Only H → SqL K H a (ns.map V.int) → sp [.ref a] H (fun v _ => v = .bl true) fun _ _ _ => False)
  (hCX : ∀ H e s', CX [] H s₁ (fun _ _ _ => False) e s' → False) :
  codeAny (model P w) callerA (.call (.ref fa) ⟨[.ref a], []⟩) (fun r s' => r = .ok (.ret (.bool true)) ∧ OldK s₁.heap s'.heap ∧ s'.os = s₁.os ∧ AllBare s'.gens) s₁ := by
 have rv := uf hi
 have lenV := hi.length
 -- from an abstract heap in which nothing but the script may be tracked
 have core : ∀ H : Hp, Only H → SqL K H a (ns.map V.int) → HOk P w H s₁.heap → (∀ b, H b ≠ none → b = a) → (H a ≠ none → K.lookup a = none) →
   codeAny (model P w) callerA (.call (.ref fa) ⟨[.ref a], []⟩) (fun r s' => r = .ok (.ret (.bool true)) ∧ OldK s₁.heap s'.heap ∧ s'.os = s₁.os ∧ AllBare s'.gens) s₁ := by
  intro H hO hS hok hA hK
  have base_of : ∀ {b : Addr} {o : Obj}, s₁.heap.get? b = some o → H b = none → (vU s₁.heap H).get? b = some o := fun e n => Jf e n
  have noA : ∀ {b : Addr} {o : Obj} {es : Array DictEntry} {ep : Nat}, s₁.heap.get? b = some o → o.data = .dict es ep → H b = none := fun {b o es ep} e d => by
   cases q : H b with
   | none => rfl
   | some u =>
    have e' : b = a := hA b (by rw [q]; simp)
    subst e'
    rw [ha] at e; cases e
    have d' : Data.seq vs.toArray _ = Data.dict es ep := d
    cases d'
  have nsK : ∀ {b : Addr} {m : Str → Option Value}, s₁.heap.Ns b m → (vU s₁.heap H).Ns b m := fun {b m} ⟨o, es, ep, e, d, r⟩ => ⟨o, es, ep, base_of e (noA e d), d, r⟩
  have hKb : K.In (vU s₁.heap H) := fun b o e => base_of (KX b o e) (by
   cases q : H b with
   | none => rfl
   | some u =>
    have e' : b = a := hA b (by rw [q]; simp)
    subst e'
    rw [hK (by rw [q]; simp)] at e; cases e)
  have hM : Mod K mg (vU s₁.heap H) := ⟨hKb, nsK hns, ⟨mb, nsK hb, hbb⟩, let ⟨mc, h1, h2⟩ := hlim; ⟨mc, nsK h1, h2⟩⟩
  have e0 : O5 P w K mg (vU s₁.heap H) callerA [] s₁ H := ⟨rfl, hM, fun b o e => Nf e, Nat.le_of_eq (DK _ _), trivial, fun b hb => absurd (show b ∈ ([] : List Addr) from hb) (by simp), hok, .of_eq hg⟩
  refine codeAny_mono ((F _ hKb (nsK hns)).run callerA [] s₁ H ⟨[.ref a], []⟩ [.ref a] [.ref a] _ _ hr e0 (hbind s₁ (.ref a)) (.cons rfl .nil) (hsp H hO hS)) fun r s' h => ?_
  cases r with
  | error e => exact (hCX H e s' h).elim
  | ok fl =>
   cases fl with
   | next => exact False.elim h
   | brk => exact False.elim h
   | cont => exact False.elim h
   | ret u =>
    obtain ⟨v, H', os, bare, un, hok', r', q⟩ := h
    have q' : v = .bl true := q
    subst q'
    obtain rfl : u = Value.bool true := r'
    refine ⟨rfl, OldK.of_keep fun b o e => ?_, os, bare⟩
    cases q : H b with
    | none => exact un.keep b o e q (by intro z; exact absurd (show b ∈ ([] : List Addr) from z) (by simp)) (by simp)
    | some u =>
     rcases hO b with z | ⟨ob, xs, z⟩
     ·rw [q] at z; cases z
     ·have z2 := un.frzs b ob _ z
      obtain ⟨e1, _⟩ := hok b _ z
      obtain ⟨e2, _⟩ := hok' b _ z2
      rw [e] at e1; cases e1
      exact e2
 cases hk : K.lookup a with
 | some o =>
  -- the script is one of the module's own objects
  have e := KX a o hk
  rw [ha] at e
  cases e
  refine core (fun _ => none) (fun _ => .inl rfl) (.inr ⟨_, vs.toArray, _, hk, rfl, rfl, rfl, by rw [List.size_toArray, lenV]; exact hl, by simpa using rv⟩) (fun b u z => by have z' : (none : Option HO) = some u := z; cases z') (fun b z => absurd rfl z) fun z => absurd rfl z
 | none =>
  refine core (fun b => if b = a then some (.frz { cls := .type "list", data := .seq vs.toArray } (.lst (ns.map V.int))) else none) (fun b => ?_) (.inl (.inr ⟨{ cls := .type "list", data := .seq vs.toArray }, if_pos rfl⟩)) (fun b u z => ?_) (fun b z => ?_) fun _ => hk
  ·by_cases hb : b = a
   ·exact .inr ⟨_, _, if_pos hb⟩
   ·exact .inl (if_neg hb)
  ·by_cases hb : b = a
   ·have z' := (if_pos hb).symm.trans z
    cases z'
    subst hb
    exact ⟨ha, by rw [List.length_map]; exact hl, vs, _, rv, ha⟩
   ·have z' := (if_neg hb).symm.trans z
    cases z'
  ·by_cases hb : b = a
   ·exact hb
   ·exact absurd (if_neg hb) z
theorem JX {l : PySem.W.OpenLaw} {n k : Nat} {q : Program} {loose : List Str} {XP : (Str → Option Value) → Heap → Prop} {YP : World → Heap → Prop} {d : DefRec} {K : Params → PySem.W.Frag} {CX : World → CXT} {sp : World → Sp} {x : Str}
  (hn : l.most = some n) (hn2 : n ≤ sizeLine) (hdf : d.params.defaults = []) (hr : fZ k callerA)
  (hY : ∀ (w : World) (h : Heap), YP w h → (K w.params).In h)
  (F : ∀ (w : World) (mg : Str → Option Value) (fa : Addr) (h : Heap), (K w.params).In h → h.Ns mainGlobals mg → mg d.name = some (.ref fa) →
   ∃ fd : FuncData, (∀ (s : Shared) (u : Value), BindsTo s fd ⟨[u], []⟩ [(x, u)]) ∧
    ∀ base : Heap, (K w.params).In base → base.Ns mainGlobals mg → cX l.prog w (K w.params) mg base (CX w) k fa fd [x] (sp w))
  (hsp : ∀ (w : World) (H : Hp) (a : Addr) (ns : List Int), ns.length ≤ n → Only H → SqL (K w.params) H a (ns.map V.int) → sp w [.ref a] H (fun v _ => v = .bl true) fun _ _ _ => False)
  (hCX : ∀ (w : World) (H : Hp) (s : Shared) (e : Value) (s' : Shared), CX w [] H s (fun _ _ _ => False) e s' → False) :
  PySem.W.WalkO q loose XP YP l.row.toRowW d [] (fun f vs => PySem.call f vs) := by
 refine Att.yw hn hdf fun w s₀ s₁ mg mb fa o pm cd doc a vs ns G Y ho hd hcd hmg hobj hints hlen hg => ?_
 have KX := hY w _ Y
 obtain ⟨fd, hb, hF⟩ := F w mg fa _ KX G.T.g hmg
 exact Io KX G.T.g G.T.b G.T.builtins G.T.nolimit hg hobj hints (Nat.le_trans hlen hn2) hr hF hb (fun H hO hS => hsp w H a ns hlen hO hS) fun H e s' => hCX w H s₁ e s'
def bf (s : Stmt) : Arguments := match s with
 | .FunctionDef _ a _ _ _ _ _ _ _ _ => a
 | _ => { posonlyargs := [], args := [], vararg := none, kwonlyargs := [], kw_defaults := [], kwarg := none, defaults := [] }
def aY (s : Stmt) : List Stmt := match s with
 | .FunctionDef _ _ b _ _ _ _ _ _ _ => b
 | _ => []
def aj (s : Stmt) : Scope := match s with
 | .FunctionDef _ _ _ _ _ _ sc _ _ _ => sc
 | _ => { kind := .function, names := [], isGenerator := false, isCoroutine := false }
abbrev CX0 : CXT := fun _ _ _ _ _ _ => False
abbrev E0 : XK := fun _ _ _ => False
theorem Ux {X : Cx} : zX CX0 X E0 := fun _ _ _ _ _ _ _ h => h.elim
structure Fun (K : PySem.W.Frag) (x qual : Str) (st : Stmt) (f : Addr) (fd : FuncData) : Prop where
 ex : ∃ (oc : Value) (od : Option Addr) (kV doc pm : Value) (an : Option Addr) (cdv ct : Value) (osl : Array (Option Value)),
  fd = PySem.W.fnOf x qual (bf st) (aY st) (aj st) .none kV doc pm an cdv ct ∧ K.lookup f = some ⟨oc, od, .func fd, osl⟩ ∧ PySem.W.codeIn K cdv qual = true
 kp : PySem.W.keepIn K (.ref f) = true
section
variable {P : Program} {w : World} {K : PySem.W.Frag} {mg : Str → Option Value} {base : Heap}
theorem Fun.ok {x qual : Str} {st : Stmt} {f : Addr} {fd : FuncData} {N ps : List Str} {k : Nat} {sp : Sp} (F : Fun K x qual st f fd) (S : bh N ps (aj st)) (len : ∀ vs H Q E, sp vs H Q E → vs.length = ps.length)
  (hbody : ∀ (cdv : Value) (A : Around) (outer : List Env) (s : Shared) (H : Hp) (vs : List V) (Q : VK) (E : XK), fZ k (A.deeper (envOfC qual (aj st) s.heap.objs.size f cdv)) → sp vs H Q E →
   ∃ t, PSs (zN CX0 P w K mg base N qual (aj st) f cdv A outer s H E).nox (aY st) t ∧ t { nx := fun _ H' => Q .non H', rt := Q } (start N vs) H) : cX P w K mg base CX0 (k + 1) f fd ps sp := by
 obtain ⟨oc, od, kV, doc, pm, an, cdv, ct, osl, rfl, lk, hcd⟩ := F.ex
 refine U6 lk hcd S len fun A outer s H vs Q E hr hsp => ?_
 obtain ⟨t, h, q⟩ := hbody cdv A outer s H vs Q E hr hsp
 exact ⟨t, h.nox, q⟩
theorem Fun.binds {x qual : Str} {st : Stmt} {f : Addr} {fd : FuncData} {ps : List Str} (F : Fun K x qual st f fd)
  (h : ∀ (kV doc pm : Value) (an : Option Addr) (cdv ct : Value) (us : List Value), us.length = ps.length → bindArgs (PySem.W.fnOf x qual (bf st) (aY st) (aj st) .none kV doc pm an cdv ct) ⟨us, []⟩ = pure (ps.zip us)) : Binds K fd ps [] := by
 obtain ⟨oc, od, kV, doc, pm, an, cdv, ct, osl, rfl, lk, hcd⟩ := F.ex
 exact .all (h kV doc pm an cdv ct)
theorem aN {x qual : Str} {st : Stmt} {f : Addr} {oc : Value} {od an : Option Addr} {osl : Array (Option Value)} {kV doc pm cdv ct : Value} (l : K.lookup f = some ⟨oc, od, .func (PySem.W.fnOf x qual (bf st) (aY st) (aj st) .none kV doc pm an cdv ct), osl⟩)
  (c : PySem.W.codeIn K cdv qual = true) (k : PySem.W.keepIn K (.ref f) = true) : Fun K x qual st f (PySem.W.fnOf x qual (bf st) (aY st) (aj st) .none kV doc pm an cdv ct) := ⟨⟨oc, od, kV, doc, pm, an, cdv, ct, osl, rfl, l, c⟩, k⟩
end
section
variable {X : Cx}
end
def Same (H H' : Hp) : Prop := ∀ b o, H b = some o → H' b = some o
theorem Same.refl (H : Hp) : Same H H := fun _ _ h => h
theorem Same.trans {H H1 H2 : Hp} (a : Same H H1) (b : Same H1 H2) : Same H H2 := fun c o h => b c o (a c o h)
theorem Same.seq {K : PySem.W.Frag} {H H' : Hp} {a : Addr} {xs : List V} (e : Same H H') (h : SqL K H a xs) : SqL K H' a xs := by
 rcases h with (h | ⟨o, h⟩) | h
 ·exact .inl (.inl (e _ _ h))
 ·exact .inl (.inr ⟨o, e _ _ h⟩)
 ·exact .inr h
end L2
set_option maxHeartbeats 4000000
namespace L2
open PySem PySem.Spec PyProof.Rows
theorem rZ {env : Env} : ∀ (names : List (Str × NameKind)) (acc : List (Str × Addr)),
  (∀ y ∈ names, y.2 = .free → ∃ c, env.cells.lookup y.1 = some c) → (∀ x c, acc.lookup x = some c → env.cells.lookup x = some c) →
  ∃ cl, (forIn names acc fun (y : Str × NameKind) (r : List (Str × Addr)) => (match y with
   | (name, kind) => if (kind == .free) = true then (do let a ← cellOf env name; pure (ForInStep.yield ((name, a) :: r))) else pure (ForInStep.yield r) : Sem (ForInStep (List (Str × Addr))))) = pure cl ∧
   (∀ x c, cl.lookup x = some c → env.cells.lookup x = some c) ∧ (∀ y ∈ names, y.2 = .free → ∃ c, cl.lookup y.1 = some c) ∧ (∀ x c, acc.lookup x = some c → ∃ c', cl.lookup x = some c')
 | [], acc, _, ha => ⟨acc, rfl, ha, fun _ h => (nomatch h), fun x c h => ⟨c, h⟩⟩
 | (n, k) :: r, acc, hf, ha => by
  have hf' : ∀ y ∈ r, y.2 = .free → ∃ c, env.cells.lookup y.1 = some c := fun y hy => hf y (List.mem_cons_of_mem _ hy)
  by_cases hk : k = .free
  ·subst hk
   obtain ⟨c0, e0⟩ := hf (n, .free) List.mem_cons_self rfl
   have hce : cellOf env n = pure c0 := by unfold cellOf; rw [e0]
   have ha2 : ∀ x c, ((n, c0) :: acc).lookup x = some c → env.cells.lookup x = some c := fun x c h => by
    rw [List.lookup_cons] at h
    cases hx : x == n with
    | true =>
     rw [hx] at h
     have e1 : x = n := by simpa using hx
     rw [e1, e0]
     exact h
    | false =>
     rw [hx] at h
     exact ha x c h
   obtain ⟨cl, e, h1, h2, h3⟩ := rZ r ((n, c0) :: acc) hf' ha2
   refine ⟨cl, ?_, h1, fun y hy hz => ?_, fun x c h => ?_⟩
   ·rw [List.forIn_cons]
    simp only [beq_self_eq_true, if_true, hce]
    exact e
   ·rcases List.mem_cons.mp hy with q | q
    ·subst q
     exact h3 n c0 (by simp)
    ·exact h2 y q hz
   ·cases hx : x == n with
    | true => exact h3 x c0 (by rw [List.lookup_cons, hx])
    | false => exact h3 x c (by rw [List.lookup_cons, hx]; exact h)
  ·have hb : (k == NameKind.free) = false := by simpa using hk
   obtain ⟨cl, e, h1, h2, h3⟩ := rZ r acc hf' ha
   refine ⟨cl, ?_, h1, fun y hy hz => ?_, h3⟩
   ·rw [List.forIn_cons]
    simp only [hb, Bool.false_eq_true, if_false]
    exact e
   ·rcases List.mem_cons.mp hy with q | q
    ·subst q
     exact absurd hz hk
    ·exact h2 y q hz
theorem BV {env : Env} {scope : Scope} (hf : ∀ y ∈ scope.names, y.2 = .free → ∃ c, env.cells.lookup y.1 = some c) :
  ∃ cl, closureFor scope env = pure cl ∧ (∀ x c, cl.lookup x = some c → env.cells.lookup x = some c) ∧ (∀ y ∈ scope.names, y.2 = .free → ∃ c, cl.lookup y.1 = some c) := by
 obtain ⟨cl, e, h1, h2, _⟩ := rZ (env := env) scope.names [] hf (fun x c h => by simp at h)
 refine ⟨cl, ?_, h1, h2⟩
 unfold closureFor
 show (forIn scope.names [] _ >>= fun r => pure r) = _
 rw [show (forIn scope.names ([] : List (Str × Addr)) fun (y : Str × NameKind) (r : List (Str × Addr)) => (match y with
   | (name, kind) => if (kind == .free) = true then (do let a ← cellOf env name; pure (ForInStep.yield ((name, a) :: r))) else pure (ForInStep.yield r) : Sem (ForInStep (List (Str × Addr))))) = pure cl from e]
 rfl
section
variable {prog : Program} {w : World} {A : Around} {R : Result → Shared → Prop} {s : Shared}
theorem uO {elt tg iter : Expr} {ifs : List Expr} {scope : Scope} {pos : Pos} {it acc : Value} {env : Env} (J : Nat → Shared → Prop)
  (turn : ∀ n s, J n s → wpAny (model prog w) A (pyNext it) (fun r s1 => match r with
   | none => R (.ok .next) s1
   | some v => wpAny (model prog w) A (letOwnedTupleGo tg it v) (fun _ s1' => wpAny (model prog w) A (assign tg env v) (fun _ s2 =>
     wpAny (model prog w) A (forIn ifs true fun c r => if r = true then do let ok ← isTrue c env (eval c env); pure (ForInStep.yield ok) else pure (ForInStep.yield r)) (fun ok s3 =>
      if ok = true then wpAny (model prog w) A (eval elt env) (fun x s4 =>
       wpAny (model prog w) A (call (.builtin "list.append") [acc, x]) (fun _ s5 => ∃ m, m < n ∧ J m s5) (notedBy (model prog w) A env fun e z => R (.error e) z) s4) (notedBy (model prog w) A env fun e z => R (.error e) z) s3
      else ∃ m, m < n ∧ J m s3) (notedBy (model prog w) A env fun e z => R (.error e) z) s2) (notedBy (model prog w) A env fun e z => R (.error e) z) s1') (notedBy (model prog w) A env fun e z => R (.error e) z) s1) (notedBy (model prog w) A env fun e z => R (.error e) z) s)
  (n : Nat) (h : J n s) : codeAny (model prog w) A (.compLoop (.ListComp elt [⟨tg, iter, ifs, 0⟩] scope pos) 0 it acc env) R s := by
 refine codeAny_loop rfl J (fun n z hJ => ?_) n h
 show wpAny _ A ((compTurn (.ListComp elt [⟨tg, iter, ifs, 0⟩] scope pos) 0 it acc env).onRaise (fun y => do noteFrame y env; theTreesLotGoes y)) _ _ z
 refine wpAny_noted ?_
 rw [compTurn_list]
 refine wpAny_bind (wpAny_standAt (wpAny_bind (wpAny_mono (turn n z hJ) (fun r s1 h1 => ?_) fun _ _ q => q)))
 cases r with
 | none => exact wpAny_pure h1
 | some v =>
  refine wpAny_bind (wpAny_mono h1 (fun _ s1' h1' => ?_) fun _ _ q => q)
  refine wpAny_bind (wpAny_mono h1' (fun _ s2 h2 => wpAny_bind (wpAny_mono h2 (fun ok s3 h3 => ?_) fun _ _ q => q)) fun _ _ q => q)
  cases ok with
  | false => exact wpAny_pure ⟨rfl, h3⟩
  | true =>
   exact wpAny_bind (wpAny_bind (wpAny_mono h3 (fun x s4 h4 => wpAny_bind (wpAny_mono h4 (fun _ s5 h5 => wpAny_pure (wpAny_pure ⟨rfl, h5⟩)) fun _ _ q => q)) fun _ _ q => q))
end
def iU (mp : List (Option Nat)) (σ : St) : St := mp.map fun o => match o with
 | some j => (σ[j]?).join
 | none => none
def bU (X : Cx) (N : List Str) (scope : Scope) (cl : List (Str × Addr)) (C : Addr) (s : Shared) (H : Hp) (fp : List Addr) : Cx :=
 { X with N := N, s₀ := s, H₀ := H, env := compEnvC scope cl C X.env, outer := X.stack, stack := X.stack, ex := fp, fn := fun _ => false, pn := [], xe := fun _ _ => False }
def lV (NX : List Str) (names : List (Str × NameKind)) : List Str → List (Option Nat) → Bool
 | [], [] => true
 | x :: r, o :: q => (match o with
   | none => names.lookup x == some .local
   | some j => NX[j]? == some x && names.lookup x == some .free) && lV NX names r q
 | _, _ => false
theorem uH {NX : List Str} {names : List (Str × NameKind)} : ∀ {N : List Str} {mp : List (Option Nat)} {i j : Nat} {x : Str}, lV NX names N mp = true → N[i]? = some x → mp[i]? = some (some j) → NX[j]? = some x ∧ names.lookup x = some .free
 | [], _, i, _, _, _, h, _ => by simp at h
 | _ :: _, [], _, _, _, h, _, _ => by simp [lV] at h
 | y :: r, o :: q, 0, j, x, h, h1, h2 => by
  simp at h1 h2
  subst h1 h2
  unfold lV at h
  simp only [Bool.and_eq_true, beq_iff_eq] at h
  exact h.1
 | y :: r, o :: q, i + 1, j, x, h, h1, h2 => by
  unfold lV at h
  rw [Bool.and_eq_true] at h
  exact uH (i := i) h.2 (by simpa using h1) (by simpa using h2)
theorem uG {NX : List Str} {names : List (Str × NameKind)} : ∀ {N : List Str} {mp : List (Option Nat)}, lV NX names N mp = true → mp.length = N.length
 | [], [], _ => rfl
 | [], _ :: _, h => by simp [lV] at h
 | _ :: _, [], h => by simp [lV] at h
 | _ :: r, _ :: q, h => by
  unfold lV at h
  rw [Bool.and_eq_true] at h
  simp [uG h.2]
structure uY (NX : List Str) (kX : List (Str × NameKind)) (N : List Str) (mp : List (Option Nat)) (scope : Scope) : Prop where
 kind : scope.kind = .function
 nocell : ∀ y ∈ scope.names, y.2 ≠ .cell
 locs : ∀ y ∈ scope.names, y.2 = .local → scope.names.lookup y.1 = some .local
 fre : ∀ y ∈ scope.names, y.2 = .free → kX.lookup y.1 = some .cell ∨ kX.lookup y.1 = some .free
 map : lV NX scope.names N mp = true
def PTs (X : Cx) (cs : List Expr) (t : TT) : Prop :=
 ∀ (pins : List (Addr × Obj)) (s : Shared) (σ : St) (H : Hp) (Q : Bool → Hp → Prop), Inv X pins σ H s → t σ H Q →
  wpAny (model X.prog X.w) X.A (forIn cs true fun c r => if r = true then do let ok ← isTrue c X.env (eval c X.env); pure (ForInStep.yield ok) else pure (ForInStep.yield r)) (TP X pins σ Q) X.xe s
def Fd : TT := fun _ H Q => Q true H
theorem Lz {X : Cx} : PTs X [] Fd := fun _ _ _ H _ I h => wpAny_tests_nil ⟨H, I, h⟩
def uo (mp : List (Option Nat)) (wi : TI) (g : TG) (tc : TT) (te : TE) : TE := fun σ H Q => wi σ H fun J H1 =>
 ∃ W : Nat → Nat → List V → St → Hp → Prop, (∃ m, W 0 m [] (iU mp σ) H1) ∧ ∀ i m acc τ H2, W i m acc τ H2 →
  (J.stop i H2 ∧ ∀ d, H2 d = none → Q (.ref d) (upd H2 d (.lst acc))) ∨
  (J.go i H2 ∧ acc.length < sizeLine ∧ ∃ N : List V → St → Hp → Prop, (∀ acc' τ' H', N acc' τ' H' → ∃ m', m' < m ∧ W (i + 1) m' acc' τ' H') ∧ ∀ x H3, J.yld i H2 x H3 → g x τ H3 fun τ1 H4 => tc τ1 H4 fun b H5 =>
   if b = true then te τ1 H5 fun v H6 => N (acc ++ [v]) τ1 H6 else N acc τ1 H5)
theorem eZ {env : Env} : ∀ {names : List (Str × NameKind)} {x : Str} {k : NameKind}, (names.map fun (n, k) => if (k == NameKind.free && env.scope.kind == .function && env.kindOf n == some .cell) then (n, NameKind.cell) else (n, k)).lookup x = some k →
  names.lookup x = some k ∨ (k = .cell ∧ names.lookup x = some .free)
 | [], _, _, h => by simp at h
 | (n, k0) :: r, x, k, h => by
  have ih := @eZ env r x k
  rw [List.map_cons] at h
  by_cases hc : (k0 == NameKind.free && env.scope.kind == .function && env.kindOf n == some .cell) = true
  ·simp only [hc, if_true] at h
   cases hx : x == n with
   | true =>
    rw [List.lookup_cons, hx] at h
    have hk : k0 = .free := by
     rw [Bool.and_eq_true, Bool.and_eq_true] at hc
     simpa using hc.1.1
    right
    refine ⟨(Option.some.inj h).symm, ?_⟩
    rw [List.lookup_cons, hx, hk]
   | false =>
    rw [List.lookup_cons, hx] at h
    rw [List.lookup_cons, hx]
    exact ih h
  ·simp only [hc, if_false] at h
   cases hx : x == n with
   | true =>
    rw [if_neg (by simp), List.lookup_cons, hx] at h
    rw [List.lookup_cons, hx]
    exact .inl h
   | false =>
    rw [if_neg (by simp), List.lookup_cons, hx] at h
    rw [List.lookup_cons, hx]
    exact ih h
theorem na0 {b D E : Nat} (h : b < E) (hD : E = D) : b ≠ D := by omega
theorem na1 {b D E C : Nat} (h : b < E) (hD : E = D) (hC : C = D + 1) : b ≠ C := by omega
theorem na2 {C D : Nat} (hC : C = D + 1) : D ≠ C := by omega
theorem na3 {C D E : Nat} (hD : E = D) (hC : C = D + 1) : E ≤ C := by omega
theorem na4 {D E : Nat} (hD : E = D) : E ≤ D := by omega
section
variable {X : Cx} {NX N : List Str} {kX : List (Str × NameKind)} {mp : List (Option Nat)} {scope : Scope} {pins : List (Addr × Obj)} {σ : St} {s s' : Shared} {H : Hp} {fp : List Addr} {cl : List (Str × Addr)} {C : Addr}
theorem zO (hkX : X.env.scope.names = kX) (S : uY NX kX N mp scope) (I : Inv X pins σ H s) (hfp : ∀ b ∈ fp, nW X pins H b) (hold : ∀ b ∈ fp, b < s.heap.objs.size) (hC : s.heap.objs.size ≤ C)
  (hsub : ∀ x c, cl.lookup x = some c → X.env.cells.lookup x = some c) (hhas : ∀ y ∈ scope.names, y.2 = .free → ∃ c, cl.lookup y.1 = some c) : (bU X N scope cl C s H fp).Ok where
 mod := I.ok.mod
 kind := S.kind
 glob := I.ok.glob
 blt := I.ok.blt
 above := hC
 inj := fun x y c h1 h2 => I.ok.inj x y c (hsub x c h1) (hsub y c h2)
 has := fun x h => by
  have key : scope.names.lookup x = some .free := by
   rcases h with h | h
   ·rcases eZ (env := X.env) (names := scope.names) h with q | ⟨_, q⟩
    ·exact absurd rfl (S.nocell _ (PySem.mem_of_lookup q))
    ·exact q
   ·rcases eZ (env := X.env) (names := scope.names) h with q | ⟨q, _⟩
    ·exact q
    ·cases q
  exact hhas _ (PySem.mem_of_lookup key) rfl
 cab := fun x c h => by cases h
 hd := I.ok.hd
 frames := I.ok.frames
 stk := .inl rfl
 exf := fun b hb => ⟨Nat.ne_of_lt (Nat.lt_of_lt_of_le (hold b hb) hC), fun x c e => (hfp b hb).2.2.2.2.1 x c (hsub x c e)⟩
 bs := I.bs
 bsz := Nat.le_trans I.ok.bsz I.sz
 noex := fun b o e hb => by
  rcases (hfp b hb).2.2.2.1 with q | q
  ·exact I.ok.noex b o e q
  ·exact absurd (Nat.lt_of_lt_of_le (Nat.lt_of_lt_of_le (Heap.lt_size e) I.ok.bsz) q) (Nat.lt_irrefl _)
 exfs := fun b hb hz => by
  obtain ⟨_, h1, h2, _⟩ := hfp b hb
  rcases List.mem_cons.mp (I.qG b hz) with q | q
  ·exact h1 q
  ·exact h2 q
 qe := I.stack
 frf := I.zY
theorem BR (hNX : X.N = NX) (hkX : X.env.scope.names = kX) (S : uY NX kX N mp scope) (I : Inv X pins σ H s) (hfp : ∀ b ∈ fp, nW X pins H b) (hold : ∀ b ∈ fp, b < s.heap.objs.size) (hC : s.heap.objs.size ≤ C)
  (hsub : ∀ x c, cl.lookup x = some c → X.env.cells.lookup x = some c) (hhas : ∀ y ∈ scope.names, y.2 = .free → ∃ c, cl.lookup y.1 = some c)
  (ho : s'.os = s.os) (hg : s'.gens = s.gens) (hn : ∃ m, s'.heap.Ns C m) (hk : ∀ b o, s.heap.get? b = some o → s'.heap.get? b = some o) {pl : List (Addr × Obj)}
  (hp : ∀ p ∈ pl, s'.heap.get? p.1 = some p.2 ∧ H p.1 = none ∧ p.1 ≠ C ∧ p.1 ∉ frs X.stack ∧ ∀ v, p.2.data ≠ .cell v) :
  Inv (bU X N scope cl C s H fp) pl (iU mp σ) H s' where
 ok := zO hkX S I hfp hold hC hsub hhas
 os := ho
 bare := by rw [hg]; exact I.bare
 base := Un.kept hk
 loc := by
  obtain ⟨m, hm⟩ := hn
  refine ⟨m, hm, fun i x v h1 h2 h3 => ?_⟩
  have h2' : (mp.map fun o => match o with | some j => (σ[j]?).join | none => none)[i]? = some (some v) := h2
  rw [List.getElem?_map] at h2'
  cases e : mp[i]? with
  | none => rw [e] at h2'; cases h2'
  | some o =>
   rw [e] at h2'
   cases o with
   | none => cases h2'
   | some j =>
    have h4 : (σ[j]?).join = some v := by simpa using h2'
    have h5 : σ[j]? = some (some v) := by
     cases q : σ[j]? with
     | none => rw [q] at h4; cases h4
     | some z => rw [q] at h4; rw [show z = some v from h4]
    obtain ⟨g1, g2⟩ := uH S.map h1 e
    have fk := S.fre _ (PySem.mem_of_lookup g2) rfl
    obtain ⟨m0, _, hl⟩ := I.loc
    have vis : Vis X.env.scope x := by
     rcases fk with q | q
     ·exact .inr (.inl (by rw [hkX]; exact q))
     ·exact .inr (.inr (by rw [hkX]; exact q))
    obtain ⟨u, r, l⟩ := hl j x v (by rw [hNX]; exact g1) h5 vis
    refine ⟨u, r, .inr ?_⟩
    have l' : ∃ c, X.env.cells.lookup x = some c ∧ s.heap.IsCell c (some u) := by
     rcases l with ⟨q, _⟩ | ⟨_, q⟩
     ·have q' : X.env.scope.names.lookup x = some .local := q
      rw [hkX] at q'
      rcases fk with z | z
      ·rw [q'] at z; cases z
      ·rw [q'] at z; cases z
     ·exact q
    obtain ⟨c, hc, oc, hoc, hd⟩ := l'
    obtain ⟨c', hc'⟩ := hhas _ (PySem.mem_of_lookup g2) rfl
    have ec : c' = c := by
     have := hsub x c' hc'
     rw [hc] at this
     exact (Option.some.inj this).symm
    subst ec
    refine ⟨?_, c', hc', oc, hk _ _ hoc, hd⟩
    rcases h3 with q | q | q
    ·rcases eZ (env := X.env) (names := scope.names) q with z | ⟨z, _⟩
     ·rw [g2] at z; cases z
     ·cases z
    ·exact .inl q
    ·exact .inr q
 cell := fun x c e => by
  obtain ⟨v, o, h1, h2⟩ := I.cell x c (hsub x c e)
  exact ⟨v, o, hk _ _ h1, h2⟩
 free := I.hok.fresh hC
 freeC := fun x c e => I.freeC x c (hsub x c e)
 pin := fun p hpp => hp p (by simpa [bU] using hpp)
 hok := I.hok.kept hk
 len := by
  show (mp.map _).length = N.length
  rw [List.length_map]
  exact uG S.map
set_option maxHeartbeats 8000000 in
theorem Mz {tg iter elt : Expr} {ifs : List Expr} {pos : Pos} {wi : TI} {g : TG} {tc : TT} {te : TE} (N : List Str) (mp : List (Option Nat)) (hNX : X.N = NX) (hkX : X.env.scope.names = kX) (S : uY NX kX N mp scope) (hc : X.calm = true)
  (hi : PI X tg iter wi) (hg : ∀ cl C s H fp, PG (bU X N scope cl C s H fp) tg g) (ht : ∀ cl C s H fp, PTs (bU X N scope cl C s H fp) ifs tc) (he : ∀ cl C s H fp, PE (bU X N scope cl C s H fp) elt te)
  (hs : ∀ x, foldedSetIterable iter X.env x = pure x := by intro _; rfl) : PE X (.ListComp elt [⟨tg, iter, ifs, 0⟩] scope pos) (uo mp wi g tc te) := by
 intro pins s σ H Q I h
 obtain ⟨cl, hcl, hsub, hhas⟩ := BV (env := X.env) (scope := scope) fun y hy hf => I.ok.has y.1 (by
  rcases S.fre y hy hf with q | q
  ·exact .inl (show X.env.scope.names.lookup y.1 = _ by rw [hkX]; exact q)
  ·exact .inr (show X.env.scope.names.lookup y.1 = _ by rw [hkX]; exact q))
 rw [eval_ListComp]
 refine wpAny_comprehension_free (use := none) rfl hs hcl S.kind S.locs ?_
 refine thn (hi pins s σ H _ I h) fun v s1 h1 => thn h1 fun itv s2 h2 => ?_
 obtain ⟨it, fp, tn, J, H2, e, I2, T, st2, f2, W, ⟨m0, w0⟩, turn⟩ := h2
 subst e
 refine wpAny_newObj_type (wpAny_newFunctionEnv S.nocell (by intro y hy; simp at hy) (fun h3 hns hsb => ?_) S.kind)
 dsimp only at hns hsb ⊢
 have hold : ∀ b ∈ fp, b < s2.heap.objs.size := fun b hb => by
  obtain ⟨o, q, _⟩ := T.obj _ _ st2 b hb
  exact Heap.lt_size q
 generalize hD : s2.heap.objs.size = D at hns hsb
 generalize hH2 : s2.heap.push { cls := .type "list", dict := none, data := .seq ([] : List Value).toArray } = P2 at hns hsb ⊢
 have hC : P2.objs.size = D + 1 := by rw [← hH2, Heap.size_push, hD]
 generalize hC' : P2.objs.size = C at hns hsb ⊢
 rw [hC'] at hC
 have old : ∀ b o, s2.heap.get? b = some o → h3.get? b = some o := fun b o q => by
  have hb := Heap.lt_size q
  exact hsb.extBut b o (na1 hb hD hC) (Heap.get?_push_of_some _ (hH2 ▸ Heap.get?_push_of_some _ q))
 have accD : h3.get? D = some { cls := .type "list", data := .seq ([] : List Value).toArray } :=
  hsb.extBut _ _ (na2 hC) (Heap.get?_push_of_some _ (by rw [← hH2, ← hD]; exact Heap.get?_push_size _ rfl))
 have hfr : D ∉ frs X.stack := fun z => by
  rcases List.mem_cons.mp (I2.qG D z) with q | q
  ·exact na0 I2.lt hD q.symm
  ·exact I2.R4 (na4 hD) q
 have I0 : Inv (bU X N scope cl C s2 H2 fp) [(D, { cls := .type "list", data := .seq ([] : List Value).toArray })] (iU mp σ) H2 { s2 with heap := h3, toks := s2.toks + ([] : List (Str × Value)).length } :=
  BR (s' := { s2 with heap := h3, toks := s2.toks + ([] : List (Str × Value)).length }) hNX hkX S I2 f2 hold (na3 hD hC) hsub hhas rfl rfl ⟨_, hns⟩ old fun p hp => by
   have ep := List.mem_singleton.mp hp
   subst ep
   exact ⟨accD, I2.hok.fresh (na4 hD), na2 hC, hfr, fun v z => by cases z⟩
 have T0 : tn 0 h3 := T.keep _ _ _ st2 fun b _ o q => old b o q
 have loop : ∀ z : Shared, z = { s2 with heap := h3, toks := s2.toks + ([] : List (Str × Value)).length } →
   codeAny (model X.prog X.w) X.A (.compLoop (.ListComp elt [⟨tg, iter, ifs, 0⟩] scope pos) 0 (.ref it) (.ref D) (compEnvC scope cl C X.env))
    (compPost (model X.prog X.w) X.A X.xe none (EP X pins σ Q) (.ref D) C) z := by
  rintro z rfl
  have stat : ∀ {H' : Hp} {pl : List (Addr × Obj)}, (∀ b ∈ fp, H' b = none) → (∀ p ∈ pl, p.1 = D) → ∀ b ∈ fp, nW (bU X N scope cl C s2 H2 fp) pl H' b := fun hn hp b hb => by
   have hb2 := hold b hb
   refine ⟨hn b hb, na1 hb2 hD hC, (zO hkX S I2 f2 hold (na3 hD hC) hsub hhas).exfs b hb, .inl hb, fun x c q => (f2 b hb).2.2.2.2.1 x c (hsub x c q), fun p hpp => ?_⟩
   have hpD := hp p (by simpa [bU] using hpp)
   rw [hpD]
   exact (na0 hb2 hD).symm
  refine uO (env := compEnvC scope cl C X.env) (fun n z => ∃ i acc τ H' its k, Inv (bU X N scope cl C s2 H2 fp) [(D, { cls := .type "list", data := .seq (List.toArray its) k })] τ H' z ∧ tn i z.heap ∧ (∀ b ∈ fp, H' b = none) ∧ Vals acc its ∧ acc.length ≤ sizeLine ∧ W i n acc τ H')
   ?_ m0 ⟨0, [], _, H2, [], 0, I0, T0, fun b hb => (f2 b hb).1, .nil, Nat.zero_le _, w0⟩
  rintro n s5 ⟨i, acc, τ, H5, its, k, I5, st5, fr5, va, hz, w5⟩
  rcases turn i n acc τ H5 w5 with ⟨stop, qn⟩ | ⟨go, hz2, N9, hN9, step⟩
  ·refine thn (T.done (bU X N scope cl C s2 H2 fp) rfl rfl rfl hc i _ s5 τ H5 _ I5 (stat fr5 (by simp)) st5 stop) fun r s6 ⟨hr, I6⟩ => ?_
   subst hr
   obtain ⟨m6, hn6, _⟩ := I6.loc
   refine ⟨m6, hn6, fun h' sb => ?_⟩
   obtain ⟨dD, nD, _, _, _⟩ := I6.pin (D, _) (List.mem_append_right _ (List.mem_singleton.mpr rfl))
   have U := I6.base
   have nC : H5 C = none := I6.free
   have ne : ∀ b o, s2.heap.get? b = some o → b ≠ C ∧ b ≠ D := fun b o q => by
    exact ⟨na1 (Heap.lt_size q) hD hC, na0 (Heap.lt_size q) hD⟩
   have keepC : ∀ b o, b ≠ C → s6.heap.get? b = some o → h'.get? b = some o := fun b o hb q => (sb.2 b hb).trans q
   have U' : Un (frs X.stack) fp H2 (upd H5 D (.lst acc)) s2.heap h' := by
    refine ⟨fun b o q n1 hb hx => keepC b o (ne b o q).1 (U.keep b o q n1 hb hx), fun b o q n1 hb hx => ?_, fun b o q n1 hx => ?_, fun b o q hx => ?_, fun b xs q => ?_, fun b o xs q => ?_, fun b ps q => ?_⟩
    ·obtain ⟨sl, z⟩ := U.slot b o q n1 hb hx
     exact ⟨sl, keepC b _ (ne b o q).1 z⟩
    ·rw [aH (ne b o q).2]
     exact U.free b o q n1 hx
    ·obtain ⟨o', z⟩ := U.there b o q hx
     exact ⟨o', keepC b _ (ne b o q).1 z⟩
    ·have z := U.tups b xs q
     rw [aH (aK z nD)]
     exact z
    ·have z := U.frzs b o xs q
     rw [aH (aK z nD)]
     exact z
    ·obtain ⟨more, z⟩ := U.tbls b ps q
     exact ⟨more, by rw [aH (aK z nD)]; exact z⟩
   have hok : HOk X.prog X.w (upd H5 D (.lst acc)) h' := fun b u q => by
    by_cases hb : b = D
    ·subst hb
     rw [aD] at q
     cases q
     exact ⟨hz, its, k, va, keepC _ _ (na2 hC) dD⟩
    ·rw [aH hb] at q
     refine (I6.hok b u q).stay (fun c v hcc z => keepC c v ?_ z) (fun c z => by rw [aH (aK z nD)]; exact z) fun c xs z => by rw [aH (aK z nD)]; exact z
     rcases hcc with z1 | z1
     ·subst z1
      exact aK q nC
     ·exact aK z1 nC
   have I7 : Inv X pins σ (upd H5 D (.lst acc)) { s6 with heap := h' } := I2.call' (s' := { s6 with heap := h' }) (ch := fp) I6.os U' hok I6.bare fun b hb => by
    obtain ⟨_, a2, _, a4, a5, a6⟩ := f2 b hb
    exact ⟨a4, a2, a5, a6⟩
   exact ⟨.ref D, _, I7, rfl, qn D nD⟩
  ·refine thn (T.item (bU X N scope cl C s2 H2 fp) rfl rfl rfl hc i _ s5 τ H5 _ I5 (stat fr5 (by simp)) st5 go) fun r s6 ⟨u, hr, h6⟩ => ?_
   subst hr
   refine thn h6 fun _ s7 ⟨x, H7, I7, r7, y7, st7, fr7⟩ => ?_
   have I7' := I7.pinned (stat fr7 (by simp)) (T.obj _ _ st7)
   have no : ∀ {α : Type} {t : Sem α} {Q1 Q2 : α → Shared → Prop} {E : Value → Shared → Prop} {z : Shared}, wpAny (model X.prog X.w) X.A t Q1 (fun _ _ => False) z → (∀ a z, Q1 a z → Q2 a z) → wpAny (model X.prog X.w) X.A t Q2 E z :=
    fun q f => wpAny_mono q f fun _ _ z => z.elim
   refine no (hg cl C s2 H2 fp _ s7 τ H7 x u _ I7' r7 (step x H7 y7)) fun _ s8 ⟨τ1, H8, I8, q8⟩ => ?_
   refine no (ht cl C s2 H2 fp _ s8 τ1 H8 _ I8 q8) fun ok s9 ⟨H9, I9, q9⟩ => ?_
   have again : ∀ {H' : Hp} {z : Shared} {its' : List Value} {k' : Nat}, Inv (bU X N scope cl C s2 H2 fp) ([(D, { cls := .type "list", data := .seq (List.toArray its') k' })] ++ iC fp s7.heap) τ1 H' z →
     tn (i + 1) z.heap ∧ (∀ b ∈ fp, H' b = none) ∧ Inv (bU X N scope cl C s2 H2 fp) [(D, { cls := .type "list", data := .seq (List.toArray its') k' })] τ1 H' z := fun {H' z its' k'} Iz => by
    have get : ∀ b ∈ fp, ∀ o, s7.heap.get? b = some o → z.heap.get? b = some o ∧ H' b = none := fun b hb o q => by
     obtain ⟨a1, a2, _⟩ := Iz.pin (b, o) (List.mem_append_right _ (List.mem_append_right _ (jA hb q)))
     exact ⟨a1, a2⟩
    refine ⟨T.keep _ _ _ st7 fun b hb o q => (get b hb o q).1, fun b hb => ?_, Iz.jM⟩
    obtain ⟨o, q, _⟩ := T.obj _ _ st7 b hb
    exact (get b hb o q).2
   cases ok with
   | false =>
    rw [if_neg Bool.false_ne_true] at q9 ⊢
    obtain ⟨m', hm, w9⟩ := hN9 _ _ _ q9
    obtain ⟨a1, a2, a3⟩ := again I9
    exact ⟨m', hm, i + 1, acc, τ1, H9, its, k, a3, a1, a2, va, hz, w9⟩
   | true =>
    rw [if_pos rfl] at q9 ⊢
    refine no (he cl C s2 H2 fp _ s9 τ1 H9 _ I9 q9) fun y s10 ⟨v, H10, I10, rv, q10⟩ => ?_
    obtain ⟨m', hm, w10⟩ := hN9 _ _ _ q10
    obtain ⟨a1, a2, a3⟩ := again I10
    obtain ⟨dD, nD, _, _, _⟩ := a3.pin (D, _) (List.mem_append_right _ (List.mem_singleton.mpr rfl))
    have hlen := va.length
    refine call_meets F.slot_list_append ⟨_, dD, rfl⟩ F.entry_list_append (F.args_list_append_2 _ _) (PySem.list_append D its.toArray k y (by rw [List.size_toArray]; omega)) ⟨dD, ?_⟩
    obtain ⟨k', q⟩ : ∃ k', (s10.heap.update D (Obj.mapSeq fun a => a.push y)).get? D = some { cls := .type "list", data := .seq (its ++ [y]).toArray k' } := by
     have q := PySem.IsL.update dD (fun a => a.push y)
     rw [show its.toArray.push y = (its ++ [y]).toArray by simp] at q
     exact ⟨_, q⟩
    have a4 : Inv (bU X N scope cl C s2 H2 fp) (iC fp s7.heap) τ1 H10 s10 := I10.lF fun p hp => I10.pin p (List.mem_append_right _ (List.mem_append_right _ hp))
    have a5 : Inv (bU X N scope cl C s2 H2 fp) (iC fp s7.heap) τ1 H10 { s10 with heap := s10.heap.update D (Obj.mapSeq fun a => a.push y), toks := s10.toks } :=
     a4.turned (it := D) (fun b o hb z => (Heap.get?_update_other _ _ (Ne.symm hb)).trans z) nD (na2 hC) (.inr (na4 hD))
      (fun x c z => by
       obtain ⟨_, o, h1, _⟩ := I2.cell x c (hsub x c z)
       exact na0 (Heap.lt_size h1) hD) fun p hp => by
       have hb := (oF (by simpa [bU] using hp)).1
       exact na0 (hold _ hb) hD
    obtain ⟨b1, b2, b3⟩ := (show tn (i + 1) (s10.heap.update D (Obj.mapSeq fun a => a.push y)) ∧ (∀ b ∈ fp, H10 b = none) ∧ True from
     ⟨T.keep _ _ _ a1 fun b hb o z => (Heap.get?_update_other _ _ (na0 (hold b hb) hD).symm).trans z, a2, trivial⟩)
    refine ⟨m', hm, i + 1, acc ++ [v], τ1, H10, its ++ [y], k', a5.lF fun p hp => ?_, b1, b2, va.append (.cons rv .nil), by rw [List.length_append, List.length_singleton]; omega, w10⟩
    have ep := List.mem_singleton.mp hp
    subst ep
    exact ⟨q, nD, na2 hC, hfr, fun v z => by cases z⟩
 have e1 : { newEnv scope C X.env.globals cl X.env.qual none .none (some X.env) X.env.builtins with scope := relabel scope X.env } = compEnvC scope cl C X.env := rfl
 exact codeAny_compStart_list (loop _ rfl) (T.self _ 0 _ _ _ T0 (loop _ rfl))
end
section
variable {X : Cx} {pins : List (Addr × Obj)} {σ : St} {H : Hp} {s : Shared}
theorem Inv.Ey {ch : List Addr} {h' : Heap} {t' : Nat} (I : Inv X pins σ H s) (hf : ∀ b ∈ ch, nW X pins H b) (k : ∀ b o, b ∉ ch → s.heap.get? b = some o → h'.get? b = some o) : Inv X pins σ H { s with heap := h', toks := t' } := by
 have nit : ∀ b u, H b = some u → b ∉ ch := fun b u e z => by rw [(hf b z).1] at e; cases e
 refine I.step (g' := s.gens) (d' := s.drawn) (ch := ch) (fun b hb => ?_) (fun b o _ _ hc e _ => k b o hc e) (fun b o _ _ hc e _ => ⟨o.slots, k b o hc e⟩) (fun _ _ _ _ n => n)
  (fun b o hc e => ⟨o, k b o hc e⟩) (fun _ _ e => e) (fun _ _ _ e => e) (fun b ps e => ⟨#[], by rw [e]; simp⟩) (fun m hm => ?_) (fun b u e => ?_) I.bare
 ·obtain ⟨_, a2, _, a4, a5, a6⟩ := hf b hb
  exact ⟨a4, a2, a5, a6⟩
 ·obtain ⟨o, es, ep, ho, r⟩ := hm
  exact ⟨o, es, ep, k _ o (fun z => (hf _ z).2.1 rfl) ho, r⟩
 ·refine (I.hok b u e).stay (fun c v hc q => k c v ?_ q) (fun _ q => q) fun _ _ q => q
  rcases hc with z | z
  ·rw [z]; exact nit b u e
  ·exact nit c _ z
theorem Inv.Ew {ch : List Addr} {h' : Heap} {t' : Nat} {p : Addr} {o : HO} (I : Inv X pins σ H s) (hf : ∀ b ∈ ch, nW X pins H b) (k : ∀ b o, b ∉ ch → s.heap.get? b = some o → h'.get? b = some o) (hp : s.heap.objs.size ≤ p)
  (new : cu X.prog X.w (upd H p o) h' p o) : Inv X pins σ (upd H p o) { s with heap := h', toks := t' } := by
 have hn : H p = none := I.hok.fresh hp
 have nit : ∀ b u, H b = some u → b ∉ ch := fun b u e z => by rw [(hf b z).1] at e; cases e
 have lt : ∀ b u, s.heap.get? b = some u → b ≠ p := fun b u e => Nat.ne_of_lt (Nat.lt_of_lt_of_le (Heap.lt_size e) hp)
 refine I.step (g' := s.gens) (d' := s.drawn) (ch := ch) (fun b hb => ?_) (fun b o _ _ hc e _ => k b o hc e) (fun b o _ _ hc e _ => ⟨o.slots, k b o hc e⟩) (fun b o _ e n => by rw [aH (lt b o e)]; exact n)
  (fun b o hc e => ⟨o, k b o hc e⟩) (fun b xs e => by rw [aH (aK e hn)]; exact e) (fun b u xs e => by rw [aH (aK e hn)]; exact e) (fun b ps e => ⟨#[], by rw [aH (aK e hn), e]; simp⟩) (fun m hm => ?_) (fun b u e => ?_) I.bare
 ·obtain ⟨_, a2, _, a4, a5, a6⟩ := hf b hb
  exact ⟨a4, a2, a5, a6⟩
 ·obtain ⟨o, es, ep, ho, r⟩ := hm
  exact ⟨o, es, ep, k _ o (fun z => (hf _ z).2.1 rfl) ho, r⟩
 ·by_cases hb : b = p
  ·subst hb
   rw [aD] at e
   cases e
   exact new
  ·rw [aH hb] at e
   refine (I.hok b u e).stay (fun c v hc q => k c v ?_ q) (fun c q => by rw [aH (aK q hn)]; exact q) fun c xs q => by rw [aH (aK q hn)]; exact q
   rcases hc with z | z
   ·rw [z]; exact nit b u e
   ·exact nit c _ z
end
def Itz (K : PySem.W.Frag) (a b : Addr) : It :=
 ⟨fun i H => ∃ xs ys x y, SqL K H a xs ∧ SqL K H b ys ∧ xs[i]? = some x ∧ ys[i]? = some y,
  fun i H v H' => ∃ p x y, v = .ref p ∧ H p = none ∧ H' = upd H p (.tup [x, y]) ∧ (∀ xs, SqL K H a xs → xs[i]? = some x) ∧ ∀ ys, SqL K H b ys → ys[i]? = some y,
  fun i H => ∃ xs ys, SqL K H a xs ∧ SqL K H b ys ∧ (xs[i]? = none ∨ ys[i]? = none)⟩
theorem Eu {P : Program} {w : World} {K : PySem.W.Frag} {es : List Expr} {kk : Nat} {tpos : Pos} {z TI TO i1 i2 l1 l2 : Addr} (D : ZipApart z TI TO i1 i2 l1 l2) :
  Turn P w K (.Tuple es kk tpos) (Itz K l1 l2) [z, TI, TO, i1, i2] z (fun i h => IsZip h z TI TO .none ∧ IsPair h TI (.ref i1) (.ref i2) ∧ (∃ a b, IsPair h TO a b) ∧ h.IsListIter i1 l1 i ∧ h.IsListIter i2 l2 i) where
 mem := by simp
 obj := fun i h st b hb => by
  obtain ⟨hz, hTI, ⟨a, b', hTO⟩, ⟨o1, e1, c1, d1⟩, ⟨o2, e2, c2, d2⟩⟩ := st
  simp only [List.mem_cons, List.not_mem_nil, or_false] at hb
  rcases hb with rfl | rfl | rfl | rfl | rfl
  ·exact ⟨_, hz, fun v q => by cases q⟩
  ·exact ⟨_, hTI, fun v q => by cases q⟩
  ·exact ⟨_, hTO, fun v q => by cases q⟩
  ·exact ⟨o1, e1, fun v q => by rw [d1] at q; cases q⟩
  ·exact ⟨o2, e2, fun v q => by rw [d2] at q; cases q⟩
 keep := fun i h h' st k => by
  obtain ⟨hz, hTI, ⟨a, b', hTO⟩, h1, h2⟩ := st
  exact ⟨k z (by simp) _ hz, k TI (by simp) _ hTI, ⟨a, b', k TO (by simp) _ hTO⟩, h1.at fun o e => k i1 (by simp) o e, h2.at fun o e => k i2 (by simp) o e⟩
 item := by
  intro X hP hw hK hc i pins s σ H E I hf st hg
  subst hP hw hK
  obtain ⟨xs, ys, x, y, q1, q2, hx, hy⟩ := hg
  obtain ⟨its1, rv1, p1, hz1⟩ := I.list q1
  obtain ⟨its2, rv2, p2, hz2⟩ := I.list q2
  obtain ⟨u1, hu1, ru1⟩ := rv1.get hx
  obtain ⟨u2, hu2, ru2⟩ := rv2.get hy
  obtain ⟨hz, hTI, ⟨a, b', hTO⟩, h1, h2⟩ := st
  refine wpAny_pyNext_zip_item D hz hTI hTO h1 h2 p1.isList p2.isList (x := u1) (y := u2) (by simpa using hu1) (by simpa using hu2) fun h' a1 a2 a3 a4 a5 a6 hk => ?_
  have new : cu X.prog X.w (upd H s.heap.objs.size (.tup [x, y])) h' s.heap.objs.size (.tup [x, y]) := ⟨by show 2 ≤ sizeLine; decide, [u1, u2], .cons ru1 (.cons ru2 .nil), _, a5, rfl, _, rfl⟩
  have I1 : Inv X pins σ (upd H s.heap.objs.size (.tup [x, y])) { s with heap := h' } := I.Ew (t' := s.toks) (ch := [z, TO, i1, i2]) (fun b hb => hf b (by
   simp only [List.mem_cons, List.not_mem_nil, or_false] at hb ⊢
   rcases hb with r | r | r | r <;> simp [r]))
   (fun b o hb e => hk b o (fun q => hb (by simp [q])) (fun q => hb (by simp [q])) (fun q => hb (by simp [q])) (fun q => hb (by simp [q])) e) (Nat.le_refl _) new
  have hTI' : IsPair h' TI (.ref i1) (.ref i2) := hk _ _ D.TIz D.TITO D.TIi1 D.TIi2 hTI
  have hsz : ∀ b, b ∈ [z, TI, TO, i1, i2] → b ≠ s.heap.objs.size := fun b hb => by
   obtain ⟨_, _, hlt, _⟩ := hf b hb
   have lt : ∃ o, s.heap.get? b = some o := by
    simp only [List.mem_cons, List.not_mem_nil, or_false] at hb
    rcases hb with rfl | rfl | rfl | rfl | rfl
    ·exact ⟨_, hz⟩
    ·exact ⟨_, hTI⟩
    ·exact ⟨_, hTO⟩
    ·obtain ⟨o, e, _⟩ := h1; exact ⟨o, e⟩
    ·obtain ⟨o, e, _⟩ := h2; exact ⟨o, e⟩
   obtain ⟨o, e⟩ := lt
   exact Nat.ne_of_lt (Heap.lt_size e)
  refine ⟨_, rfl, wpAny_letOwnedTupleGo_zip (s := { s with heap := h' }) a1 fun h'' z2 sb => ?_⟩
  have fz := hf z (by simp)
  have I2 : Inv X pins σ (upd H s.heap.objs.size (.tup [x, y])) { s with heap := h'' } := Inv.turned (s := { s with heap := h' }) (it := z) (t' := s.toks) I1 (fun b o hb e => (sb.2 b hb).trans e) (by rw [aH (hsz z (by simp))]; exact fz.1) fz.2.1 fz.2.2.2.1 fz.2.2.2.2.1 fz.2.2.2.2.2
  refine ⟨.ref s.heap.objs.size, _, I2, rfl, ⟨_, x, y, rfl, I.fresh, rfl, fun xs' q => by rw [I.nu q q1]; exact hx, fun ys' q => by rw [I.nu q q2]; exact hy⟩,
   ⟨z2, (sb.2 _ D.TIz).trans hTI', ⟨_, _, (sb.2 _ D.TOz).trans a2⟩, a3.extBut sb.extBut D.i1z, a4.extBut sb.extBut D.i2z⟩, fun b hb => by rw [aH (hsz b hb)]; exact (hf b hb).1⟩
 done := by
  intro X hP hw hK hc i pins s σ H E I hf st hg
  subst hP hw hK
  obtain ⟨xs, ys, q1, q2, hx⟩ := hg
  obtain ⟨its1, rv1, p1, hz1⟩ := I.list q1
  obtain ⟨its2, rv2, p2, hz2⟩ := I.list q2
  obtain ⟨hz, hTI, ⟨a, b', hTO⟩, h1, h2⟩ := st
  have hend : its1.toArray[i]? = none ∨ its2.toArray[i]? = none := by
   rcases hx with r | r
   ·exact .inl (by simpa using rv1.none_of r)
   ·exact .inr (by simpa using rv2.none_of r)
  refine wpAny_pyNext_zip_end (I.ok.hd hc) D hz hTI hTO h1 h2 p1.isList p2.isList hend fun h' hk => ⟨rfl, ?_⟩
  exact I.Ey (t' := s.toks) (ch := [z, TO, i1, i2]) (fun b hb => hf b (by
   simp only [List.mem_cons, List.not_mem_nil, or_false] at hb ⊢
   rcases hb with r | r | r | r <;> simp [r]))
   (fun b o hb e => hk b o (fun q => hb (by simp [q])) (fun q => hb (by simp [q])) (fun q => hb (by simp [q])) (fun q => hb (by simp [q])) e)
 self := fun _ _ _ _ _ st h => wpAny_pyIter_zip st.1 h
section
variable {X : Cx}
end
theorem Vals.bools : ∀ {bs : List Bool} {us : List Value}, Vals (bs.map V.bl) us → us = bs.map Value.bool
 | [], _, .nil => rfl
 | _ :: _, _, .cons r t => by rw [Vals.bools t, (show _ = Value.bool _ from r)]; rfl
section
variable {X : Cx}
theorem El (bs : List Bool) : ((List.range bs.length).all fun i => (bs[i]?).getD true) = bs.all id := by
 rw [Bool.eq_iff_iff, List.all_eq_true, List.all_eq_true]
 constructor
 ·intro h b hb
  obtain ⟨i, hi, rfl⟩ := List.getElem_of_mem hb
  have := h i (List.mem_range.mpr hi)
  rw [List.getElem?_eq_getElem hi] at this
  exact this
 ·intro h i hi
  have hi' := List.mem_range.mp hi
  rw [List.getElem?_eq_getElem hi']
  exact h _ (List.getElem_mem hi')
def Q0 (K : PySem.W.Frag) (f : List Bool → Bool) : List V → Hp → VK → Prop := fun xs H Q => ∃ p bs, xs = [.ref p] ∧ SqL K H p (List.map V.bl bs) ∧ Q (.bl (f bs)) H
theorem JF (hc : X.calm = true) : cM X (.builtin "all") (Q0 X.K fun bs => bs.all id) := by
 intro pins s σ H xs us Q I r h
 obtain ⟨p, bs, rfl, hq, q⟩ := h
 cases r with
 | cons r rr =>
  cases rr
  cases r
  obtain ⟨its, rv, pl, hz⟩ := I.list hq
  have e := rv.bools
  subst e
  have lt : p < s.heap.objs.size := by obtain ⟨_, e, _⟩ := pl.isList; exact Heap.lt_size e
  refine call_all_walk (wpAny_pyIter_list pl.isList ?_)
  refine ⟨s.heap.objs.size, [s.heap.objs.size, p], [s.heap.objs.size], (bs.map Value.bool).toArray.size, _, _, fun i => (bs[i]?).getD true, rfl, Walks.list (A := X.A.in1) (I.ok.hd hc) _ p (Nat.ne_of_lt lt) _,
   ⟨⟨_, Heap.get?_push_size _ rfl, rfl, rfl⟩, pl.isList.push _⟩, fun i v s' Q' E' hP hQ => ?_, fun h' tk hk => ?_⟩
  ·have e : (bs.map Value.bool)[i]? = some v := by simpa using hP
   rw [List.getElem?_map] at e
   cases z : bs[i]? with
   | none => rw [z] at e; cases e
   | some b =>
    rw [z] at e
    have e' : Value.bool b = v := Option.some.inj e
    subst e'
    dsimp only at hQ
    rw [z] at hQ
    exact wpAny_truthy_bool hQ
  ·rw [List.size_toArray, List.length_map, El]
   refine ⟨.bl _, H, I.kept fun b o e => hk b o (fun hm => ?_) (Heap.get?_push_of_some _ e), rfl, q⟩
   rw [List.mem_singleton.mp hm] at e
   exact Nat.lt_irrefl _ (Heap.lt_size e)
def Vn (K : PySem.W.Frag) : List V → Hp → VK → Prop := fun xs H Q => ∃ x T t b, xs = [x, .ty T] ∧ lK K H x t ∧ PySem.W.kitOne K t (.type T) = some b ∧ Q (.bl b) H
theorem JD : cM X (.builtin "isinstance") (Vn X.K) := by
 intro pins s σ H xs us Q I r h
 obtain ⟨x, T, t, b, rfl, ty, e, q⟩ := h
 cases r with
 | cons r rr =>
  cases rr with
  | cons r' rr =>
   cases rr
   cases (show _ = Value.type T from r')
   exact Dv I r ty e fun tk => ⟨.bl b, H, I.tok tk, rfl, q⟩
def Ub (K : PySem.W.Frag) : List V → Hp → VK → Prop := fun xs H Q => ∃ x p Ts t b, xs = [x, .ref p] ∧ SqT K H p (List.map V.ty Ts) ∧ lK K H x t ∧ PySem.W.kitAny K t (Ts.map Value.type) = some b ∧ Q (.bl b) H
theorem Vals.types : ∀ {bs : List String} {us : List Value}, Vals (bs.map V.ty) us → us = bs.map Value.type
 | [], _, .nil => rfl
 | _ :: _, _, .cons r t => by rw [Vals.types t, (show _ = Value.type _ from r)]; rfl
theorem Vs {x : V} {u t : Value} {pins : List (Addr × Obj)} {σ : St} {H : Hp} {s : Shared} (I : Inv X pins σ H s) (rx : RelV x u) (ty : lK X.K H x t) (hl : ∀ a C dx fs, H a = some (.ins C dx fs) → x ≠ .ref a) :
  ∃ Hh : Heap → Prop, PySem.W.KitX X.K u t Hh ∧ Hh s.heap ∧ u ≠ .builtin "__main__.__loader__#opaque" := by
 cases ty with
 | non => cases (show u = Value.none from rx); exact ⟨_, PySem.W.kitx_none, True.intro, fun z => nomatch z⟩
 | bl y => cases (show u = Value.bool y from rx); exact ⟨_, PySem.W.kitx_bool, True.intro, fun z => nomatch z⟩
 | int i => obtain ⟨t, q⟩ := (show ∃ t, u = Value.int i t from rx); cases q; exact ⟨_, PySem.W.kitx_int, True.intro, fun z => nomatch z⟩
 | str y => obtain ⟨t, q⟩ := (show ∃ t, u = Value.str y t from rx); cases q; exact ⟨_, PySem.W.kitx_str, True.intro, fun z => nomatch z⟩
 | flt y => obtain ⟨t, q⟩ := (show ∃ t, u = Value.float y t from rx); cases q; exact ⟨_, PySem.W.kitx_float, True.intro, fun z => nomatch z⟩
 | @lst a xs ea =>
  cases (show u = Value.ref a from rx)
  obtain ⟨_, _, n, _, h1⟩ := (show cu X.prog X.w H s.heap a (.lst xs) from I.hok a _ ea)
  exact ⟨_, PySem.W.kitx_list, ⟨_, h1, rfl⟩, fun z => nomatch z⟩
 | @frz a ob xs ea =>
  cases (show u = Value.ref a from rx)
  obtain ⟨_, _, _, n, _, h1⟩ := (show cu X.prog X.w H s.heap a (.frz ob (.lst xs)) from I.hok a _ ea)
  exact ⟨_, PySem.W.kitx_list, ⟨_, h1, rfl⟩, fun z => nomatch z⟩
 | @tup a xs ea =>
  cases (show u = Value.ref a from rx)
  obtain ⟨_, _, _, p⟩ := (show cu X.prog X.w H s.heap a (.tup xs) from I.hok a _ ea)
  obtain ⟨o, h1, h2, _⟩ := p
  exact ⟨_, PySem.W.kitx_tuple, ⟨o, h1, h2⟩, fun z => nomatch z⟩
 | @dK a kvs ea =>
  cases (show u = Value.ref a from rx)
  obtain ⟨_, _, vs, _, p⟩ := (show cu X.prog X.w H s.heap a (.dK kvs) from I.hok a _ ea)
  obtain ⟨o, es, ep, h1, h2, _⟩ := p
  exact ⟨_, PySem.W.kitx_dict, ⟨o, h1, h2.1⟩, fun z => nomatch z⟩
 | @dT a kvs ea =>
  cases (show u = Value.ref a from rx)
  obtain ⟨_, _, xs, _, o, es, ep, h1, h2, _⟩ := (show cu X.prog X.w H s.heap a (.dT kvs) from I.hok a _ ea)
  exact ⟨_, PySem.W.kitx_dict, ⟨o, h1, h2.1⟩, fun z => nomatch z⟩
 | @ins a C dx fs ea cl ha hn htk hm => exact absurd rfl (hl a C dx fs ea)
theorem Eg : cM X (.builtin "isinstance") (fun xs H Q => Ub X.K xs H Q ∧ ∀ a C dx fs, H a = some (.ins C dx fs) → xs.head? ≠ some (.ref a)) := by
 intro pins s σ H xs us Q I r h
 obtain ⟨⟨x, p, Ts, t, b, rfl, hq, ty, e, q⟩, hl⟩ := h
 cases r with
 | cons r rr =>
  cases rr with
  | cons r' rr =>
   cases rr
   cases r'
   obtain ⟨Hh, Z, hh, ne⟩ := Vs I r ty fun a C dx fs z w' => hl a C dx fs z (by rw [w']; rfl)
   obtain ⟨its, rv, ⟨o, ho, hcl, n, hd⟩, hz⟩ := I.tuple hq
   have ei := rv.types
   subst ei
   obtain ⟨c0, d0, dt0, sl0⟩ := o
   cases (show c0 = Value.type "tuple" from hcl)
   cases (show dt0 = Data.seq (List.map Value.type Ts).toArray n from hd)
   exact PySem.W.kia_tup Z I.kIn hh ho e ne fun tk => ⟨.bl b, H, I.tok tk, rfl, q⟩
end
inductive Tn (H : Hp) : V → String → Prop where
 | non : Tn H .non "NoneType"
 | bl (b : Bool) : Tn H (.bl b) "bool"
 | int (i : Int) : Tn H (.int i) "int"
 | str (x : Str) : Tn H (.str x) "str"
 | lst {a : Addr} {xs : List V} (e : H a = some (.lst xs)) : Tn H (.ref a) "list"
 | tup {a : Addr} {xs : List V} (e : H a = some (.tup xs)) : Tn H (.ref a) "tuple"
theorem Tn.ty {K : PySem.W.Frag} {H : Hp} {x : V} {t : String} (h : Tn H x t) : lK K H x (.type t) := by
 cases h with
 | non => exact .non
 | bl b => exact .bl b
 | int i => exact .int i
 | str x => exact .str x
 | lst e => exact .lst e
 | tup e => exact .tup e
def cQ (t T : String) : Bool := t == T || (t == "bool" && T == "int")
def cV : List String := ["NoneType", "bool", "int", "str", "list", "tuple"]
theorem Bf (K : PySem.W.Frag) : ∀ t ∈ cV, ∀ T ∈ cV, PySem.W.kitOne K (.type t) (.type T) = some (cQ t T) := by
 intro t ht T hT
 simp only [cV, List.mem_cons, List.not_mem_nil, or_false] at ht hT
 rcases ht with rfl | rfl | rfl | rfl | rfl | rfl <;> rcases hT with rfl | rfl | rfl | rfl | rfl | rfl <;> first | rfl | kernel_rfl
theorem Tn.known {H : Hp} {x : V} {t : String} (h : Tn H x t) : t ∈ cV := by cases h <;> decide
section
variable {X : Cx}
theorem Ej : cM X (.builtin "isinstance") (fun xs H Q => ∃ x T t, xs = [x, .ty T] ∧ Tn H x t ∧ T ∈ cV ∧ Q (.bl (cQ t T)) H) := by
 intro pins s σ H xs us Q I r h
 obtain ⟨x, T, t, rfl, ty, hT, q⟩ := h
 exact JD pins s σ H _ us Q I r ⟨x, T, _, _, rfl, ty.ty, Bf X.K t ty.known T hT, q⟩
theorem Bg (K : PySem.W.Frag) {t : String} (ht : t ∈ cV) : ∀ Ts : List String, (∀ T ∈ Ts, T ∈ cV) → PySem.W.kitAny K (.type t) (Ts.map Value.type) = some (Ts.any fun T => cQ t T)
 | [], _ => rfl
 | T :: r, h => by
  have e := Bf K t ht T (h T List.mem_cons_self)
  have ih := Bg K ht r fun T' h' => h T' (List.mem_cons_of_mem _ h')
  show (match PySem.W.kitOne K (.type t) (.type T) with | some true => some true | some false => PySem.W.kitAny K (.type t) (r.map Value.type) | none => none) = _
  rw [e, List.any_cons]
  cases cQ t T with
  | true => rfl
  | false => exact ih
theorem Ei : cM X (.builtin "isinstance") (fun xs H Q => ∃ x p Ts t, xs = [x, .ref p] ∧ H p = some (.tup (List.map V.ty Ts)) ∧ Tn H x t ∧ (∀ T ∈ Ts, T ∈ cV) ∧ Q (.bl (Ts.any fun T => cQ t T)) H) := by
 intro pins s σ H xs us Q I r h
 obtain ⟨x, p, Ts, t, rfl, hp, ty, hT, q⟩ := h
 refine Eg pins s σ H _ us Q I r ⟨⟨x, p, Ts, _, _, rfl, SqT.of hp, ty.ty, Bg X.K ty.known Ts hT, q⟩, fun a C dx fs e z => ?_⟩
 have z' : x = .ref a := by simpa using z
 subst z'
 cases ty with
 | lst e' => rw [e] at e'; cases e'
 | tup e' => rw [e] at e'; cases e'
def PN (i j : Int) : Prop := 0 < j ∧ j < 2 ^ 70
theorem xr : OpR X (binaryOp .FloorDiv) (rI PN fun i j => .int (i / j)) := opI fun i j _ _ _ _ _ hc q => by
 have h1 : (0 : Int) < j := hc.1
 have h2 : j < 2 ^ 70 := hc.2
 refine floordiv_int (by omega) (by rw [Int.fdiv_eq_ediv_of_nonneg i (by omega)]; exact q) (.inl (PyProof.noPylong_of_log2 ?_))
 have h3 : j.natAbs ≠ 0 := by omega
 have h4 : j.natAbs.log2 < 70 := (Nat.log2_lt h3).mpr (by omega)
 omega
end
def cT (p : Addr) (H H' : Hp) : Prop := ∀ b o, b ≠ p → H b = some o → H' b = some o
theorem cT.trans {p : Addr} {H H1 H2 : Hp} (a : cT p H H1) (b : cT p H1 H2) : cT p H H2 := fun c o n h => b c o n (a c o n h)
theorem cT.upd {p : Addr} {H : Hp} {o : HO} : cT p H (upd H p o) := fun b u n h => by rw [aH n]; exact h
theorem Same.x {p : Addr} {H H' : Hp} (h : Same H H') : cT p H H' := fun b o _ q => h b o q
theorem aB {H : Hp} {p : Addr} {o : HO} (h : H p = none) : Same H (upd H p o) := fun b u q => by rw [aH (aK q h)]; exact q
structure Cal (P : Program) (w : World) (K : PySem.W.Frag) (mg : Str → Option Value) (base : Heap) (x : Str) (k : Nat) (ps : List Str) (sp : Sp) : Prop where
 ex : ∃ (f : Addr) (fd : FuncData), cX P w K mg base CX0 k f fd ps sp ∧ Binds K fd ps [] ∧ PySem.W.keepIn K (.ref f) = true ∧ mg x = some (.ref f)
section
variable {X : Cx} {k : Nat} {ps : List Str} {sp : Sp} {x : Str} {p pos : Pos} {e : Expr} {es : List Expr} {t : TA}
theorem RK (C : Cal X.prog X.w X.K X.mg X.base x k ps sp) (hr : fZ k X.A) (hg : Gl X x) (ha : PA X (e :: es) t) (hdb : (x == ("__debug__" : Str)) = false := by decide)
  (he : starEach (e :: es) X.env = (false, eval e X.env) :: starEach es X.env := by rfl) (hpl : (backTo pos (starEach es X.env)).any (·.1) = false := by rfl) : PE X (.Call (.Name x p) (e :: es) [] pos) (mR sp [] E0 t) := by
 obtain ⟨f, fd, F, b, kp, hm⟩ := C.ex
 exact MJ F hr hg hm kp b .nil Ux ha hdb he hpl
end
structure fu (K : PySem.W.Frag) (mg : Str → Option Value) (x : Str) (st : Stmt) (ps : List Str) (f : Addr) (fd : FuncData) : Prop where
 fn : Fun K x x st f fd
 bd : Binds K fd ps []
 nm : mg x = some (.ref f)
theorem fu.cal {P : Program} {w : World} {K : PySem.W.Frag} {mg : Str → Option Value} {base : Heap} {x : Str} {st : Stmt} {ps : List Str} {f : Addr} {fd : FuncData} {k : Nat} {sp : Sp} (D : fu K mg x st ps f fd) (F : cX P w K mg base CX0 k f fd ps sp) : Cal P w K mg base x k ps sp :=
 ⟨f, fd, F, D.bd, D.fn.kp, D.nm⟩
theorem iY {k : Nat} (h : k ≤ 40) : (2 : Int) ^ k ≤ 1099511627776 := by
 have h1 : (2 : Nat) ^ k ≤ 2 ^ 40 := Nat.pow_le_pow_right (by decide) h
 have h2 : ((2 ^ k : Nat) : Int) = (2 : Int) ^ k := by simp
 have h3 : (2 : Nat) ^ 40 = 1099511627776 := by decide
 omega
theorem Gf (i j : Int) : pP (.int i) (.int j) = true := rfl
theorem Kv (i j : Bool) : pP (.bl i) (.bl j) = true := rfl
theorem Gd (i j : Str) : pP (.str i) (.str j) = true := rfl
theorem Ge : pP .non .non = true := rfl
theorem Ks (i : Int) : pP (.int i) .non = true := rfl
theorem Kq (i : Int) : pP .non (.int i) = true := rfl
theorem Kr (i : Int) (x : Str) : pP (.int i) (.str x) = true := rfl
theorem Ko (i : Int) (x : Str) : pP (.str x) (.int i) = true := rfl
theorem Va {α : Type} (a : α) (r : List α) : atI (a :: r) 0 = some a := d7 (j := 0) rfl
theorem U9 {α : Type} (a b : α) (r : List α) : atI (a :: b :: r) 1 = some b := d7 (j := 1) rfl
theorem U8 {α : Type} (a b c : α) (r : List α) : atI (a :: b :: c :: r) 2 = some c := d7 (j := 2) rfl
theorem IK : ixN 3 0 = some 0 ∧ ixN 3 1 = some 1 ∧ ixN 3 2 = some 2 := ⟨by decide, by decide, by decide⟩
theorem bx {n : Nat} (h : n ≤ 1000000) : n ≤ sizeLine := Nat.le_trans h (by decide)
def ixq (o : Option HO) (i : Int) (H : Hp) (Q : VK) : Prop := match o with
 | some (.lst xs) => ∃ v, atI xs i = some v ∧ Q v H
 | some (.tup xs) => ∃ v, atI xs i = some v ∧ Q v H
 | _ => False
def stq (o : Option HO) (p : Addr) (k : Int) (v : V) (H : Hp) (Q : Hp → Prop) : Prop := match o with
 | some (.lst xs) => ∃ j, ixN xs.length k = some j ∧ Q (upd H p (.lst (xs.set j v)))
 | _ => False
def lnq (o : Option HO) (H : Hp) (Q : VK) : Prop := match o with
 | some (.lst ys) => Q (.int ys.length) H
 | some (.tup ys) => Q (.int ys.length) H
 | _ => False
def wZ : R2 := fun x y H Q => match x, y with
 | .ref p, .int i => ixq (H p) i H Q
 | _, _ => False
def Gm : V → V → V → Hp → (Hp → Prop) → Prop := fun o i v H Q => match o, i with
 | .ref p, .int k => stq (H p) p k v H Q
 | _, _ => False
def Al : List V → Hp → VK → Prop := fun xs H Q => match xs with
 | [.ref p] => lnq (H p) H Q
 | _ => False
theorem Gz (p : Addr) (i : Int) (H : Hp) (Q : VK) : wZ (.ref p) (.int i) H Q = ixq (H p) i H Q := rfl
theorem CG (p : Addr) (k : Int) (v : V) (H : Hp) (Q : Hp → Prop) : Gm (.ref p) (.int k) v H Q = stq (H p) p k v H Q := rfl
theorem CJ (p : Addr) (H : Hp) (Q : VK) : Al [.ref p] H Q = lnq (H p) H Q := rfl
theorem Nu (xs : List V) (i : Int) (H : Hp) (Q : VK) : ixq (some (.lst xs)) i H Q = ∃ v, atI xs i = some v ∧ Q v H := rfl
theorem Nt (xs : List V) (i : Int) (H : Hp) (Q : VK) : ixq (some (.tup xs)) i H Q = ∃ v, atI xs i = some v ∧ Q v H := rfl
theorem Kc (xs : List V) (p : Addr) (k : Int) (v : V) (H : Hp) (Q : Hp → Prop) : stq (some (.lst xs)) p k v H Q = ∃ j, ixN xs.length k = some j ∧ Q (upd H p (.lst (xs.set j v))) := rfl
theorem Np (xs : List V) (H : Hp) (Q : VK) : lnq (some (.lst xs)) H Q = Q (.int xs.length) H := rfl
theorem Nk (xs : List V) (H : Hp) (Q : VK) : lnq (some (.tup xs)) H Q = Q (.int xs.length) H := rfl
section
variable {X : Cx}
theorem dI : IxR X wZ := by
 intro value slice pins s σ H x y v u Q I rx ry h hs
 unfold wZ at h
 split at h
 ·rename_i p i
  unfold ixq at h
  split at h
  ·rename_i xs e
   obtain ⟨z, hz, q⟩ := h
   exact Bk value slice pins s σ H _ _ v u Q I rx ry ⟨p, xs, i, z, rfl, rfl, SqL.of e, hz, q⟩ hs
  ·rename_i xs e
   obtain ⟨z, hz, q⟩ := h
   exact SM value slice pins s σ H _ _ v u Q I rx ry ⟨p, xs, i, z, rfl, rfl, SqT.of e, hz, q⟩ hs
  ·exact h.elim
 ·exact h.elim
theorem Gb : O4 X Gm := by
 intro pins s σ H o i v ov iv u Q I ro ri rv h
 unfold Gm at h
 split at h
 ·rename_i p k
  unfold stq at h
  split at h
  ·rename_i xs e
   obtain ⟨j, hj, q⟩ := h
   exact set_list pins s σ H _ _ v ov iv u Q I ro ri rv ⟨p, xs, k, j, rfl, rfl, e, hj, q⟩
  ·exact h.elim
 ·exact h.elim
theorem gZ : cM X (.builtin "len") Al := by
 intro pins s σ H xs us Q I r h
 unfold Al at h
 split at h
 ·rename_i p
  unfold lnq at h
  split at h
  ·rename_i ys e
   exact gw pins s σ H _ us Q I r ⟨p, ys, rfl, .inl (SqL.of e), h⟩
  ·rename_i ys e
   exact gw pins s σ H _ us Q I r ⟨p, ys, rfl, .inr (SqT.of e), h⟩
  ·exact h.elim
 ·exact h.elim
end
def Am : List V → Hp → VK → Prop := fun xs H Q => match xs with
 | [.int i] => Q (.int i) H
 | [.bl k] => Q (.int (if k then 1 else 0)) H
 | _ => False
theorem K3 (i : Int) (H : Hp) (Q : VK) : Am [.int i] H Q = Q (.int i) H := rfl
theorem K4 (k : Bool) (H : Hp) (Q : VK) : Am [.bl k] H Q = Q (.int (if k then 1 else 0)) H := rfl
theorem sI {X : Cx} : cM X (.type "int") Am := by
 intro pins s σ H xs us Q I r h
 unfold Am at h
 split at h
 ·exact uQ pins s σ H _ us Q I r (.inl ⟨_, rfl, h⟩)
 ·exact uQ pins s σ H _ us Q I r (.inr ⟨_, rfl, h⟩)
 ·exact h.elim
theorem aP {t u : TS} {D : Ends} {σ : St} {H : Hp} (h : ∀ k, k = u D → t { D with nx := k } σ H) : Fg t u D σ H := h _ rfl
theorem nH {wi : TI} {g : TG} {tb : TS} {D : Ends} {σ : St} {H : Hp} (h : ∀ R : It → Hp → Prop, R = (fun J H1 => ∃ W : Nat → Nat → St → Hp → Prop, (∃ m, W 0 m σ H1) ∧ ∀ i m σ H, W i m σ H →
  (J.stop i H ∧ D.nx σ H) ∨ (J.go i H ∧ ∃ N : St → Hp → Prop, (∀ σ' H', N σ' H' → ∃ m', m' < m ∧ W (i + 1) m' σ' H') ∧ ∀ x H', J.yld i H x H' → g x σ H' fun σ2 H2 => tb { D with nx := N, ct := N, bk := D.nx } σ2 H2)) → wi σ H R) : J8 wi g tb D σ H := h _ rfl
theorem yd {lo : Int} {n : Nat} {g : TG} {tb : TS} {D : Ends} {σ : St} {H : Hp} {R : It → Hp → Prop} (hR : R = (fun J H1 => ∃ W : Nat → Nat → St → Hp → Prop, (∃ m, W 0 m σ H1) ∧ ∀ i m σ H, W i m σ H →
  (J.stop i H ∧ D.nx σ H) ∨ (J.go i H ∧ ∃ N : St → Hp → Prop, (∀ σ' H', N σ' H' → ∃ m', m' < m ∧ W (i + 1) m' σ' H') ∧ ∀ x H', J.yld i H x H' → g x σ H' fun σ2 H2 => tb { D with nx := N, ct := N, bk := D.nx } σ2 H2)))
  (Pv : Nat → St → Hp → Prop) (h0 : Pv 0 σ H) (hs : ∀ i σ H, i < n → Pv i σ H → g (.int (lo + i)) σ H fun σ2 H2 => tb { D with nx := Pv (i + 1), ct := Pv (i + 1), bk := D.nx } σ2 H2) (hd : ∀ σ H, Pv n σ H → D.nx σ H) : R (Itr lo n) H := by
 subst hR
 exact DR Pv h0 hs hd
theorem Jm {K : PySem.W.Frag} {a : Addr} {xs : List V} {g : TG} {tb : TS} {D : Ends} {σ : St} {H : Hp} {R : It → Hp → Prop} (hR : R = (fun J H1 => ∃ W : Nat → Nat → St → Hp → Prop, (∃ m, W 0 m σ H1) ∧ ∀ i m σ H, W i m σ H →
  (J.stop i H ∧ D.nx σ H) ∨ (J.go i H ∧ ∃ N : St → Hp → Prop, (∀ σ' H', N σ' H' → ∃ m', m' < m ∧ W (i + 1) m' σ' H') ∧ ∀ x H', J.yld i H x H' → g x σ H' fun σ2 H2 => tb { D with nx := N, ct := N, bk := D.nx } σ2 H2)))
  (Pv : Nat → St → Hp → Prop) (h0 : Pv 0 σ H) (hl : ∀ i σ H, i ≤ xs.length → Pv i σ H → SqL K H a xs) (hs : ∀ i x σ H, xs[i]? = some x → Pv i σ H → g x σ H fun σ2 H2 => tb { D with nx := Pv (i + 1), ct := Pv (i + 1), bk := D.nx } σ2 H2) (hd : ∀ σ H, Pv xs.length σ H → D.nx σ H) : R (Itl K a) H := by
 subst hR
 exact Jl Pv h0 hl hs hd
def wG (mp : List (Option Nat)) (g : TG) (tc : TT) (te : TE) (σ : St) (Q : VK) (J : It) (H1 : Hp) : Prop := ∃ W : Nat → Nat → List V → St → Hp → Prop, (∃ m, W 0 m [] (iU mp σ) H1) ∧ ∀ i m acc τ H2, W i m acc τ H2 →
  (J.stop i H2 ∧ ∀ d, H2 d = none → Q (.ref d) (upd H2 d (.lst acc))) ∨
  (J.go i H2 ∧ acc.length < sizeLine ∧ ∃ N : List V → St → Hp → Prop, (∀ acc' τ' H', N acc' τ' H' → ∃ m', m' < m ∧ W (i + 1) m' acc' τ' H') ∧ ∀ x H3, J.yld i H2 x H3 → g x τ H3 fun τ1 H4 => tc τ1 H4 fun b H5 =>
   if b = true then te τ1 H5 fun v H6 => N (acc ++ [v]) τ1 H6 else N acc τ1 H5)
theorem gY {mp : List (Option Nat)} {wi : TI} {g : TG} {tc : TT} {te : TE} {σ : St} {H : Hp} {Q : VK} (h : ∀ R : It → Hp → Prop, R = wG mp g tc te σ Q → wi σ H R) : uo mp wi g tc te σ H Q := h _ rfl
theorem nO {J : It} {mp : List (Option Nat)} {g : TG} {tc : TT} {te : TE} {σ : St} {H : Hp} {Q : VK} {R : It → Hp → Prop} (hR : R = wG mp g tc te σ Q) (n : Nat) (hz : n ≤ sizeLine) (Pv : Nat → List V → St → Hp → Prop) (h0 : Pv 0 [] (iU mp σ) H)
  (hl : ∀ i acc τ H, Pv i acc τ H → acc.length ≤ i) (hgo : ∀ i acc τ H, i < n → Pv i acc τ H → J.go i H) (hst : ∀ acc τ H, Pv n acc τ H → J.stop n H)
  (hs : ∀ i acc τ H x H3, i < n → Pv i acc τ H → J.yld i H x H3 → g x τ H3 fun τ1 H4 => tc τ1 H4 fun b H5 => if b = true then te τ1 H5 fun v H6 => Pv (i + 1) (acc ++ [v]) τ1 H6 else Pv (i + 1) acc τ1 H5)
  (hd : ∀ acc τ H d, Pv n acc τ H → H d = none → Q (.ref d) (upd H d (.lst acc))) : R J H := by
 subst hR
 refine ⟨fun i m acc τ H2 => m = n - i ∧ i ≤ n ∧ Pv i acc τ H2, ⟨_, rfl, Nat.zero_le _, h0⟩, ?_⟩
 rintro i m acc τ H2 ⟨rfl, hi, p⟩
 have q3 := hl i acc τ H2 p
 by_cases hlt : i < n
 ·exact .inr ⟨hgo i acc τ H2 hlt p, by omega, Pv (i + 1), fun acc' τ' H' q => ⟨_, by omega, rfl, hlt, q⟩, fun x H3 y => hs i acc τ H2 x H3 hlt p y⟩
 ·have e : i = n := by omega
  subst e
  exact .inl ⟨hst acc τ H2 p, fun d hd' => hd acc τ H2 d p hd'⟩
structure Nm (N : List Str) (sc : Scope) (i : Nat) (x : Str) : Prop where
 hN : N[i]? = some x
 hv : Loc sc x
 hd : (x == ("__debug__" : Str)) = false
 hcd : (x == ("__classdict__" : Str)) = false
def UL (N : List Str) (sc : Scope) (i : Nat) (x : Str) : Bool := decide (N[i]? = some x) && (decide (sc.names.lookup x = some .local) || decide (sc.names.lookup x = some .cell)) && !(x == ("__debug__" : Str)) && !(x == ("__classdict__" : Str))
theorem Nm.of {N : List Str} {sc : Scope} {i : Nat} {x : Str} (h : UL N sc i x = true) : Nm N sc i x := by
 unfold UL at h
 rw [Bool.and_eq_true, Bool.and_eq_true, Bool.and_eq_true, Bool.or_eq_true] at h
 obtain ⟨⟨⟨h1, h2⟩, h3⟩, h4⟩ := h
 exact ⟨of_decide_eq_true h1, h2.elim (fun z => .inl (of_decide_eq_true z)) (fun z => .inr (of_decide_eq_true z)), by simpa using h3, by simpa using h4⟩
structure Bn (x : Str) : Prop where
 hn : x ≠ "__name__"
 hd : (x == ("__debug__" : Str)) = false
section
variable {X : Cx} {i : Nat} {x : Str} {pos pos' p : Pos} {e : Expr} {es : List Expr} {te : TE} {t : TA} {k : Nat} {ps : List Str} {sp : Sp} {id T : String} {r : List V → Hp → VK → Prop}
theorem pn (n : Nm X.N X.env.scope i x) : PE X (.Name x pos) (jl i) := Hj n.hN (n.hv.elim .inl fun z => .inr (.inl z)) n.hd n.hcd
theorem Ui (n : Nm X.N X.env.scope i x) (hN : X.N.Nodup) (he : PE X e te) (hs : swapsWith e (some (.Name x pos')) pos.line X.env = pure false := by rfl) (hf : X.fn x = true ∨ X.env.scope.names.lookup x = some .local := by exact .inl rfl) :
  PS X (.Assign [.Name x pos'] e pos) (sZ te (jh i)) := Rm hN n.hN n.hv he hs hf
theorem Uk (n : Nm X.N X.env.scope i x) (hN : X.N.Nodup) (hf : X.fn x = true ∨ X.env.scope.names.lookup x = some .local := by exact .inl rfl) : PG X (.Name x pos) (jh i) := Av hN n.hN n.hv hf
theorem Us (C : Cal X.prog X.w X.K X.mg X.base x k ps sp) (hr : fZ k X.A) (hg : Gl X x) (hdb : Bn x) (ha : PA X (e :: es) t)
  (he : starEach (e :: es) X.env = (false, eval e X.env) :: starEach es X.env := by rfl) (hpl : (backTo pos (starEach es X.env)).any (·.1) = false := by rfl) : PE X (.Call (.Name x p) (e :: es) [] pos) (mR sp [] E0 t) :=
 RK C hr hg ha hdb.hd he hpl
theorem Ut (hc : cM X (.builtin id) r) (hg : Gl X x) (hm : X.mg x = none) (hv : bootBuiltins x = some (.builtin id)) (b : Bn x) (ha : PA X (e :: es) t)
  (he : starEach (e :: es) X.env = (false, eval e X.env) :: starEach es X.env := by rfl) (hpl : (backTo pos (starEach es X.env)).any (·.1) = false := by rfl) : PE X (.Call (.Name x p) (e :: es) [] pos) (tCB r t) := Hs hc hg hm hv ha b.hn b.hd he hpl
theorem Ur (hc : cM X (.type T) r) (hg : Gl X x) (hm : X.mg x = none) (hv : bootBuiltins x = some (.type T)) (b : Bn x) (ha : PA X (e :: es) t)
  (he : starEach (e :: es) X.env = (false, eval e X.env) :: starEach es X.env := by rfl) (hpl : (backTo pos (starEach es X.env)).any (·.1) = false := by rfl) : PE X (.Call (.Name x p) (e :: es) [] pos) (tCB r t) := CT hc hg hm hv ha b.hn b.hd he hpl
theorem Uu (n : String) (hg : Gl X x) (hm : X.mg x = none) (hv : bootBuiltins x = some (.type n)) (b : Bn x) : PE X (.Name x pos) (tC (.ty n)) := MK hg hm hv rfl b.hn b.hd
end
theorem lg : Bn "len" := ⟨by decide +kernel, by decide +kernel⟩
theorem JK : Bn "abs" := ⟨by decide +kernel, by decide +kernel⟩
theorem zP : Bn "min" := ⟨by decide +kernel, by decide +kernel⟩
theorem Tp : Bn "max" := ⟨by decide +kernel, by decide +kernel⟩
theorem wj : Bn "all" := ⟨by decide +kernel, by decide +kernel⟩
theorem aW : Bn "isinstance" := ⟨by decide +kernel, by decide +kernel⟩
theorem sO : Bn "int" := ⟨by decide +kernel, by decide +kernel⟩
theorem wg : Bn "list" := ⟨by decide +kernel, by decide +kernel⟩
theorem nQ : Bn "tuple" := ⟨by decide +kernel, by decide +kernel⟩
theorem mL : Bn "str" := ⟨by decide +kernel, by decide +kernel⟩
theorem qt : Bn "bool" := ⟨by decide +kernel, by decide +kernel⟩
theorem BX : Bn "repr" := ⟨by decide +kernel, by decide +kernel⟩
def tyO : Option HO → Option String
 | some (.lst _) => some "list"
 | some (.tup _) => some "tuple"
 | _ => none
def tyN (x : V) (H : Hp) : Option String := match x with
 | .non => some "NoneType"
 | .bl _ => some "bool"
 | .int _ => some "int"
 | .str _ => some "str"
 | .ref a => tyO (H a)
 | _ => none
theorem Tn.of {x : V} {H : Hp} {t : String} (h : tyN x H = some t) : Tn H x t := by
 cases x with
 | non => cases h; exact .non
 | bl b => cases h; exact .bl b
 | int i => cases h; exact .int i
 | str s => cases h; exact .str s
 | ref a =>
  have h' : tyO (H a) = some t := h
  cases e : H a with
  | none => rw [e] at h'; cases h'
  | some o =>
   rw [e] at h'
   cases o with
   | lst xs => cases h'; exact .lst e
   | tup xs => cases h'; exact .tup e
   | _ => cases h'
 | _ => cases h
def GJ : List V → Hp → VK → Prop := fun xs H Q => match xs with
 | [x, .ty T] => ∃ t, tyN x H = some t ∧ cV.contains T = true ∧ Q (.bl (cQ t T)) H
 | _ => False
def i2q (o : Option HO) (x : V) (H : Hp) (Q : VK) : Prop := match o with
 | some (.tup [.ty T, .ty U]) => ∃ t, tyN x H = some t ∧ cV.contains T = true ∧ cV.contains U = true ∧ Q (.bl (cQ t T || cQ t U)) H
 | _ => False
def GD : List V → Hp → VK → Prop := fun xs H Q => match xs with
 | [x, .ref p] => i2q (H p) x H Q
 | _ => False
theorem cg {X : Cx} : cM X (.builtin "isinstance") GJ := by
 intro pins s σ H xs us Q I r h
 unfold GJ at h
 split at h
 ·obtain ⟨t, e, k, q⟩ := h
  exact Ej pins s σ H _ us Q I r ⟨_, _, t, rfl, Tn.of e, by simpa using k, q⟩
 ·exact h.elim
theorem Eh {X : Cx} : cM X (.builtin "isinstance") GD := by
 intro pins s σ H xs us Q I r h
 unfold GD at h
 split at h
 ·rename_i x p
  unfold i2q at h
  split at h
  ·rename_i T U e
   obtain ⟨t, e1, k1, k2, q⟩ := h
   refine Ei pins s σ H _ us Q I r ⟨x, p, [T, U], t, rfl, e, Tn.of e1, fun z hz => ?_, by simpa using q⟩
   rcases List.mem_cons.mp hz with rfl | hz
   ·simpa using k1
   ·obtain rfl := List.mem_singleton.mp hz
    simpa using k2
  ·exact h.elim
 ·exact h.elim
theorem GF (x : V) (T : String) (H : Hp) (Q : VK) : GJ [x, .ty T] H Q = ∃ t, tyN x H = some t ∧ cV.contains T = true ∧ Q (.bl (cQ t T)) H := rfl
theorem GC (x : V) (p : Addr) (H : Hp) (Q : VK) : GD [x, .ref p] H Q = i2q (H p) x H Q := rfl
theorem S9 (x : V) (T U : String) (H : Hp) (Q : VK) : i2q (some (.tup [.ty T, .ty U])) x H Q = ∃ t, tyN x H = some t ∧ cV.contains T = true ∧ cV.contains U = true ∧ Q (.bl (cQ t T || cQ t U)) H := rfl
theorem Nq : cV.contains "list" = true := by decide
theorem Ir : cV.contains "tuple" = true := by decide
theorem SJ : cV.contains "int" = true := by decide
theorem Sy : cV.contains "str" = true := by decide
theorem kc_bool : cV.contains "bool" = true := by decide
theorem ty_int (i : Int) (H : Hp) : tyN (.int i) H = some "int" := rfl
theorem TX (i : Bool) (H : Hp) : tyN (.bl i) H = some "bool" := rfl
theorem ty_str (i : Str) (H : Hp) : tyN (.str i) H = some "str" := rfl
theorem Qe (H : Hp) : tyN .non H = some "NoneType" := rfl
theorem Qd (p : Addr) (H : Hp) : tyN (.ref p) H = tyO (H p) := rfl
theorem J1 (xs : List V) : tyO (some (.lst xs)) = some "list" := rfl
theorem J0 (xs : List V) : tyO (some (.tup xs)) = some "tuple" := rfl
theorem oA : cQ "NoneType" "bool" = false := by decide
theorem pR : cQ "NoneType" "int" = false := by decide
theorem pQ : cQ "NoneType" "str" = false := by decide
theorem ou : cQ "NoneType" "list" = false := by decide
theorem mZ : cQ "NoneType" "tuple" = false := by decide
theorem vA : cQ "bool" "bool" = true := by decide
theorem wX : cQ "bool" "int" = true := by decide
theorem wW : cQ "bool" "str" = false := by decide
theorem vz : cQ "bool" "list" = false := by decide
theorem tK : cQ "bool" "tuple" = false := by decide
theorem wV : cQ "int" "bool" = false := by decide
theorem yW : cQ "int" "int" = true := by decide
theorem yV : cQ "int" "str" = false := by decide
theorem wU : cQ "int" "list" = false := by decide
theorem vy : cQ "int" "tuple" = false := by decide
theorem wO : cQ "str" "bool" = false := by decide
theorem yU : cQ "str" "int" = false := by decide
theorem yS : cQ "str" "str" = true := by decide
theorem wN : cQ "str" "list" = false := by decide
theorem vo : cQ "str" "tuple" = false := by decide
theorem vq : cQ "list" "bool" = false := by decide
theorem wR : cQ "list" "int" = false := by decide
theorem wQ : cQ "list" "str" = false := by decide
theorem vp : cQ "list" "list" = true := by decide
theorem tH : cQ "list" "tuple" = false := by decide
theorem tG : cQ "tuple" "bool" = false := by decide
theorem vm : cQ "tuple" "int" = false := by decide
theorem vh : cQ "tuple" "str" = false := by decide
theorem tE : cQ "tuple" "list" = false := by decide
theorem qJ : cQ "tuple" "tuple" = true := by decide
def gtq (o : Option HO) (n : Nat) (t : TGs) (σ : St) (H : Hp) (Q : St → Hp → Prop) : Prop := match o with
 | some (.tup xs) => xs.length = n ∧ t xs σ H Q
 | _ => False
def Bt (n : Nat) (t : TGs) : TG := fun v σ H Q => match v with
 | .ref a => gtq (H a) n t σ H Q
 | _ => False
theorem DP (n : Nat) (t : TGs) (a : Addr) (σ : St) (H : Hp) (Q : St → Hp → Prop) : Bt n t (.ref a) σ H Q = gtq (H a) n t σ H Q := rfl
theorem N7 (xs : List V) (n : Nat) (t : TGs) (σ : St) (H : Hp) (Q : St → Hp → Prop) : gtq (some (.tup xs)) n t σ H Q = (xs.length = n ∧ t xs σ H Q) := rfl
def qtq (o : Option HO) (f : List Bool → Bool) (H : Hp) (Q : VK) : Prop := match o with
 | some (.lst xs) => ∃ bs, xs = List.map V.bl bs ∧ Q (.bl (f bs)) H
 | _ => False
def vC (f : List Bool → Bool) : List V → Hp → VK → Prop := fun xs H Q => match xs with
 | [.ref p] => qtq (H p) f H Q
 | _ => False
theorem wY (f : List Bool → Bool) (p : Addr) (H : Hp) (Q : VK) : vC f [.ref p] H Q = qtq (H p) f H Q := rfl
theorem Lp (f : List Bool → Bool) (xs : List V) (H : Hp) (Q : VK) : qtq (some (.lst xs)) f H Q = ∃ bs, xs = List.map V.bl bs ∧ Q (.bl (f bs)) H := rfl
section
variable {X : Cx} {es : List Expr} {k : Nat} {t : TGs} {n : Nat} {pos : Pos}
theorem Mu (hc : X.calm = true) (h : PGs X es t) (hn : (assignEach es X.env).length = n := by rfl) (hst : (assignEach es X.env).findIdx? (·.1) = none := by rfl) : PG X (.Tuple es k pos) (Bt n t) := by
 intro pins s σ H v u Q I r hw
 unfold Bt at hw
 split at hw
 ·rename_i a
  unfold gtq at hw
  split at hw
  ·rename_i xs e
   exact Hi hc h hn hst pins s σ H _ u Q I r ⟨a, xs, rfl, SqT.of e, hw.1, hw.2⟩
  ·exact hw.elim
 ·exact hw.elim
theorem lH (hc : X.calm = true) : cM X (.builtin "all") (vC fun bs => bs.all id) := by
 intro pins s σ H xs us Q I r h
 unfold vC at h
 split at h
 ·rename_i p
  unfold qtq at h
  split at h
  ·rename_i ys e
   obtain ⟨bs, rfl, q⟩ := h
   exact JF hc pins s σ H _ us Q I r ⟨p, bs, rfl, SqL.of e, q⟩
  ·exact h.elim
 ·exact h.elim
end
def Gs : List V → Hp → VK → Prop := fun xs H Q => match xs with
 | [.int i, .int j] => Q (.int (if j < i then j else i)) H
 | _ => False
def Gv : List V → Hp → VK → Prop := fun xs H Q => match xs with
 | [.int i, .int j] => Q (.int (if j > i then j else i)) H
 | _ => False
theorem Gr (i j : Int) (H : Hp) (Q : VK) : Gs [.int i, .int j] H Q = Q (.int (if j < i then j else i)) H := rfl
theorem Gu (i j : Int) (H : Hp) (Q : VK) : Gv [.int i, .int j] H Q = Q (.int (if j > i then j else i)) H := rfl
theorem pB {X : Cx} (hc : X.calm = true) : cM X (.builtin "min") Gs := by
 intro pins s σ H xs us Q I r h
 unfold Gs at h
 split at h
 ·exact Eb hc pins s σ H _ us Q I r ⟨_, _, rfl, h⟩
 ·exact h.elim
theorem Ec {X : Cx} (hc : X.calm = true) : cM X (.builtin "max") Gv := by
 intro pins s σ H xs us Q I r h
 unfold Gv at h
 split at h
 ·exact Ed hc pins s σ H _ us Q I r ⟨_, _, rfl, h⟩
 ·exact h.elim
structure QE (X : Cx) (e : Expr) (t : TE) : Prop where
 h : PE X e t
structure QT (X : Cx) (e : Expr) (t : TT) : Prop where
 h : PT X e t
structure QW (X : Cx) (e : Expr) (t : TT) : Prop where
 h : PW X e t
structure QA (X : Cx) (es : List Expr) (t : TA) : Prop where
 h : PA X es t
structure QS (X : Cx) (st : Stmt) (t : TS) : Prop where
 h : PS X st t
structure QB (X : Cx) (st : List Stmt) (t : TS) : Prop where
 h : PSs X st t
structure QG (X : Cx) (e : Expr) (t : TG) : Prop where
 h : PG X e t
structure QGs (X : Cx) (es : List Expr) (t : TGs) : Prop where
 h : PGs X es t
structure QI (X : Cx) (tg e : Expr) (t : TI) : Prop where
 h : PI X tg e t
structure QC (X : Cx) (cs : List Expr) (t : TT) : Prop where
 h : PTs X cs t
section
variable {X : Cx} {i : Nat} {x : Str} {pos pos' p tpos : Pos} {e a b c o : Expr} {es rest : List Expr} {te ta tb tc to ti : TE} {tA tB' : TT} {t : TA} {k n kk : Nat} {ps : List Str} {sp : Sp} {id T : String} {r : List V → Hp → VK → Prop} {st : Stmt} {sts : List Stmt} {ts us : TS} {tg iter : Expr} {wi : TI} {g : TG} {gs : TGs}
theorem au (h : Nm X.N X.env.scope i x) : QE X (.Name x pos) (jl i) := ⟨pn h⟩
theorem pU (i : Nat) {x : Str} {pos : Pos} (hN : X.N[i]? = some x := by rfl) (hv : Vis X.env.scope x := by first | exact Or.inl rfl | exact Or.inr (Or.inl rfl) | exact Or.inr (Or.inr rfl)) (hd : (x == ("__debug__" : Str)) = false := by decide)
  (hcd : (x == ("__classdict__" : Str)) = false := by decide) : QE X (.Name x pos) (jl i) := ⟨Hj hN hv hd hcd⟩
theorem ao {i j pos} : QE X (.Constant (.int i) j pos) (tC (.int i)) := ⟨RJ⟩
theorem pF {b j pos} : QE X (.Constant (.bool b) j pos) (tC (.bl b)) := ⟨Uw⟩
theorem gF {j pos} : QE X (.Constant .none j pos) (tC .non) := ⟨RD⟩
theorem aZ {x j pos} : QE X (.Constant (.str x) j pos) (tC (.str x)) := ⟨Ry⟩
theorem aL {op : Operator} {r : R2} (ho : OpR X (binaryOp op) r) (ha : QE X a ta) (hb : QE X b tb) : QE X (.BinOp a op b pos) (tOp r ta tb) := ⟨Uo ho ha.h hb.h⟩
theorem G3 {op : UnaryOp} {r : V → Hp → VK → Prop} (ho : UnR X (unaryOp op) r) (ha : QE X a ta) : QE X (.UnaryOp op a pos) (tUn r ta) := ⟨Ul ho ha.h⟩
theorem G4 (ha : QE X a ta) : QE X (.UnaryOp .Not a pos) (Fo ta) := ⟨RB ha.h⟩
theorem gG {op : CmpOp} {r : R2} (ho : OpR X (compareOp op) r) (ha : QE X a ta) (hb : QE X b tb) (hm : behindInMarks op b = false) : QE X (.Compare a [op] [b] pos) (tOp r ta tb) := ⟨MF ho ha.h hb.h hm⟩
theorem bA {op : CmpOp} {r : R2} (ho : OpR X (compareOp op) r) (ha : QE X a ta) (hb : QE X b tb) (hm : behindInMarks op b = false) : QT X (.Compare a [op] [b] pos) (um (tOp r ta tb)) := ⟨LC ho ha.h hb.h hm⟩
theorem jR {op op' : CmpOp} {r r' : R2} (ho : OpR X (compareOp op) r) (ho' : OpR X (compareOp op') r') (ha : QE X a ta) (hb : QE X b tb) (hc : QE X c tc)
  (hm : lastMarks [op, op'] [b, c] = false := by with_unfolding_all rfl) : QE X (.Compare a [op, op'] [b, c] pos) (qz r r' ta tb tc) := ⟨Hr ho ho' ha.h hb.h hc.h hm⟩
theorem xj {op op' : CmpOp} {r r' : R2} (ho : OpR X (compareOp op) r) (ho' : OpR X (compareOp op') r') (ha : QE X a ta) (hb : QE X b tb) (hc : QE X c tc)
  (hm : lastMarks [op, op'] [b, c] = false := by with_unfolding_all rfl) : QT X (.Compare a [op, op'] [b, c] pos) (um (qz r r' ta tb tc)) := ⟨G6 ho ho' ha.h hb.h hc.h hm⟩
theorem mq {op} (h : QE X a ta) : QE X (.BoolOp op [a] pos) ta := ⟨Rz h.h⟩
theorem jw (ha : QE X a ta) (hb : QE X (.BoolOp .And (b :: rest) pos) tb) : QE X (.BoolOp .And (a :: b :: rest) pos) (Fx ta tb) := ⟨RL ha.h hb.h⟩
theorem jE (hc : QT X c tA) (ha : QE X a ta) (hb : QE X b tb) : QE X (.IfExp c a b pos) (tIf tA ta tb) := ⟨Ho hc.h ha.h hb.h⟩
theorem bR {r : R2} (hr : IxR X r) (ha : QE X a ta) (hb : QE X b tb) (hs : Ca b) : QE X (.Subscript a b pos) (tOp r ta tb) := ⟨Uq hr ha.h hb.h hs⟩
theorem iB (h : QA X es t) : QE X (.List es pos) (Qo t) := ⟨RG h.h⟩
theorem eU {x1} (h : QA X es t) : QE X (.Tuple es x1 pos) (J6 t) := ⟨Rx h.h⟩
theorem aq : QA X [] sY := ⟨RM⟩
theorem ak (ha : QE X e te) (hr : QA X es t) (hs : starEach (e :: es) X.env = (false, eval e X.env) :: starEach es X.env := by rfl) : QA X (e :: es) (gA te t) := ⟨MP ha.h hr.h hs⟩
theorem aX (C : Cal X.prog X.w X.K X.mg X.base x k ps sp) (hr : fZ k X.A) (hg : Gl X x) (hdb : Bn x) (ha : QA X (e :: es) t)
  (he : starEach (e :: es) X.env = (false, eval e X.env) :: starEach es X.env := by rfl) (hpl : (backTo pos (starEach es X.env)).any (·.1) = false := by rfl) : QE X (.Call (.Name x p) (e :: es) [] pos) (mR sp [] E0 t) := ⟨Us C hr hg hdb ha.h he hpl⟩
theorem bW (hc : cM X (.builtin id) r) (hg : Gl X x) (hm : X.mg x = none) (hv : bootBuiltins x = some (.builtin id)) (b : Bn x) (ha : QA X (e :: es) t)
  (he : starEach (e :: es) X.env = (false, eval e X.env) :: starEach es X.env := by rfl) (hpl : (backTo pos (starEach es X.env)).any (·.1) = false := by rfl) : QE X (.Call (.Name x p) (e :: es) [] pos) (tCB r t) := ⟨Ut hc hg hm hv b ha.h he hpl⟩
theorem qN (hc : cM X (.type T) r) (hg : Gl X x) (hm : X.mg x = none) (hv : bootBuiltins x = some (.type T)) (b : Bn x) (ha : QA X (e :: es) t)
  (he : starEach (e :: es) X.env = (false, eval e X.env) :: starEach es X.env := by rfl) (hpl : (backTo pos (starEach es X.env)).any (·.1) = false := by rfl) : QE X (.Call (.Name x p) (e :: es) [] pos) (tCB r t) := ⟨Ur hc hg hm hv b ha.h he hpl⟩
theorem gb (n : String) (hg : Gl X x) (hm : X.mg x = none) (hv : bootBuiltins x = some (.type n)) (b : Bn x) : QE X (.Name x pos) (tC (.ty n)) := ⟨Uu n hg hm hv b⟩
theorem jo (ha : QT X a tA) : QT X (.UnaryOp .Not a pos) (Qm tA) := ⟨Rk ha.h⟩
theorem dR (h : QE X e te) (he : ∀ whole, isTrue e X.env whole = (do let v ← whole; standAt e.pos; holding [v] (truthy v)) := by intro _; rfl) : QT X e (tB te) := ⟨Rj h.h he⟩
theorem Ao (ha : QT X a tA) : QW X (.BoolOp .And [a] pos) tA := ⟨Ly ha.h⟩
theorem jn (ha : QT X a tA) : QW X (.BoolOp .Or [a] pos) tA := ⟨Rh ha.h⟩
theorem GX (ha : QT X a tA) (hb : QW X (.BoolOp .And (b :: rest) pos) tB') : QW X (.BoolOp .And (a :: b :: rest) pos) (Qw tA tB') := ⟨Ri ha.h hb.h⟩
theorem jO (ha : QT X a tA) (hb : QW X (.BoolOp .Or (b :: rest) pos) tB') : QW X (.BoolOp .Or (a :: b :: rest) pos) (tOr tA tB') := ⟨Ug ha.h hb.h⟩
theorem qL (h : QW X e tA) : QT X e tA := ⟨h.h.pt⟩
theorem bI : QB X [] Fp := ⟨LQ⟩
theorem aG (h : QS X st ts) : QB X [st] ts := ⟨LK h.h⟩
theorem aA (h : QS X st ts) (h2 : QB X sts us) : QB X (st :: sts) (Fg ts us) := ⟨G7 h.h h2.h⟩
theorem aM (he : QE X e te) : QS X (.Return (some e) pos) (Cj te) := ⟨Rn he.h⟩
theorem cD {c : Expr} {a b : List Stmt} {tc : TT} (hc : QT X c tc) (ha : QB X a ts) (hb : QB X b us) : QS X (.If c a b pos) (Qq tc ts us) := ⟨Uj hc.h ha.h hb.h⟩
theorem jr (he : QE X e te) (hs : swapsWith e none pos.line X.env = pure false := by rfl) : QS X (.Expr e pos) (Fq te) := ⟨Mf he.h hs⟩
theorem bV (h : Nm X.N X.env.scope i x) (hN : X.N.Nodup) (he : QE X e te) (hs : swapsWith e (some (.Name x pos')) pos.line X.env = pure false := by rfl) (hf : X.fn x = true ∨ X.env.scope.names.lookup x = some .local := by exact .inl rfl) :
  QS X (.Assign [.Name x pos'] e pos) (sZ te (jh i)) := ⟨Ui h hN he.h hs hf⟩
theorem iz (he : QE X e te) (hg : QG X tg g) (hs : swapsWithSole [tg] e pos.line X.env = pure false := by rfl) (hw : swappedStores [tg] e X.env = pure none := by rfl)
  (h1 : (assignEach [tg] X.env).map (·.2) = [assign tg X.env] := by rfl) : QS X (.Assign [tg] e pos) (sZ te g) := ⟨Rq he.h hg.h hs hw h1⟩
theorem vD {i j : Nat} {x y : Str} {a b : Expr} {ta : TA} {px py pt : Pos} {kt k2 pt2} (hc : X.calm = true) (hN : X.N.Nodup) (hi : X.N[i]? = some x) (hj : X.N[j]? = some y) (hij : i ≠ j)
  (hx : X.env.scope.names.lookup x = some .local) (hy : X.env.scope.names.lookup y = some .local) (ha : QA X [a, b] ta)
  (hw : swappedStores [.Tuple [.Name x px, .Name y py] kt pt] (.Tuple [a, b] k2 pt2) X.env = pure (some [x, y]))
  (hs : swapsWithSole [.Tuple [.Name x px, .Name y py] kt pt] (.Tuple [a, b] k2 pt2) pos.line X.env = pure false := by rfl) :
  QS X (.Assign [.Tuple [.Name x px, .Name y py] kt pt] (.Tuple [a, b] k2 pt2) pos) (Ql i j ta) := ⟨Ro hc hN hi hj hij hx hy ha.h hw hs⟩
theorem jq {body : List Stmt} (hp : PassesOwn (model X.prog X.w) X.A X.env X.xe) (hc : X.calm = true) (hi : QI X tg iter wi) (hg : QG X tg g) (hb : QB X body ts)
  (hs : ∀ x, foldedSetIterable iter X.env x = pure x := by intro _; rfl) : QS X (.For tg iter body [] pos) (J8 wi g ts) := ⟨Rp hp hc hi.h hg.h hb.h hs⟩
theorem cP (h : Nm X.N X.env.scope i x) (hN : X.N.Nodup) (hf : X.fn x = true ∨ X.env.scope.names.lookup x = some .local := by exact .inl rfl) : QG X (.Name x pos) (jh i) := ⟨Uk h hN hf⟩
theorem fL (i : Nat) (hN : X.N.Nodup) (hi : X.N[i]? = some x) (hx : Loc X.env.scope x) (hf : X.fn x = true ∨ X.env.scope.names.lookup x = some .local := by first | exact .inl rfl | exact .inr rfl) : QG X (.Name x pos) (jh i) := ⟨Av hN hi hx hf⟩
theorem gm : QGs X [] Te := ⟨Ms⟩
theorem bG (h1 : QG X e g) (h2 : QGs X es gs) (hs : (assignEach (e :: es) X.env).map (·.2) = assign e X.env :: (assignEach es X.env).map (·.2) := by rfl) : QGs X (e :: es) (Jj g gs) := ⟨Hg h1.h h2.h hs⟩
theorem jP {n : Nat} (hc : X.calm = true) (h : QGs X es gs) (hn : (assignEach es X.env).length = n := by rfl) (hst : (assignEach es X.env).findIdx? (·.1) = none := by rfl) : QG X (.Tuple es k pos) (Bt n gs) := ⟨Mu hc h.h hn hst⟩
theorem JS (o : Expr) (c j) (p pos : Pos) (env : Env) (v : Value) : assign (.Subscript o (.Constant c j p) pos) env v = (do
   let ov ← holding [v] (eval o env)
   let iv ← holding [v, ov] (eval (.Constant c j p) env)
   standAt pos
   holding [v, ov, iv] (setItem ov iv v)
   release [v, ov, iv] []) := rfl
theorem vG {c j} {t : O3} (ho : QE X o to) (hi : QE X (.Constant c j p) ti) (hs : O4 X t) : QG X (.Subscript o (.Constant c j p) pos) (Tc to ti t) := ⟨Rw ho.h hi.h hs (fun v => JS o c j p pos X.env v)⟩
theorem iV (hg : Gl X "range") (hm : X.mg "range" = none) (ha : QA X [a] t) (hs : starEach [a] X.env = [(false, eval a X.env)] := by rfl) : QI X tg (.Call (.Name "range" p) [a] [] pos) (pK t) := ⟨CP hg hm ha.h hs⟩
theorem jx : QC X [] Fd := ⟨Lz⟩
theorem jt {NX : List Str} {kX : List (Str × NameKind)} {scope : Scope} {elt : Expr} {ifs : List Expr} {tc : TT} (N : List Str) (mp : List (Option Nat)) (hNX : X.N = NX) (hkX : X.env.scope.names = kX) (S : uY NX kX N mp scope) (hc : X.calm = true)
  (hi : QI X tg iter wi) (hg : ∀ cl C s H fp, QG (bU X N scope cl C s H fp) tg g) (ht : ∀ cl C s H fp, QC (bU X N scope cl C s H fp) ifs tc) (he : ∀ cl C s H fp, QE (bU X N scope cl C s H fp) elt te)
  (hs : ∀ x, foldedSetIterable iter X.env x = pure x := by intro _; rfl) : QE X (.ListComp elt [⟨tg, iter, ifs, 0⟩] scope pos) (uo mp wi g tc te) :=
 ⟨Mz N mp hNX hkX S hc hi.h (fun cl C s H fp => (hg cl C s H fp).h) (fun cl C s H fp => (ht cl C s H fp).h) (fun cl C s H fp => (he cl C s H fp).h) hs⟩
end
section
variable {P : Program} {w : World} {K : PySem.W.Frag} {mg : Str → Option Value} {base : Heap}
theorem Fun.okq {x qual : Str} {st : Stmt} {f : Addr} {fd : FuncData} {N ps : List Str} {k : Nat} {sp : Sp} (F : Fun K x qual st f fd) (S : bh N ps (aj st)) (len : ∀ vs H Q E, sp vs H Q E → vs.length = ps.length)
  (hbody : ∀ (cdv : Value) (A : Around) (outer : List Env) (s : Shared) (H : Hp) (vs : List V) (Q : VK) (E : XK), fZ k (A.deeper (envOfC qual (aj st) s.heap.objs.size f cdv)) → sp vs H Q E →
   ∃ t, QB (zN CX0 P w K mg base N qual (aj st) f cdv A outer s H E).nox (aY st) t ∧ t { nx := fun _ H' => Q .non H', rt := Q } (L2.start N vs) H) : cX P w K mg base CX0 (k + 1) f fd ps sp :=
 F.ok S len fun cdv A outer s H vs Q E hr hsp => by
  obtain ⟨t, h, q⟩ := hbody cdv A outer s H vs Q E hr hsp
  exact ⟨t, h.h, q⟩
end
def smq (o : Option HO) (H : Hp) (Q : VK) : Prop := match o with
 | some (.lst xs) => ∃ ns : List Int, xs = ns.map V.int ∧ Q (.int ns.sum) H
 | _ => False
def T7 : List V → Hp → VK → Prop := fun xs H Q => match xs with
 | [.ref p] => smq (H p) H Q
 | _ => False
theorem Cy (p : Addr) (H : Hp) (Q : VK) : T7 [.ref p] H Q = smq (H p) H Q := rfl
theorem Kd (xs : List V) (H : Hp) (Q : VK) : smq (some (.lst xs)) H Q = ∃ ns : List Int, xs = ns.map V.int ∧ Q (.int ns.sum) H := rfl
section
variable {X : Cx}
def T6 (i : Int) (n : Nat) : List V := (List.range n).map fun k => V.int (i + (k : Nat))
def T4 (ta : TA) : TE := fun σ H Q => ta σ H fun vs H1 => ∃ i j : Int, vs = [.int i, .int j] ∧ (-(2 ^ 62) ≤ i ∧ i < 2 ^ 62 ∧ -(2 ^ 62) ≤ j ∧ j < 2 ^ 62) ∧ (j - i).toNat ≤ sizeLine ∧ ∀ p, H1 p = none → Q (.ref p) (upd H1 p (.lst (T6 i (j - i).toNat)))
def adq (a b : Option HO) (H : Hp) (Q : VK) : Prop := match a, b with
 | some (.lst xs), some (.lst zs) => xs.length + zs.length ≤ sizeLine ∧ ∀ p, H p = none → Q (.ref p) (upd H p (.lst (xs ++ zs)))
 | _, _ => False
def uy : R2 := fun x y H Q => match x, y with
 | .int i, .int j => Q (.int (i + j)) H
 | .ref p, .ref q => adq (H p) (H q) H Q
 | _, _ => False
theorem Ln (i j : Int) (H : Hp) (Q : VK) : uy (.int i) (.int j) H Q = Q (.int (i + j)) H := rfl
theorem Lk (p q : Addr) (H : Hp) (Q : VK) : uy (.ref p) (.ref q) H Q = adq (H p) (H q) H Q := rfl
theorem Tv (xs zs : List V) (H : Hp) (Q : VK) : adq (some (.lst xs)) (some (.lst zs)) H Q = (xs.length + zs.length ≤ sizeLine ∧ ∀ p, H p = none → Q (.ref p) (upd H p (.lst (xs ++ zs)))) := rfl
theorem bT : OpR X (binaryOp .Add) uy := by
 intro pins s σ H x y v u Q I rx ry h
 unfold uy at h
 split at h
 ·exact RW pins s σ H _ _ v u Q I rx ry ⟨_, _, rfl, rfl, h⟩
 ·rename_i p q
  unfold adq at h
  split at h
  ·rename_i xs zs e1 e2
   exact RV pins s σ H _ _ v u Q I rx ry ⟨p, q, xs, zs, rfl, rfl, e1, e2, h.1, h.2⟩
  ·exact h.elim
 ·exact h.elim
def eqL : List V → List V → Bool
 | [], [] => true
 | x :: xs, y :: ys => eqV x y && eqL xs ys
 | _, _ => false
def Nh (a b : Option HO) (H : Hp) (Q : VK) : Prop := match a, b with
 | some (.lst xs), some (.lst zs) => xs.all dN = true ∧ zs.all dN = true ∧ Q (.bl (!eqL xs zs)) H
 | _, _ => False
def za : R2 := fun x y H Q => match x, y with
 | .ref p, .ref q => Nh (H p) (H q) H Q
 | x, y => rNe x y H Q
theorem Q6 (p q : Addr) (H : Hp) (Q : VK) : za (.ref p) (.ref q) H Q = Nh (H p) (H q) H Q := rfl
theorem Q7 (i j : Int) (H : Hp) (Q : VK) : za (.int i) (.int j) H Q = rNe (.int i) (.int j) H Q := rfl
theorem Q8 (i j : Bool) (H : Hp) (Q : VK) : za (.bl i) (.bl j) H Q = rNe (.bl i) (.bl j) H Q := rfl
theorem Q5 (i j : Str) (H : Hp) (Q : VK) : za (.str i) (.str j) H Q = rNe (.str i) (.str j) H Q := rfl
theorem Ng (xs zs : List V) (H : Hp) (Q : VK) : Nh (some (.lst xs)) (some (.lst zs)) H Q = (xs.all dN = true ∧ zs.all dN = true ∧ Q (.bl (!eqL xs zs)) H) := rfl
theorem Bv : ∀ (xs zs : List V), xs.length = zs.length → ((List.range xs.length).all fun j => match xs[j]?, zs[j]? with | some a, some b => eqV a b | _, _ => true) = eqL xs zs
 | [], [], _ => rfl
 | [], _ :: _, h => by cases h
 | _ :: _, [], h => by cases h
 | x :: xs, z :: zs, h => by
  have ih := Bv xs zs (by simpa using h)
  rw [List.length_cons, List.range_succ_eq_map, List.all_cons, List.all_map]
  show (eqV x z && _) = (eqV x z && eqL xs zs)
  rw [← ih]
  rfl
theorem Bu : ∀ (xs zs : List V), xs.length ≠ zs.length → eqL xs zs = false
 | [], [], h => absurd rfl h
 | [], _ :: _, _ => rfl
 | _ :: _, [], _ => rfl
 | x :: xs, z :: zs, h => by
  show (eqV x z && eqL xs zs) = false
  rw [Bu xs zs (by simpa using h), Bool.and_false]
theorem iG (hu : X.A.units < cLine) : OpR X (compareOp .NotEq) za := by
 intro pins s σ H x y v u Q I rx ry h
 unfold za at h
 split at h
 ·rename_i p q
  unfold Nh at h
  split at h
  ·rename_i xs zs e1 e2
   obtain ⟨f1, f2, q⟩ := h
   cases rx
   cases ry
   obtain ⟨its1, r1, pl1, hz1⟩ := I.list (SqL.of e1)
   obtain ⟨its2, r2, pl2, hz2⟩ := I.list (SqL.of e2)
   have l1 := r1.length
   have l2 := r2.length
   by_cases hl : xs.length = zs.length
   ·refine SeqAt.RcNeAt.lists (e := fun j => match xs[j]?, zs[j]? with | some a, some b => eqV a b | _, _ => true) pl1.isList pl2.isList (by simp only [List.size_toArray]; omega) hu (fun j h1 h2 => ?_) X.prog X.w X.xe (EP X pins σ Q) ?_
    ·have j1 : j < xs.length := by simp only [List.size_toArray] at h1; omega
     have j2 : j < zs.length := by omega
     have g1 : xs[j]? = some xs[j] := List.getElem?_eq_getElem j1
     have g2 : zs[j]? = some zs[j] := List.getElem?_eq_getElem j2
     obtain ⟨u1, hu1, ru1⟩ := r1.get g1
     obtain ⟨u2, hu2, ru2⟩ := r2.get g2
     have k1 : its1.toArray[j] = u1 := by
      have := List.getElem?_eq_some_iff.mp hu1
      obtain ⟨_, z⟩ := this
      simpa using z
     have k2 : its2.toArray[j] = u2 := by
      have := List.getElem?_eq_some_iff.mp hu2
      obtain ⟨_, z⟩ := this
      simpa using z
     rw [k1, k2, g1, g2]
     exact Jr ru1 ru2 (List.all_eq_true.mp f1 _ (List.getElem_mem j1)) (List.all_eq_true.mp f2 _ (List.getElem_mem j2))
    ·rw [show its1.toArray.size = xs.length by simp only [List.size_toArray]; omega, Bv xs zs hl]
     exact ⟨.bl _, H, I, rfl, q⟩
   ·rw [Bu xs zs hl] at q
    refine SeqAt.RcNeAt.lists_lengths pl1.isList pl2.isList (by simp only [List.size_toArray, bne_iff_ne, ne_eq]; omega) hu X.prog X.w X.xe (EP X pins σ Q) ⟨.bl _, H, I, rfl, q⟩
  ·exact h.elim
 ·exact Uy pins s σ H _ _ v u Q I rx ry h
def inq (neg : Bool) (o : Option HO) (x : V) (H : Hp) (Q : VK) : Prop := match o with
 | some (.lst xs) => dN x = true ∧ xs.all dN = true ∧ Q (.bl (if neg then !inV x xs else inV x xs)) H
 | some (.tup xs) => dN x = true ∧ xs.all dN = true ∧ Q (.bl (if neg then !inV x xs else inV x xs)) H
 | _ => False
def GQ (neg : Bool) : R2 := fun x y H Q => match y with
 | .ref p => inq neg (H p) x H Q
 | _ => False
theorem Rf (neg : Bool) (x : V) (p : Addr) (H : Hp) (Q : VK) : GQ neg x (.ref p) H Q = inq neg (H p) x H Q := rfl
theorem U5 (neg : Bool) (x : V) (xs : List V) (H : Hp) (Q : VK) : inq neg (some (.lst xs)) x H Q = (dN x = true ∧ xs.all dN = true ∧ Q (.bl (if neg then !inV x xs else inV x xs)) H) := rfl
theorem U4 (neg : Bool) (x : V) (xs : List V) (H : Hp) (Q : VK) : inq neg (some (.tup xs)) x H Q = (dN x = true ∧ xs.all dN = true ∧ Q (.bl (if neg then !inV x xs else inV x xs)) H) := rfl
theorem Ja {neg : Bool} {o : Option HO} {x : V} {H : Hp} {Q : VK} {p : Addr} {K : PySem.W.Frag} (e : H p = o) (h : inq neg o x H Q) : rIn K neg x (.ref p) H Q := by
 unfold inq at h
 split at h
 ·rename_i xs
  exact ⟨p, xs, rfl, .inl (SqL.of e), h.1, h.2.1, h.2.2⟩
 ·rename_i xs
  exact ⟨p, xs, rfl, .inr (SqT.of e), h.1, h.2.1, h.2.2⟩
 ·exact h.elim
theorem RT : OpR X (compareOp .In) (GQ false) := by
 intro pins s σ H x y v u Q I rx ry h
 unfold GQ at h
 split at h
 ·exact CZ pins s σ H _ _ v u Q I rx ry (Ja rfl h)
 ·exact h.elim
theorem CV : OpR X (compareOp .NotIn) (GQ true) := by
 intro pins s σ H x y v u Q I rx ry h
 unfold GQ at h
 split at h
 ·exact vK pins s σ H _ _ v u Q I rx ry (Ja rfl h)
 ·exact h.elim
end
theorem JR {α : Type} (a b : α) : atI [a, b] (-1) = some b := rfl
theorem JQ {α : Type} (a b c : α) : atI [a, b, c] (-1) = some c := rfl
structure bB (H : Hp) (p : Addr) (B : Int) : Prop where
 ex : ∃ a b c : Int, H p = some (.lst [.int a, .int b, .int c]) ∧ 0 ≤ a ∧ 0 ≤ b ∧ b < 2147483629 ∧ 0 ≤ c ∧ c ≤ B
theorem bB.same {H H' : Hp} {p : Addr} {B : Int} (h : bB H p B) (s : Same H H') : bB H' p B := by
 obtain ⟨a, b, c, e, r⟩ := h
 exact ⟨a, b, c, s _ _ e, r⟩
theorem bB.le {H : Hp} {p : Addr} {B B' : Int} (h : bB H p B) (l : B ≤ B') : bB H p B' := by
 obtain ⟨a, b, c, e, r1, r2, r3, r4, r5⟩ := h
 exact ⟨a, b, c, e, r1, r2, r3, r4, by omega⟩
theorem bB.ne {H : Hp} {p q : Addr} {B : Int} (h : bB H p B) (n : H q = none) : q ≠ p := by
 obtain ⟨a, b, c, e, _⟩ := h
 exact (aK e n).symm
theorem bB.net {H : Hp} {p q : Addr} {B : Int} {xs : List V} (h : bB H p B) (n : H q = some (.tup xs)) : q ≠ p := by
 obtain ⟨a, b, c, e, _⟩ := h
 intro z
 rw [z, e] at n
 cases n
theorem two_pow_pos (k : Nat) : (0 : Int) < 2 ^ k := Int.pow_pos (by decide)
def FW (K : PySem.W.Frag) : Sp := fun vs H Q _ => ∃ (a : Addr) (ns : List Int) (k : Int), vs = [.ref a, .int k] ∧ SqL K H a (ns.map V.int) ∧ 0 ≤ k ∧ ∀ v : Int, Q (.int v) H
def FN (K : PySem.W.Frag) : Sp := fun vs H Q _ => ∃ (a : Addr) (ns : List Int) (k : Int), vs = [.ref a, .int k] ∧ SqL K H a (ns.map V.int) ∧ 0 ≤ k ∧ k ≤ 100 ∧ ∀ p H', H p = none → Same H H' → bB H' p 0 → Q (.ref p) H'
def d9 (n : Nat) : Sp := fun vs H Q _ => ∃ (p : Addr) (m B : Int), vs = [.ref p, .int m] ∧ bB H p B ∧ B + (n : Int) ≤ 1000100 ∧ 0 < m ∧ m < 2 ^ 70 ∧ 1 ≤ n ∧ (1000000 ≤ m → 2 ≤ n) ∧
 ∀ r H', 0 ≤ r → r < m → cT p H H' → bB H' p (B + n) → Q (.int r) H'
theorem Rr (c : Int) : ∃ v : Int, atI [V.int 2147483587, V.int 2147483579, V.int 2147483563, V.int 2147483549, V.int 2147483543, V.int 2147483497, V.int 2147483489] (c % 7) = some (.int v) ∧ 0 < v := by
 have h1 : 0 ≤ c % 7 := Int.emod_nonneg _ (by decide)
 have h2 : c % 7 < 7 := Int.emod_lt_of_pos _ (by decide)
 generalize c % 7 = d at h1 h2
 have h3 : d = 0 ∨ d = 1 ∨ d = 2 ∨ d = 3 ∨ d = 4 ∨ d = 5 ∨ d = 6 := by omega
 rcases h3 with rfl | rfl | rfl | rfl | rfl | rfl | rfl
 ·exact ⟨_, d7 (j := 0) rfl, by decide⟩
 ·exact ⟨_, d7 (j := 1) rfl, by decide⟩
 ·exact ⟨_, d7 (j := 2) rfl, by decide⟩
 ·exact ⟨_, d7 (j := 3) rfl, by decide⟩
 ·exact ⟨_, d7 (j := 4) rfl, by decide⟩
 ·exact ⟨_, d7 (j := 5) rfl, by decide⟩
 ·exact ⟨_, d7 (j := 6) rfl, by decide⟩
def wl (w s : Int) : Int := 0 - 2 ^ (w - 1).toNat * s
theorem oX {w : Int} (h : 1 ≤ w) : (2 : Int) ^ w.toNat = 2 * 2 ^ (w - 1).toNat := by
 have e : w.toNat = (w - 1).toNat + 1 := by omega
 rw [e, Int.pow_succ]
 omega
theorem nY {w s : Int} (h1 : 1 ≤ w) (h2 : w ≤ 40) (hs : s = 0 ∨ s = 1) : -1099511627776 ≤ wl w s ∧ wl w s ≤ 0 ∧ 0 < wl w s + 2 ^ w.toNat ∧ wl w s + 2 ^ w.toNat ≤ 1099511627776 := by
 have e := oX h1
 have p := two_pow_pos (w - 1).toNat
 have q := iY (k := w.toNat) (by omega)
 unfold wl
 rcases hs with rfl | rfl
 ·simp only [Int.mul_zero, Int.sub_zero, Int.zero_add]
  omega
 ·simp only [Int.mul_one]
  omega
def qH : Sp := fun vs H Q _ => ∃ w s, vs = [.int w, .int s] ∧ 1 ≤ w ∧ w ≤ 40 ∧ (s = 0 ∨ s = 1) ∧ Q (.int (wl w s)) H
def FQ : Sp := fun vs H Q _ => ∃ (p : Addr) (B : Int), vs = [.ref p] ∧ bB H p B ∧ 0 ≤ B ∧ B ≤ 1000050 ∧
 ∀ (w s : Int) (t : Addr) H', 1 ≤ w → w ≤ 40 → (s = 0 ∨ s = 1) → cT p H H' → bB H' p (B + 10) → H' t = some (.tup [.int w, .int s]) → Q (.ref t) H'
def Pa : Sp := fun vs H Q _ => ∃ (p : Addr) (w s o B : Int), vs = [.ref p, .int w, .int s, .int o] ∧ bB H p B ∧ 0 ≤ B ∧ B ≤ 1000050 ∧ 1 ≤ w ∧ w ≤ 40 ∧ (s = 0 ∨ s = 1) ∧
 ∀ (r : Int) H', wl w s ≤ r → r < wl w s + 2 ^ w.toNat → cT p H H' → bB H' p (B + 10) → Q (.int r) H'
theorem Og {a b : V} {P : V → V → Prop} : (∃ v w, (a = v ∧ b = w) ∧ P v w) = P a b := propext ⟨fun ⟨_, _, ⟨h1, h2⟩, h⟩ => h1 ▸ h2 ▸ h, fun h => ⟨a, b, ⟨rfl, rfl⟩, h⟩⟩
theorem sS (a b : Nat) : Builtin.bitAnd (a : Int) (b : Int) = ((a &&& b : Nat) : Int) := by
 unfold Builtin.bitAnd
 simp
def isFree (m k : Nat) : Bool := !m.testBit k && (List.range k).any fun j => m.testBit j
def frees (n m : Nat) : List Nat := (List.range n).filter (isFree m)
def unset (n b m : Nat) : Nat := ((List.range n).filter fun k => decide (b ≤ k) && !m.testBit k).length
theorem iT {α : Type} (p q : α → Bool) : ∀ l : List α, (∀ x ∈ l, p x = true → q x = true) → (l.filter p).length ≤ (l.filter q).length
 | [], _ => Nat.le_refl _
 | x :: l, h => by
  have ih := iT p q l fun y hy => h y (List.mem_cons_of_mem _ hy)
  have hx := h x List.mem_cons_self
  rw [List.filter_cons, List.filter_cons]
  cases hp : p x with
  | true =>
   rw [hx hp]
   simp only [if_true, List.length_cons]
   omega
  | false =>
   simp only [Bool.false_eq_true, if_false]
   split
   ·rw [List.length_cons]; omega
   ·exact ih
theorem Jk {n b m : Nat} (h : ∀ k, k < b → m.testBit k = false) : (frees n m).length ≤ unset n b m := by
 refine iT _ _ _ fun k hk hf => ?_
 unfold isFree at hf
 rw [Bool.and_eq_true, List.any_eq_true] at hf
 obtain ⟨h1, j, hj, hb⟩ := hf
 have hj' := List.mem_range.mp hj
 have : b ≤ j := by
  rcases Nat.lt_or_ge j b with z | z
  ·rw [h j z] at hb; cases hb
  ·exact z
 rw [h1, Bool.and_true]
 exact decide_eq_true (by omega)
theorem Es (n b m : Nat) : unset n b m ≤ n - b := by
 have key : ∀ n, ((List.range n).filter fun k => decide (b ≤ k)).length ≤ n - b := by
  intro n
  induction n with
  | zero => exact Nat.zero_le _
  | succ n ih =>
   rw [List.range_succ, List.filter_append, List.length_append]
   by_cases h : b ≤ n
   ·simp only [List.filter_cons, h, decide_true, if_true, List.filter_nil, List.length_singleton]
    omega
   ·simp only [List.filter_cons, h, decide_false, Bool.false_eq_true, if_false, List.filter_nil, List.length_nil]
    omega
 refine Nat.le_trans (iT _ _ _ fun k hk hf => ?_) (key n)
 rw [Bool.and_eq_true] at hf
 exact hf.1
theorem qw {n b m : Nat} (h : ∀ k, b ≤ k → k < n → m.testBit k = true) : unset n b m = 0 := by
 unfold unset
 rw [List.length_eq_zero_iff, List.filter_eq_nil_iff]
 intro k hk
 have hk' := List.mem_range.mp hk
 by_cases hb : b ≤ k
 ·simp [h k hb hk']
 ·simp [hb]
theorem yC {n b m m' j : Nat} (h : ∀ k, m'.testBit k = (m.testBit k && !decide (k = j))) : unset n b m' ≤ unset n b m + 1 := by
 unfold unset
 induction n with
 | zero => exact Nat.zero_le _
 | succ n ih =>
  have one : ∀ (p : Nat → Bool), ((List.range (n + 1)).filter p).length = ((List.range n).filter p).length + if p n then 1 else 0 := by
   intro p
   rw [List.range_succ, List.filter_append, List.length_append]
   cases hp : p n <;> simp [hp]
  rw [one, one]
  by_cases hj : n = j
  ·subst hj
   have same : ((List.range n).filter fun k => decide (b ≤ k) && !m'.testBit k).length = ((List.range n).filter fun k => decide (b ≤ k) && !m.testBit k).length := by
    have : (List.range n).filter (fun k => decide (b ≤ k) && !m'.testBit k) = (List.range n).filter fun k => decide (b ≤ k) && !m.testBit k := by
     refine List.filter_congr fun k hk => ?_
     have hk' := List.mem_range.mp hk
     rw [h k]
     have : decide (k = n) = false := decide_eq_false (by omega)
     rw [this, Bool.not_false, Bool.and_true]
    rw [this]
   rw [same]
   split <;> split <;> omega
  ·rw [h n]
   have : decide (n = j) = false := decide_eq_false hj
   rw [this, Bool.not_false, Bool.and_true]
   omega
theorem J9 {m j : Nat} (h : m.testBit j = true) : ∀ k, (m - 2 ^ j).testBit k = (m.testBit k && !decide (k = j)) := by
 intro k
 have p : 0 < 2 ^ j := Nat.pow_pos (by decide)
 have hd : m / 2 ^ j % 2 = 1 := by
  rw [Nat.testBit_eq_decide_div_mod_eq] at h
  exact of_decide_eq_true h
 -- m = 2^j * (2 * a + 1) + lo
 have e0 := Nat.div_add_mod m (2 ^ j)
 have e1 : m / 2 ^ j = 2 * (m / 2 ^ j / 2) + 1 := by omega
 generalize m / 2 ^ j / 2 = a at e1
 have lo := Nat.mod_lt m p
 generalize m % 2 ^ j = l at e0 lo
 rw [e1] at e0
 have e2 : m - 2 ^ j = 2 ^ j * (2 * a) + l := by
  rw [← e0, Nat.mul_add, Nat.mul_one]
  omega
 rw [e2, ← e0, Nat.testBit_two_pow_mul_add _ lo, Nat.testBit_two_pow_mul_add _ lo]
 by_cases hk : k < j
 ·have : decide (k = j) = false := decide_eq_false (by omega)
  rw [if_pos hk, if_pos hk, this, Bool.not_false, Bool.and_true]
 ·rw [if_neg hk, if_neg hk]
  by_cases hkj : k = j
  ·subst hkj
   simp
  ·have : decide (k = j) = false := decide_eq_false hkj
   rw [this, Bool.not_false, Bool.and_true]
   obtain ⟨d, hd⟩ : ∃ d, k - j = d + 1 := ⟨k - j - 1, by omega⟩
   rw [hd, Nat.testBit_succ, Nat.testBit_succ]
   congr 1
   omega
theorem OJ (m j : Nat) : m &&& 2 ^ j = if m.testBit j then 2 ^ j else 0 := by
 refine Nat.eq_of_testBit_eq fun k => ?_
 rw [Nat.testBit_and, Nat.testBit_two_pow]
 by_cases hk : j = k
 ·subst hk
  cases h : m.testBit j
  ·simp
  ·simp [Nat.testBit_two_pow]
 ·have : decide (j = k) = false := decide_eq_false hk
  rw [this, Bool.and_false]
  split
  ·rw [Nat.testBit_two_pow, this]
  ·rw [Nat.zero_testBit]
theorem Ij (m j : Nat) : ∃ m' : Nat, (m : Int) - Builtin.bitAnd (m : Int) ((2 : Int) ^ j) = (m' : Int) ∧ m' ≤ m ∧ ∀ k, m'.testBit k = (m.testBit k && !decide (k = j)) := by
 have e : ((2 : Int) ^ j) = ((2 ^ j : Nat) : Int) := by simp
 rw [e, sS, OJ]
 cases h : m.testBit j with
 | true =>
  have hle : 2 ^ j ≤ m := Nat.ge_two_pow_of_testBit h
  refine ⟨m - 2 ^ j, ?_, Nat.sub_le _ _, J9 h⟩
  simp only [if_true]
  omega
 | false =>
  refine ⟨m, by simp, Nat.le_refl _, fun k => ?_⟩
  by_cases hk : k = j
  ·subst hk
   simp [h]
  ·simp [hk]
def qg (W b m i : Nat) : Prop := m < 2 ^ W ∧ (∀ k, k < b → m.testBit k = false) ∧ unset W b m ≤ i
theorem qg.frees {W b m i : Nat} (h : qg W b m i) : (frees W m).length ≤ i := Nat.le_trans (Jk h.2.1) h.2.2
theorem jj (k : Nat) : (2 : Int) ^ k = ((2 ^ k : Nat) : Int) := by simp
theorem Il {n k : Nat} (h : (n : Int) < 2 ^ k) : n < 2 ^ k := by
 rw [jj] at h
 omega
theorem R8 {W T : Nat} (h : T ≤ W) : ∃ m : Nat, ((2 : Int) ^ T - 1) * 2 ^ (W - T) = (m : Int) ∧ qg W (W - T) m 0 := by
 have p := Nat.pow_pos (n := T) (show 0 < 2 by decide)
 have tb : ∀ k, ((2 ^ T - 1) * 2 ^ (W - T)).testBit k = (decide (W - T ≤ k) && decide (k - (W - T) < T)) := fun k => by
  rw [Nat.testBit_mul_two_pow, Nat.testBit_two_pow_sub_one]
 refine ⟨(2 ^ T - 1) * 2 ^ (W - T), ?_, ?_, fun k hk => ?_, ?_⟩
 ·rw [jj, jj, Int.natCast_mul, Int.natCast_sub p]
  rfl
 ·have e : 2 ^ W = 2 ^ T * 2 ^ (W - T) := by rw [← Nat.pow_add, Nat.add_sub_cancel' h]
  rw [e]
  exact Nat.mul_lt_mul_of_pos_right (by omega) (Nat.pow_pos (by decide))
 ·rw [tb, decide_eq_false (by omega), Bool.false_and]
 ·rw [qw fun k h1 h2 => by rw [tb, decide_eq_true h1, decide_eq_true (show k - (W - T) < T by omega)]; rfl]
  exact Nat.le_refl _
theorem Sd (W : Nat) : ∃ m : Nat, (2 : Int) ^ W - 1 = (m : Int) ∧ qg W 0 m 0 := by
 have p := Nat.pow_pos (n := W) (show 0 < 2 by decide)
 refine ⟨2 ^ W - 1, ?_, by omega, fun k hk => by omega, ?_⟩
 ·rw [jj]
  omega
 ·rw [qw fun k h1 h2 => by rw [Nat.testBit_two_pow_sub_one, decide_eq_true h2]]
  exact Nat.le_refl _
theorem Ni {W r : Nat} (h : 4 ≤ W) (hr : r < 16) : ∃ m : Nat, (r : Int) * 2 ^ (W - 4) = (m : Int) ∧ qg W (W - 4) m 4 := by
 refine ⟨r * 2 ^ (W - 4), ?_, ?_, fun k hk => ?_, ?_⟩
 ·rw [jj, Int.natCast_mul]
 ·have e : 2 ^ W = 16 * 2 ^ (W - 4) := by rw [show 16 = 2 ^ 4 from rfl, ← Nat.pow_add, Nat.add_sub_cancel' h]
  rw [e]
  exact Nat.mul_lt_mul_of_pos_right hr (Nat.pow_pos (by decide))
 ·rw [Nat.testBit_mul_two_pow, decide_eq_false (by omega), Bool.false_and]
 ·have := Es W (W - 4) (r * 2 ^ (W - 4))
  omega
theorem R9 {W b m i : Nat} (h : qg W b m i) (j : Nat) : ∃ m' : Nat, (m : Int) - Builtin.bitAnd (m : Int) ((2 : Int) ^ j) = (m' : Int) ∧ qg W b m' (i + 1) := by
 obtain ⟨m', e, l, tb⟩ := Ij m j
 refine ⟨m', e, Nat.lt_of_le_of_lt l h.1, fun k hk => ?_, ?_⟩
 ·rw [tb, h.2.1 k hk, Bool.false_and]
 ·exact Nat.le_trans (yC tb) (Nat.succ_le_succ h.2.2)
theorem qg.le {W b m i j : Nat} (h : qg W b m i) (l : i ≤ j) : qg W b m j := ⟨h.1, h.2.1, Nat.le_trans h.2.2 l⟩
inductive It1 where
 | one (a : Int)
 | rng (a b : Int)
 | bits (m v : Nat)
def itV : It1 → List V
 | .one a => [.str "is", .int a]
 | .rng a b => [.str "from", .int a, .int b]
 | .bits m v => [.str "bits", .int m, .int v]
theorem Bp (a : Int) : itV (.one a) = [.str "is", .int a] := rfl
theorem Bo (a b : Int) : itV (.rng a b) = [.str "from", .int a, .int b] := rfl
theorem xY (m v : Nat) : itV (.bits m v) = [.str "bits", .int m, .int v] := rfl
structure lq (H : Hp) (t : Addr) (it : It1) : Prop where
 h : H t = some (.tup (itV it))
def fX (w s a : Int) : Prop := wl w s ≤ a ∧ a < wl w s + 2 ^ w.toNat
def It1.Ok (w s : Int) : It1 → Prop
 | .one a => fX w s a
 | .rng a b => fX w s a ∧ fX w s b ∧ a ≤ b
 | .bits m v => m < 2 ^ w.toNat ∧ v < 2 ^ w.toNat ∧ (9 ≤ w → (frees w.toNat m).length ≤ 4)
def Ru (w : Int) (n : Int) : It1 → Bool
 | .one a => decide (n = a)
 | .rng a b => decide (a ≤ n) && decide (n ≤ b)
 | .bits m v => decide ((n % 2 ^ w.toNat).toNat &&& m = v)
def FP : Sp := fun vs H Q _ => ∃ (p : Addr) (w B : Int), vs = [.ref p, .int w] ∧ bB H p B ∧ 0 ≤ B ∧ B ≤ 1000050 ∧ 1 ≤ w ∧ w ≤ 40 ∧
 ∀ (m : Nat) H', m < 2 ^ w.toNat → (9 ≤ w → (frees w.toNat m).length ≤ 4) → cT p H H' → bB H' p (B + 20) → Q (.int m) H'
def FT : Sp := fun vs H Q _ => ∃ (p : Addr) (w s o B : Int), vs = [.ref p, .int w, .int s, .int o] ∧ bB H p B ∧ 0 ≤ B ∧ B ≤ 1000000 ∧ 1 ≤ w ∧ w ≤ 40 ∧ (s = 0 ∨ s = 1) ∧
 ∀ (it : It1) (t : Addr) H', It1.Ok w s it → cT p H H' → bB H' p (B + 60) → lq H' t it → Q (.ref t) H'
section
variable {mp : List (Option Nat)} {g : TG} {tc : TT} {te : TE} {σ : St} {H : Hp} {Q : VK} {R : It → Hp → Prop} {K : PySem.W.Frag}
theorem rY {a : Addr} {xs : List V} (hR : R = wG mp g tc te σ Q) (hz : xs.length ≤ sizeLine) (Pv : Nat → List V → St → Hp → Prop) (h0 : Pv 0 [] (iU mp σ) H) (hl : ∀ i acc τ H, Pv i acc τ H → acc.length ≤ i)
  (hq : ∀ i acc τ H, Pv i acc τ H → SqL K H a xs)
  (hs : ∀ i x acc τ H, xs[i]? = some x → Pv i acc τ H → g x τ H fun τ1 H4 => tc τ1 H4 fun b H5 => if b = true then te τ1 H5 fun v H6 => Pv (i + 1) (acc ++ [v]) τ1 H6 else Pv (i + 1) acc τ1 H5)
  (hd : ∀ acc τ H d, Pv xs.length acc τ H → H d = none → Q (.ref d) (upd H d (.lst acc))) : R (Itl K a) H := by
 refine nO hR xs.length hz Pv h0 hl (fun i acc τ H hi p => ⟨xs, xs[i], hq i acc τ H p, List.getElem?_eq_getElem hi⟩) (fun acc τ H p => ⟨xs, hq _ acc τ H p, Nat.le_refl _⟩) (fun i acc τ H x H3 hi p y => ?_) hd
 obtain ⟨rfl, hx⟩ := y
 exact hs i x acc τ _ (hx xs (hq i acc τ _ p)) p
end
section
variable {X : Cx} {pos : Pos}
def Fl (i j k : Nat) (ta : TA) : TS := fun D σ H => ta σ H fun vs H1 => ∃ u v w, vs = [u, v, w] ∧ D.nx (((σ.set i (some u)).set j (some v)).set k (some w)) H1
theorem Ma {i j k : Nat} {x y z : Str} {a b c : Expr} {ta : TA} {px py pz pt : Pos} {kt k2 pt2} (hc : X.calm = true) (hN : X.N.Nodup) (hi : X.N[i]? = some x) (hj : X.N[j]? = some y) (hk : X.N[k]? = some z) (hij : i ≠ j) (hik : i ≠ k) (hjk : j ≠ k)
  (hx : X.env.scope.names.lookup x = some .local) (hy : X.env.scope.names.lookup y = some .local) (hz : X.env.scope.names.lookup z = some .local) (ha : PA X [a, b, c] ta)
  (hw : swappedStores [.Tuple [.Name x px, .Name y py, .Name z pz] kt pt] (.Tuple [a, b, c] k2 pt2) X.env = pure (some [x, y, z]))
  (hs : swapsWithSole [.Tuple [.Name x px, .Name y py, .Name z pz] kt pt] (.Tuple [a, b, c] k2 pt2) pos.line X.env = pure false := by rfl) :
  PS X (.Assign [.Tuple [.Name x px, .Name y py, .Name z pz] kt pt] (.Tuple [a, b, c] k2 pt2) pos) (Fl i j k ta) := by
 intro pins s σ H D I h
 rw [exec_Assign_arm]
 refine wpAny_bind (wpAny_standAt ?_)
 rw [hs]
 refine wpAny_bind (wpAny_pure ?_)
 rw [if_neg (by decide)]
 refine wpAny_bind (Tuple_ (thA (ha _ pins s σ H _ I h) fun us s1 vs H1 I1 r1 q1 => ?_))
 obtain ⟨u, v, w, e1, q1⟩ := q1
 subst e1
 obtain ⟨u1, u2, u3, rfl, ru, rv, rw'⟩ : ∃ u1 u2 u3, us = [u1, u2, u3] ∧ RelV u u1 ∧ RelV v u2 ∧ RelV w u3 := by
  cases r1 with
  | cons p q =>
   cases q with
   | cons p' q' =>
    cases q' with
    | cons p'' q'' =>
     cases q''
     exact ⟨_, _, _, rfl, p, p', p''⟩
 refine wpAny_newObj_type ?_ (by show 3 ≤ sizeLine; decide)
 have I2 : Inv X pins σ H1 { s1 with heap := s1.heap.push { cls := .type "tuple", data := .seq [u1, u2, u3].toArray } } := I1.kept (t' := s1.toks) fun b o e => Heap.get?_push_of_some _ e
 rw [hw]
 refine wpAny_bind (wpAny_pure ?_)
 show wpAny (model X.prog X.w) X.A (do rule "assign.swapped-stores"; let items ← unpackItems (.ref s1.heap.objs.size) 3 none; assignInOrder [fun v => bindName X.env z v, fun v => bindName X.env y v, fun v => bindName X.env x v] items.reverse; pure Flow.next) _ _ _
 refine wpAny_bind (wpAny_rule (wpAny_bind (unpackItems_tuple (items := #[u1, u2, u3]) (I.ok.hd hc) (IsTup.new s1.heap _) fun h' hx' => ?_)))
 have I3 := I2.kept (h' := h') (t' := s1.toks) fun b o e => hx' b o (Nat.ne_of_lt (Heap.lt_size e)) e
 show wpAny _ _ (assignInOrder [fun v => bindName X.env z v, fun v => bindName X.env y v, fun v => bindName X.env x v] [u3, u2, u1] >>= fun _ => pure Flow.next) _ _ _
 refine wpAny_bind (assignInOrder_cons (wpAny_bindName (gB I3 hN hk (.inl hz) rw' (fun s2 I4 => ?_) (.inr hz))))
 refine assignInOrder_cons (wpAny_bindName (gB I4 hN hj (.inl hy) rv (fun s3 I5 => ?_) (.inr hy)))
 refine assignInOrder_cons (wpAny_bindName (gB I5 hN hi (.inl hx) ru (fun s4 I6 => ?_) (.inr hx)))
 refine assignInOrder_nil (wpAny_pure ⟨_, H1, ?_, q1⟩)
 have e : ((σ.set k (some w)).set j (some v)).set i (some u) = ((σ.set i (some u)).set j (some v)).set k (some w) := by
  rw [List.set_comm (some v) (some u) (Ne.symm hij), List.set_comm (some w) (some u) (Ne.symm hik), List.set_comm (some w) (some v) (Ne.symm hjk)]
 rw [← e]
 exact I6
theorem Lq {i j k : Nat} {x y z : Str} {a b c : Expr} {ta : TA} {px py pz pt : Pos} {kt k2 pt2} (hc : X.calm = true) (hN : X.N.Nodup) (hi : X.N[i]? = some x) (hj : X.N[j]? = some y) (hk : X.N[k]? = some z) (hij : i ≠ j) (hik : i ≠ k) (hjk : j ≠ k)
  (hx : X.env.scope.names.lookup x = some .local) (hy : X.env.scope.names.lookup y = some .local) (hz : X.env.scope.names.lookup z = some .local) (ha : QA X [a, b, c] ta)
  (hw : swappedStores [.Tuple [.Name x px, .Name y py, .Name z pz] kt pt] (.Tuple [a, b, c] k2 pt2) X.env = pure (some [x, y, z]))
  (hs : swapsWithSole [.Tuple [.Name x px, .Name y py, .Name z pz] kt pt] (.Tuple [a, b, c] k2 pt2) pos.line X.env = pure false := by rfl) :
  QS X (.Assign [.Tuple [.Name x px, .Name y py, .Name z pz] kt pt] (.Tuple [a, b, c] k2 pt2) pos) (Fl i j k ta) := ⟨Ma hc hN hi hj hk hij hik hjk hx hy hz ha.h hw hs⟩
end
theorem N8 (g : TG) (gs : TGs) (x : V) (xs : List V) (σ : St) (H : Hp) (Q : St → Hp → Prop) : Jj g gs (x :: xs) σ H Q = g x σ H fun σ1 H1 => gs xs σ1 H1 Q :=
 propext ⟨fun ⟨_, _, e, h⟩ => by cases e; exact h, fun h => ⟨x, xs, rfl, h⟩⟩
theorem Td (σ : St) (H : Hp) (Q : St → Hp → Prop) : Te [] σ H Q = Q σ H := propext ⟨fun h => h.2, fun h => ⟨rfl, h⟩⟩
theorem Jp {a b : Int} {P : Int → Int → Prop} : (∃ v w, (a = v ∧ b = w) ∧ P v w) = P a b := propext ⟨fun ⟨_, _, ⟨h1, h2⟩, h⟩ => h1 ▸ h2 ▸ h, fun h => ⟨a, b, ⟨rfl, rfl⟩, h⟩⟩
theorem Oe {a b c : V} {P : V → V → V → Prop} : (∃ u v w, (a = u ∧ b = v ∧ c = w) ∧ P u v w) = P a b c := propext ⟨fun ⟨_, _, _, ⟨h1, h2, h3⟩, h⟩ => h1 ▸ h2 ▸ h3 ▸ h, fun h => ⟨a, b, c, ⟨rfl, rfl, rfl⟩, h⟩⟩
theorem yK : ((("from" : Str) : Str) = ("is" : Str)) = False := eq_false (by decide +kernel)
theorem yL : (("bits" : Str) = ("is" : Str)) = False := eq_false (by decide +kernel)
theorem u5 : (("bits" : Str) = ("from" : Str)) = False := eq_false (by decide +kernel)
theorem yI : (("is" : Str) = ("from" : Str)) = False := eq_false (by decide +kernel)
theorem yJ : (("is" : Str) = ("bits" : Str)) = False := eq_false (by decide +kernel)
theorem mU : (("from" : Str) = ("bits" : Str)) = False := eq_false (by decide +kernel)
theorem Ky {p : Addr} {H H' : Hp} (h : cT p H H') (e : H p = none) : Same H H' := fun b o hb => h b o (aK hb e) hb
section
variable {X : Cx} {e o : Expr} {te to : TE} {pos : Pos}
def apq (ob : Option HO) (l : Addr) (y : V) (H : Hp) (Q : VK) : Prop := match ob with
 | some (.lst xs) => xs.length < sizeLine ∧ Q .non (upd H l (.lst (xs ++ [y])))
 | _ => False
def isq (ob : Option HO) : Prop := match ob with
 | some (.lst _) => True
 | _ => False
theorem NK (xs : List V) : isq (some (.lst xs)) = True := rfl
theorem nT (xs : List V) (l : Addr) (y : V) (H : Hp) (Q : VK) : apq (some (.lst xs)) l y H Q = (xs.length < sizeLine ∧ Q .non (upd H l (.lst (xs ++ [y])))) := rfl
def Tt (x : V) (te : TE) (σ : St) (H1 : Hp) (Q : VK) : Prop := match x with
 | .ref l => isq (H1 l) ∧ te σ H1 fun y H2 => apq (H2 l) l y H2 Q
 | _ => False
def Fw (to te : TE) : TE := fun σ H Q => to σ H fun x H1 => Tt x te σ H1 Q
theorem Fv (to te : TE) (σ : St) (H : Hp) (Q : VK) : Fw to te σ H Q = to σ H fun x H1 => Tt x te σ H1 Q := rfl
theorem JT (l : Addr) (te : TE) (σ : St) (H1 : Hp) (Q : VK) : Tt (.ref l) te σ H1 Q = (isq (H1 l) ∧ te σ H1 fun y H2 => apq (H2 l) l y H2 Q) := rfl
theorem MN {apos cpos : Pos} (ho : PE X o to) (he : PE X e te)
  (hbase : attributeBase o "append" X.env (eval o X.env) = eval o X.env := by rfl)
  (hfew : ((backTo cpos (starEach [e] X.env)).all (fun x => !x.1) && (backToKw cpos (keywordEach [] X.env)).all (fun x => x.1.isSome)
   && decide ([e].length + ([] : List Keyword).length + (if ([] : List Keyword).isEmpty then 0 else 1) < 30)) = true := by rfl)
  (hline : (apos.endLine == cpos.line) = true := by rfl) (hs : starEach [e] X.env = (false, eval e X.env) :: starEach [] X.env := by rfl) (hplain : (backTo cpos (starEach [] X.env)).any (·.1) = false := by rfl) :
  PE X (.Call (.Attribute o "append" apos) [e] [] cpos) (Fw to te) := by
 intro pins s σ H Q I h
 refine wpAny_Call_method_late hbase hfew hline rfl (thE (ho pins s σ H _ I h) fun v s1 x H1 I1 r1 q => ?_)
 cases x with
 | ref l =>
  obtain ⟨q1, q2⟩ := q
  cases el : H1 l with
  | none => rw [el] at q1; exact q1.elim
  | some ob =>
   cases ob with
   | lst xs =>
    obtain ⟨h1, h2⟩ := Et (T := "list") I1 r1 (.inl ⟨rfl, xs, SqL.of el⟩)
    refine ⟨"list", "list.append", PySem.F.plainAttrs_list, PySem.F.slot_list_append, PySem.F.type_list_append, h1, h2, ?_⟩
    rw [hs]
    refine Calls.callWith_builtin (by show (false || (backTo cpos (starEach [] X.env)).any (·.1)) = false; rw [hplain] <;> rfl) (Calls.evalArgs_plain ?_)
    refine Calls.spliced_cons (thE (he pins s1 σ H1 _ I1 q2) fun u s2 y H2 I2 r2 q3 => Calls.spliced_nil ?_)
    replace q3 : apq (H2 l) l y H2 Q := q3
    cases el2 : H2 l with
    | none => rw [el2] at q3; exact q3.elim
    | some ob2 =>
     cases ob2 with
     | lst ys =>
      rw [el2] at q3
      exact Dr pins s2 σ H2 (.ref l) [y] v [u] Q I2 r1 (.cons r2 .nil) ⟨l, ys, y, rfl, rfl, el2, q3.1, q3.2⟩
     | _ => rw [el2] at q3; exact q3.elim
   | _ => rw [el] at q1; exact q1.elim
 | _ => exact q.elim
theorem ju {apos cpos : Pos} (ho : QE X o to) (he : QE X e te)
  (hbase : attributeBase o "append" X.env (eval o X.env) = eval o X.env := by rfl)
  (hfew : ((backTo cpos (starEach [e] X.env)).all (fun x => !x.1) && (backToKw cpos (keywordEach [] X.env)).all (fun x => x.1.isSome)
   && decide ([e].length + ([] : List Keyword).length + (if ([] : List Keyword).isEmpty then 0 else 1) < 30)) = true := by rfl)
  (hline : (apos.endLine == cpos.line) = true := by rfl) (hs : starEach [e] X.env = (false, eval e X.env) :: starEach [] X.env := by rfl) (hplain : (backTo cpos (starEach [] X.env)).any (·.1) = false := by rfl) :
  QE X (.Call (.Attribute o "append" apos) [e] [] cpos) (Fw to te) := ⟨MN ho.h he.h hbase hfew hline hs hplain⟩
def slq (ob : Option HO) (lo hi : Option Int) (H : Hp) (Q : VK) : Prop := match ob with
 | some (.lst xs) => ∀ p, H p = none → Q (.ref p) (upd H p (.lst (jK xs lo hi)))
 | some (.tup xs) => ¬ (HT.sIx xs.length 0 lo = 0 ∧ HT.sIx xs.length xs.length hi = xs.length) ∧ ∀ p, H p = none → Q (.ref p) (upd H p (.tup (jK xs lo hi)))
 | _ => False
def KJ : V → Option Int → Option Int → Hp → VK → Prop := fun x lo hi H Q => match x with
 | .ref p => slq (H p) lo hi H Q
 | _ => False
theorem Gk (p : Addr) (lo hi : Option Int) (H : Hp) (Q : VK) : KJ (.ref p) lo hi H Q = slq (H p) lo hi H Q := rfl
theorem Kf (xs : List V) (lo hi : Option Int) (H : Hp) (Q : VK) : slq (some (.lst xs)) lo hi H Q = ∀ p, H p = none → Q (.ref p) (upd H p (.lst (jK xs lo hi))) := rfl
theorem Ke (xs : List V) (lo hi : Option Int) (H : Hp) (Q : VK) : slq (some (.tup xs)) lo hi H Q = (¬ (HT.sIx xs.length 0 lo = 0 ∧ HT.sIx xs.length xs.length hi = xs.length) ∧ ∀ p, H p = none → Q (.ref p) (upd H p (.tup (jK xs lo hi)))) := rfl
theorem FZ : SlR X KJ := by
 intro pins s σ H x v vl vu lo hi sl Q I rx hs pl pu h
 unfold KJ at h
 split at h
 ·rename_i p
  unfold slq at h
  split at h
  ·rename_i xs e
   exact Kg pins s σ H _ v vl vu lo hi sl Q I rx hs pl pu ⟨p, xs, rfl, SqL.of e, h⟩
  ·rename_i xs e
   exact Qy pins s σ H _ v vl vu lo hi sl Q I rx hs pl pu ⟨p, xs, rfl, SqT.of e, h.1, h.2⟩
  ·exact h.elim
 ·exact h.elim
structure QO (X : Cx) (e : Option Expr) (t : TO) : Prop where
 h : PO X e t
theorem lE : QO X none uZ := ⟨Ml⟩
theorem lD (h : QE X e te) : QO X (some e) (Fj te) := ⟨Mj h.h⟩
theorem iW {r : V → Option Int → Option Int → Hp → VK → Prop} {lo hi : Option Expr} {tl th : TO} {p2 : Pos} (hr : SlR X r) (he : QE X e te) (hl : QO X lo tl) (hu : QO X hi th) : QE X (.Subscript e (.Slice lo hi none p2) pos) (tSl r te tl th) := ⟨Hl hr he.h hl.h hu.h⟩
def rpq (ob : Option HO) (k : Int) (H : Hp) (Q : VK) : Prop := match ob with
 | some (.lst xs) => -(2 ^ 63) ≤ k ∧ k < 2 ^ 63 ∧ xs.length * k.toNat ≤ sizeLine ∧ ∀ p, H p = none → Q (.ref p) (upd H p (.lst (List.replicate k.toNat xs).flatten))
 | _ => False
def Ak : R2 := fun x y H Q => match x, y with
 | .ref p, .int k => rpq (H p) k H Q
 | x, y => rI Ep (fun i j => .int (i * j)) x y H Q
theorem KN (p : Addr) (k : Int) (H : Hp) (Q : VK) : Ak (.ref p) (.int k) H Q = rpq (H p) k H Q := rfl
theorem KQ (i j : Int) (H : Hp) (Q : VK) : Ak (.int i) (.int j) H Q = rI Ep (fun i j => .int (i * j)) (.int i) (.int j) H Q := rfl
theorem Kz (xs : List V) (k : Int) (H : Hp) (Q : VK) : rpq (some (.lst xs)) k H Q = (-(2 ^ 63) ≤ k ∧ k < 2 ^ 63 ∧ xs.length * k.toNat ≤ sizeLine ∧ ∀ p, H p = none → Q (.ref p) (upd H p (.lst (List.replicate k.toNat xs).flatten))) := rfl
theorem fM : OpR X (binaryOp .Mult) Ak := by
 intro pins s σ H x y v u Q I rx ry h
 unfold Ak at h
 split at h
 ·rename_i p k
  unfold rpq at h
  split at h
  ·rename_i xs e
   exact RN pins s σ H _ _ v u Q I rx ry ⟨p, k, xs, rfl, rfl, e, h.1, h.2.1, h.2.2.1, h.2.2.2⟩
  ·exact h.elim
 ·exact RP pins s σ H _ _ v u Q I rx ry h
def eqo (ob : Option HO) (H : Hp) (Q : VK) : Prop := match ob with
 | some (.lst _) => Q (.bl false) H
 | some (.tup _) => Q (.bl false) H
 | _ => False
def qK : R2 := fun x y H Q => match x, y with
 | .ref p, .str _ => eqo (H p) H Q
 | x, y => rEq x y H Q
theorem K7 (p : Addr) (z : Str) (H : Hp) (Q : VK) : qK (.ref p) (.str z) H Q = eqo (H p) H Q := rfl
theorem Lb (i j : Int) (H : Hp) (Q : VK) : qK (.int i) (.int j) H Q = rEq (.int i) (.int j) H Q := rfl
theorem Le (i j : Bool) (H : Hp) (Q : VK) : qK (.bl i) (.bl j) H Q = rEq (.bl i) (.bl j) H Q := rfl
theorem K6 (i j : Str) (H : Hp) (Q : VK) : qK (.str i) (.str j) H Q = rEq (.str i) (.str j) H Q := rfl
theorem La (i : Int) (j : Str) (H : Hp) (Q : VK) : qK (.int i) (.str j) H Q = rEq (.int i) (.str j) H Q := rfl
theorem Ld (i : Bool) (j : Str) (H : Hp) (Q : VK) : qK (.bl i) (.str j) H Q = rEq (.bl i) (.str j) H Q := rfl
theorem K8 (j : Str) (H : Hp) (Q : VK) : qK .non (.str j) H Q = rEq .non (.str j) H Q := rfl
theorem K9 (H : Hp) (Q : VK) : qK .non .non H Q = rEq .non .non H Q := rfl
theorem Oi (xs : List V) (H : Hp) (Q : VK) : eqo (some (.lst xs)) H Q = Q (.bl false) H := rfl
theorem Oh (xs : List V) (H : Hp) (Q : VK) : eqo (some (.tup xs)) H Q = Q (.bl false) H := rfl
theorem Kp (j : Str) : pP .non (.str j) = true := rfl
theorem Ku (i : Bool) (j : Str) : pP (.bl i) (.str j) = true := rfl
theorem cO (hu : X.A.units < cLine) : OpR X (compareOp .Eq) qK := by
 intro pins s σ H x y v u Q I rx ry h
 unfold qK at h
 split at h
 ·rename_i p z
  cases rx
  obtain ⟨t, rfl⟩ := ry
  unfold eqo at h
  split at h
  ·rename_i xs e
   obtain ⟨its, r, pl, hz⟩ := I.list (SqL.of e)
   exact SeqAt.RcAt.list_str z t pl.isList hu X.prog X.w X.xe (EP X pins σ Q) ⟨.bl false, H, I, rfl, h⟩
  ·rename_i xs e
   obtain ⟨its, r, pl, hz⟩ := I.tuple (SqT.of e)
   exact SeqAt.RcAt.tuple_str z t pl hu X.prog X.w X.xe (EP X pins σ Q) ⟨.bl false, H, I, rfl, h⟩
  ·exact h.elim
 ·exact UG pins s σ H _ _ v u Q I rx ry h
theorem vI {x : Str} {v : V} {u : Value} (hg : Gl X x) (hm : X.mg x = some u) (r : RelV v u) (b : Bn x) : QE X (.Name x pos) (tC v) := ⟨Mv hg hm r b.hd⟩
end
section
variable {X : Cx} {a b c d : Expr} {ta tb tc td : TE} {pos : Pos}
def u0 (r r' r'' : R2) (ta tb tc td : TE) : TE := fun σ H Q => ta σ H fun x H1 => tb σ H1 fun y H2 => r x y H2 fun z H3 => ∃ k, z = .bl k ∧
 (if k = true then tc σ H3 fun w H4 => r' y w H4 fun z' H5 => ∃ k', z' = .bl k' ∧ (if k' = true then td σ H5 fun w' H6 => r'' w w' H6 Q else Q (.bl false) H5) else Q (.bl false) H3)
theorem CQ {op op' op'' : CmpOp} {r r' r'' : R2} (ho : OpR X (compareOp op) r) (ho' : OpR X (compareOp op') r') (ho'' : OpR X (compareOp op'') r'') (ha : PE X a ta) (hb : PE X b tb) (hc : PE X c tc) (hd : PE X d td)
  (hm : lastMarks [op, op', op''] [b, c, d] = false := by with_unfolding_all rfl) : PE X (.Compare a [op, op', op''] [b, c, d] pos) (u0 r r' r'' ta tb tc td) := by
 intro pins s σ H Q I h
 refine Compare_chain (thE (ha pins s σ H _ I h) fun v s1 x H1 I1 r1 q1 => chain_link (thE (hb pins s1 σ H1 _ I1 q1) fun u s2 y H2 I2 r2 q2 =>
  thn (ho pins s2 σ H2 x y v u _ I2 r1 r2 q2) fun d s3 ⟨z, H3, I3, r3, k, e, q3⟩ => ?_)) hm
 subst e
 cases r3
 refine wpAny_truthy_bool ?_
 cases k with
 | false => exact ite_ff ⟨.bl false, H3, I3, rfl, q3⟩
 | true =>
  refine ite_tt (chain_link (thn (hc pins s3 σ H3 _ I3 q3) fun w' s4 ⟨z', H4, I4, r4, q4⟩ => thn (ho' pins s4 σ H4 y z' u w' _ I4 r2 r4 q4) fun d' s5 ⟨z5, H5, I5, r5, k', e', q5⟩ => ?_))
  subst e'
  cases r5
  refine wpAny_truthy_bool ?_
  cases k' with
  | false => exact ite_ff ⟨.bl false, H5, I5, rfl, q5⟩
  | true => exact ite_tt (chain_last (thE (hd pins s5 σ H5 _ I5 q5) fun w6 s6 z6 H6 I6 r6 q6 => ho'' pins s6 σ H6 z' z6 w' w6 Q I6 r4 r6 q6))
theorem CK {op op' op'' : CmpOp} {r r' r'' : R2} (ho : OpR X (compareOp op) r) (ho' : OpR X (compareOp op') r') (ho'' : OpR X (compareOp op'') r'') (ha : QE X a ta) (hb : QE X b tb) (hc : QE X c tc) (hd : QE X d td)
  (hm : lastMarks [op, op', op''] [b, c, d] = false := by with_unfolding_all rfl) : QE X (.Compare a [op, op', op''] [b, c, d] pos) (u0 r r' r'' ta tb tc td) := ⟨CQ ho ho' ho'' ha.h hb.h hc.h hd.h hm⟩
end
mutual
inductive aO (ok : Addr → Prop) (H : Hp) : V → PyData → Prop
 | non : aO ok H .non .none
 | bl (b : Bool) : aO ok H (.bl b) (.bool b)
 | int (i : Int) : aO ok H (.int i) (.int i)
 | str (x : Str) : aO ok H (.str x) (.str x)
 | lst {p : Addr} {xs : List V} {ds : List PyData} : ok p → H p = some (.lst xs) → xs.length ≤ 1000000 → aF ok H xs ds → aO ok H (.ref p) (.list ds)
 | tup {p : Addr} {xs : List V} {ds : List PyData} : ok p → H p = some (.tup xs) → xs.length ≤ 1000000 → aF ok H xs ds → aO ok H (.ref p) (.tuple ds)
inductive aF (ok : Addr → Prop) (H : Hp) : List V → List PyData → Prop
 | nil : aF ok H [] []
 | cons {x : V} {d : PyData} {xs : List V} {ds : List PyData} : aO ok H x d → aF ok H xs ds → aF ok H (x :: xs) (d :: ds)
end
mutual
theorem aO.keep {ok ok' : Addr → Prop} {H H' : Hp} (k : ∀ a o, ok a → H a = some o → ok' a ∧ H' a = some o) : ∀ {v : V} {d : PyData}, aO ok H v d → aO ok' H' v d
 | _, _, .non => .non
 | _, _, .bl b => .bl b
 | _, _, .int i => .int i
 | _, _, .str x => .str x
 | _, _, .lst o e z t => .lst (k _ _ o e).1 (k _ _ o e).2 z (aF.keep k t)
 | _, _, .tup o e z t => .tup (k _ _ o e).1 (k _ _ o e).2 z (aF.keep k t)
theorem aF.keep {ok ok' : Addr → Prop} {H H' : Hp} (k : ∀ a o, ok a → H a = some o → ok' a ∧ H' a = some o) : ∀ {vs : List V} {ds : List PyData}, aF ok H vs ds → aF ok' H' vs ds
 | _, _, .nil => .nil
 | _, _, .cons t r => .cons (aO.keep k t) (aF.keep k r)
end
theorem aO.same {ok : Addr → Prop} {H H' : Hp} {v : V} {d : PyData} (t : aO ok H v d) (s : Same H H') : aO ok H' v d := t.keep fun a o h e => ⟨h, s a o e⟩
theorem aF.same {ok : Addr → Prop} {H H' : Hp} {v : List V} {d : List PyData} (t : aF ok H v d) (s : Same H H') : aF ok H' v d := t.keep fun a o h e => ⟨h, s a o e⟩
theorem aF.length {ok : Addr → Prop} {H : Hp} : ∀ {vs : List V} {ds : List PyData}, aF ok H vs ds → vs.length = ds.length
 | _, _, .nil => rfl
 | _, _, .cons _ r => by rw [List.length_cons, List.length_cons, r.length]
theorem aF.append {ok : Addr → Prop} {H : Hp} : ∀ {vs ws : List V} {ds es : List PyData}, aF ok H vs ds → aF ok H ws es → aF ok H (vs ++ ws) (ds ++ es)
 | _, _, _, _, .nil, t => t
 | _, _, _, _, .cons h r, t => .cons h (r.append t)
theorem aF.get {ok : Addr → Prop} {H : Hp} : ∀ {vs : List V} {ds : List PyData} {i : Nat} {v : V}, aF ok H vs ds → vs[i]? = some v → ∃ d, ds[i]? = some d ∧ aO ok H v d
 | _, _, 0, _, .cons h _, e => by cases e; exact ⟨_, rfl, h⟩
 | _, _, i + 1, _, .cons _ r, e => aF.get r (i := i) e
section
variable {X : Cx} {pins : List (Addr × Obj)} {σ : St} {H : Hp} {s : Shared} {ok : Addr → Prop}
mutual
theorem aO.reads (I : Inv X pins σ H s) : ∀ {v : V} {d : PyData} {u : Value}, aO ok H v d → RelV v u → ∃ as, Reads s.heap u d as
 | _, _, _, .non, r => by cases r; exact ⟨_, .none⟩
 | _, _, _, .bl b, r => by cases r; exact ⟨_, .bool b⟩
 | _, _, _, .int i, r => by obtain ⟨t, rfl⟩ := r; exact ⟨_, .int i t⟩
 | _, _, _, .str x, r => by obtain ⟨t, rfl⟩ := r; exact ⟨_, .str x t⟩
 | _, _, _, .lst o e z t, r => by
  cases r
  obtain ⟨its, rv, pl, hz⟩ := I.list (SqL.of e)
  obtain ⟨ob, h1, h2, n, h3⟩ := pl.isList
  obtain ⟨as, h4⟩ := aF.reads I t rv
  exact ⟨_, .list h1 h2 h3 (by simpa using h4)⟩
 | _, _, _, .tup o e z t, r => by
  cases r
  obtain ⟨its, rv, pl, hz⟩ := I.tuple (SqT.of e)
  obtain ⟨ob, h1, h2, n, h3⟩ := pl
  obtain ⟨as, h4⟩ := aF.reads I t rv
  exact ⟨_, .tuple h1 h2 h3 (by simpa using h4)⟩
theorem aF.reads (I : Inv X pins σ H s) : ∀ {vs : List V} {ds : List PyData} {us : List Value}, aF ok H vs ds → Vals vs us → ∃ as, ReadsAll s.heap us ds as
 | _, _, _, .nil, r => by cases r; exact ⟨_, .nil⟩
 | _, _, _, .cons h t, r => by
  cases r with
  | cons r1 r2 =>
   obtain ⟨as, h1⟩ := aO.reads I h r1
   obtain ⟨bs, h2⟩ := aF.reads I t r2
   exact ⟨_, .cons h1 h2⟩
end
end
mutual
def nodes : PyData → Nat
 | .list ds => 1 + dW ds
 | .tuple ds => 1 + dW ds
 | _ => 1
def dW : List PyData → Nat
 | [] => 0
 | d :: ds => nodes d + dW ds
end
mutual
def smD : PyData → Bool
 | .none => true
 | .bool _ => true
 | .int i => decide (i.natAbs < 2 ^ 50 ∨ i.natAbs = 10 ^ 20 ∨ i.natAbs < 2 ^ 55)
 | .str x => decide ((reprText x).length ≤ 50)
 | .list ds => mV ds
 | .tuple ds => mV ds
 | .dict _ => false
def mV : List PyData → Bool
 | [] => true
 | d :: ds => smD d && mV ds
end
theorem Bq {i : Int} (h : i.natAbs < 2 ^ 70) : (Str.ofString (toString i)).length ≤ 71 := by
 rw [PySem.ofString_length]
 have := int_text_length_le10 (a := i) (k := 30) (by decide) (by omega)
 omega
mutual
theorem uw : ∀ (d : PyData), smD d = true → d.shown.length + 2 ≤ 80 * nodes d
 | .none, _ => by decide
 | .bool b, _ => by cases b <;> decide
 | .int i, h => by
  have h1 : i.natAbs < 2 ^ 70 := by
   have : i.natAbs < 2 ^ 50 ∨ i.natAbs = 10 ^ 20 ∨ i.natAbs < 2 ^ 55 := of_decide_eq_true (by simpa [smD] using h)
   omega
  have := Bq h1
  show (Str.ofString (toString i)).length + 2 ≤ 80 * 1
  omega
 | .str x, h => by
  have h1 : (reprText x).length ≤ 50 := by simpa [smD] using h
  show (reprText x).length + 2 ≤ 80 * 1
  omega
 | .list ds, h => by
  have h1 := jm ds (by simpa [smD] using h)
  have h2 := listText_len_le (PyData.shownAll ds)
  rw [PyData.shown.eq_5, nodes]
  omega
 | .tuple ds, h => by
  have h1 := jm ds (by simpa [smD] using h)
  have h2 := tupleText_len_le (PyData.shownAll ds)
  rw [PyData.shown.eq_6, nodes]
  omega
 | .dict kvs, h => by simp [smD] at h
theorem jm : ∀ (ds : List PyData), mV ds = true → ((PyData.shownAll ds).map fun x => x.length).sum + 2 * (PyData.shownAll ds).length ≤ 80 * dW ds
 | [], _ => by simp [PyData.shownAll, dW]
 | d :: ds, h => by
  rw [mV, Bool.and_eq_true] at h
  have h1 := uw d h.1
  have h2 := jm ds h.2
  rw [PyData.shownAll.eq_2, dW, List.map_cons, List.sum_cons, List.length_cons]
  omega
end
mutual
theorem u9 : ∀ (d : PyData), smD d = true → d.showable = true ∧ d.hasDict = false
 | .none, _ => ⟨rfl, rfl⟩
 | .bool b, _ => ⟨rfl, rfl⟩
 | .int i, h => by
  refine ⟨?_, rfl⟩
  have h1 : i.natAbs < 2 ^ 70 := by
   have : i.natAbs < 2 ^ 50 ∨ i.natAbs = 10 ^ 20 ∨ i.natAbs < 2 ^ 55 := of_decide_eq_true (by simpa [smD] using h)
   omega
  show decide (i.natAbs.log2 < 1920) = true
  refine decide_eq_true ?_
  by_cases z : i.natAbs = 0
  ·rw [z]; decide
  ·have := (Nat.log2_lt z).mpr h1
   omega
 | .str x, _ => ⟨rfl, rfl⟩
 | .list ds, h => by
  obtain ⟨h1, h2⟩ := lZ ds (by simpa [smD] using h)
  exact ⟨h1, h2⟩
 | .tuple ds, h => by
  obtain ⟨h1, h2⟩ := lZ ds (by simpa [smD] using h)
  exact ⟨h1, h2⟩
 | .dict kvs, h => by simp [smD] at h
theorem lZ : ∀ (ds : List PyData), mV ds = true → PyData.showableAll ds = true ∧ PyData.hasDictAll ds = false
 | [], _ => ⟨rfl, rfl⟩
 | d :: ds, h => by
  rw [mV, Bool.and_eq_true] at h
  obtain ⟨h1, h2⟩ := u9 d h.1
  obtain ⟨h3, h4⟩ := lZ ds h.2
  refine ⟨?_, ?_⟩
  ·rw [PyData.showableAll.eq_2, h1, h3]; rfl
  ·rw [PyData.hasDictAll.eq_2, h2, h4]; rfl
end
structure JV (d : PyData) : Prop where
 sm : smD d = true
 nd : nodes d ≤ 200000
 dp : d.depth ≤ 100
theorem JV.len {d : PyData} (t : JV d) : d.shown.length ≤ sizeLine := by
 have h1 := uw d t.sm
 have h2 := t.nd
 have h3 : 16000000 ≤ sizeLine := by decide
 omega
section
variable {X : Cx} {tg l : Expr} {tl : TE}
def itq (K : PySem.W.Frag) (ob : Option HO) (a : Addr) (H : Hp) (R : It → Hp → Prop) : Prop := match ob with
 | some (.lst _) => R (Itl K a) H
 | some (.tup _) => R (Itt K a) H
 | _ => False
def itK (K : PySem.W.Frag) (x : V) (H : Hp) (R : It → Hp → Prop) : Prop := match x with
 | .ref a => itq K (H a) a H R
 | _ => False
def Je (K : PySem.W.Frag) (tl : TE) : TI := fun σ H R => tl σ H fun x H1 => itK K x H1 R
theorem Jd (K : PySem.W.Frag) (tl : TE) (σ : St) (H : Hp) (R : It → Hp → Prop) : Je K tl σ H R = tl σ H fun x H1 => itK K x H1 R := rfl
theorem Nz (K : PySem.W.Frag) (a : Addr) (H : Hp) (R : It → Hp → Prop) : itK K (.ref a) H R = itq K (H a) a H R := rfl
theorem Nx (K : PySem.W.Frag) (xs : List V) (a : Addr) (H : Hp) (R : It → Hp → Prop) : itq K (some (.lst xs)) a H R = R (Itl K a) H := rfl
theorem Nv (K : PySem.W.Frag) (xs : List V) (a : Addr) (H : Hp) (R : It → Hp → Prop) : itq K (some (.tup xs)) a H R = R (Itt K a) H := rfl
theorem Mr (hl : PE X l tl) : PI X tg l (Je X.K tl) := by
 intro pins s σ H R I h
 refine thn (hl pins s σ H _ I h) fun v s1 ⟨x, H1, I1, r1, q1⟩ => ?_
 cases x with
 | ref a =>
  replace q1 : itq X.K (H1 a) a H1 R := q1
  cases r1
  unfold itq at q1
  split at q1
  ·rename_i xs e
   obtain ⟨its, rv, p, hz⟩ := I1.list (SqL.of e)
   refine wpAny_pyIter_list p.isList ?_
   refine ⟨s1.heap.objs.size, [s1.heap.objs.size], _, _, H1, rfl, I1.kept (t' := s1.toks) fun b o e => Heap.get?_push_of_some _ e, Ce a _, ⟨_, Heap.get?_push_size _ rfl, rfl, rfl⟩, fun b hb => ?_, q1⟩
   have e : b = s1.heap.objs.size := by simpa using hb
   subst e
   exact I1.DQ (Nat.le_refl _) (I1.hok.fresh (Nat.le_refl _))
  ·rename_i xs e
   obtain ⟨its, rv, p, hz⟩ := I1.tuple (SqT.of e)
   refine wpAny_pyIter_tuple (show s1.heap.IsTuple a its.toArray from p) ?_
   refine ⟨s1.heap.objs.size, [s1.heap.objs.size], _, _, H1, rfl, I1.kept (t' := s1.toks) fun b o e => Heap.get?_push_of_some _ e, yE a _, ⟨_, Heap.get?_push_size _ rfl, rfl, rfl⟩, fun b hb => ?_, q1⟩
   have e : b = s1.heap.objs.size := by simpa using hb
   subst e
   exact I1.DQ (Nat.le_refl _) (I1.hok.fresh (Nat.le_refl _))
  ·exact q1.elim
 | _ => exact q1.elim
theorem fK (hl : QE X l tl) : QI X tg l (Je X.K tl) := ⟨Mr hl.h⟩
end
section
variable {mp : List (Option Nat)} {g : TG} {tc : TT} {te : TE} {σ : St} {H : Hp} {Q : VK} {R : It → Hp → Prop} {K : PySem.W.Frag}
theorem JC {a : Addr} {xs : List V} (hR : R = wG mp g tc te σ Q) (hz : xs.length ≤ sizeLine) (Pv : Nat → List V → St → Hp → Prop) (h0 : Pv 0 [] (iU mp σ) H) (hl : ∀ i acc τ H, Pv i acc τ H → acc.length ≤ i)
  (hq : ∀ i acc τ H, Pv i acc τ H → SqT K H a xs)
  (hs : ∀ i x acc τ H, xs[i]? = some x → Pv i acc τ H → g x τ H fun τ1 H4 => tc τ1 H4 fun b H5 => if b = true then te τ1 H5 fun v H6 => Pv (i + 1) (acc ++ [v]) τ1 H6 else Pv (i + 1) acc τ1 H5)
  (hd : ∀ acc τ H d, Pv xs.length acc τ H → H d = none → Q (.ref d) (upd H d (.lst acc))) : R (Itt K a) H := by
 refine nO hR xs.length hz Pv h0 hl (fun i acc τ H hi p => ⟨xs, xs[i], hq i acc τ H p, List.getElem?_eq_getElem hi⟩) (fun acc τ H p => ⟨xs, hq _ acc τ H p, Nat.le_refl _⟩) (fun i acc τ H x H3 hi p y => ?_) hd
 obtain ⟨rfl, hx⟩ := y
 exact hs i x acc τ _ (hx xs (hq i acc τ _ p)) p
def BoolsTo (H0 : Hp) (f : V → Bool) (xs : List V) (i : Nat) (acc : List V) (H' : Hp) : Prop := Same H0 H' ∧ acc = ((xs.take i).map f).map V.bl
end
def sV (ok : Addr → Prop) (H0 : Hp) : Prop := ∀ H p, Same H0 H → H p = none → ok p
theorem Dk {H0 : Hp} : sV (fun _ => True) H0 := fun _ _ _ _ => trivial
theorem sV.same {ok : Addr → Prop} {H0 H1 : Hp} (n : sV ok H0) (s : Same H0 H1) : sV ok H1 := fun H p s2 h => n H p (s.trans s2) h
section
variable {ok : Addr → Prop} {σ : St} {H0 : Hp} {ta tb : TE} {tr : TA} {d e : PyData} {ds es : List PyData}
end
def rd0 := And.intro @Fg.eq_1 (And.intro @Qq.eq_1 (And.intro @um.eq_1 (And.intro @tOp.eq_1 (And.intro @rI.eq_1 (And.intro @rI0.eq_1 (And.intro @rU.eq_1 (And.intro @tUn.eq_1 (And.intro @jl.eq_1 (And.intro @tC.eq_1 (And.intro @Cj.eq_1 (And.intro @TY.eq_1 (And.intro @Fp.eq_1 (And.intro @mR.eq_1 (And.intro @gA.eq_1 (And.intro @sY.eq_1 (And.intro @tCB.eq_1 (And.intro @tIf.eq_1 (And.intro @Qm.eq_1 (And.intro @tB.eq_1 (And.intro @Qw.eq_1 (And.intro @tOr.eq_1 (And.intro @Fx.eq_1 (And.intro @Vf.eq_1 (And.intro @Fo.eq_1 (And.intro @Qo.eq_1 (And.intro @J6.eq_1 (And.intro @sZ.eq_1 (And.intro @jh.eq_1 (And.intro @Tc.eq_1 (And.intro @DP (And.intro @N7 (And.intro @wY (And.intro @Gr (And.intro @Gu (And.intro @Lp (And.intro @Fd.eq_1 (And.intro @N8 (And.intro @Td (@Pn.eq_1)))))))))))))))))))))))))))))))))))))))
def rd1 := And.intro @Gz (And.intro @CG (And.intro @CJ (And.intro @K3 (And.intro @K4 (And.intro @Nu (And.intro @Nt (And.intro @Kc (And.intro @Np (And.intro @Nk (And.intro IK.1 (And.intro IK.2.1 (And.intro IK.2.2 (And.intro @Va (And.intro @U9 (And.intro @U8 (And.intro @aD (And.intro @GF (And.intro @GC (And.intro @S9 (And.intro @Nq (And.intro @Ir (And.intro @SJ (And.intro @Sy (And.intro @kc_bool (And.intro @ty_int (And.intro @TX (And.intro @ty_str (And.intro @Qe (And.intro @Qd (And.intro @J1 (And.intro @J0 (And.intro @oA (And.intro @pR (And.intro @pQ (And.intro @ou (And.intro @mZ (And.intro @vA (And.intro @wX (@wW)))))))))))))))))))))))))))))))))))))))
def rd2 := And.intro @vz (And.intro @tK (And.intro @wV (And.intro @yW (And.intro @yV (And.intro @wU (And.intro @vy (And.intro @wO (And.intro @yU (And.intro @yS (And.intro @wN (And.intro @vo (And.intro @vq (And.intro @wR (And.intro @wQ (And.intro @vp (And.intro @tH (And.intro @tG (And.intro @vm (And.intro @vh (And.intro @tE (And.intro @qJ (And.intro @Bool.or_false (And.intro @Bool.false_or (And.intro @Bool.or_self (And.intro @Bool.true_or (And.intro @Bool.or_true (And.intro @Bool.not_true (And.intro @Bool.not_false (And.intro @Bool.false_eq_true (And.intro @if_true.{0} (And.intro @if_true.{1} (And.intro @if_false.{0} (And.intro @if_false.{1} (And.intro @decide_true (And.intro @decide_false (And.intro @Fq.eq_1 (And.intro @rEq.eq_1 (And.intro @rNe.eq_1 (@Ln)))))))))))))))))))))))))))))))))))))))
def rd3 := And.intro @Lk (And.intro @Tv (And.intro @Q6 (And.intro @Q7 (And.intro @Q8 (And.intro @Q5 (And.intro @Ng (And.intro @Rf (And.intro @U5 (And.intro @U4 (And.intro @Cy (And.intro @Kd (And.intro @T4.eq_1 (And.intro @JR (And.intro @JQ (And.intro @Ql.eq_1 (And.intro @qz.eq_1 (And.intro @Gf (And.intro @Kv (And.intro @Gd (And.intro @Ge (And.intro @Ks (And.intro @Kq (And.intro @Kr (And.intro @Ko (And.intro @Ep.eq_1 (And.intro @O6.eq_1 (And.intro @PN.eq_1 (And.intro @L2.start.eq_1 (And.intro @List.map_cons.{0,0} (And.intro @List.map_nil.{0,0} (And.intro @List.length_cons.{0} (And.intro @List.length_nil.{0} (And.intro @List.cons_append.{0} (And.intro @List.nil_append.{0} (And.intro @List.replicate_succ.{0} (And.intro @List.replicate_zero.{0} (And.intro @List.append_nil.{0} (And.intro @List.getElem?_cons_zero.{0} (@List.getElem?_cons_succ.{0})))))))))))))))))))))))))))))))))))))))
def rd4 := And.intro @List.set_cons_zero.{0} (And.intro @List.set_cons_succ.{0} (And.intro @Nat.sub_self (And.intro @Option.some.injEq.{0} (And.intro @exists_eq_left'.{1} (And.intro @exists_eq_left.{1} (And.intro @Og (And.intro @Jp (And.intro @Oe (And.intro @Fl.eq_1 (And.intro @V.int.injEq (And.intro @V.str.injEq (And.intro @yK (And.intro @yL (And.intro @u5 (And.intro @yI (And.intro @yJ (And.intro @mU (And.intro @Bp (And.intro @Bo (And.intro @xY (And.intro @V.bl.injEq (And.intro @V.ref.injEq (And.intro @List.cons.injEq.{0} (And.intro @and_true (And.intro @true_and (And.intro @exists_and_left.{1} (And.intro @exists_and_right.{1} (And.intro @decide_eq_true_eq (And.intro @Fv (And.intro @JT (And.intro @NK (And.intro @nT (And.intro @Gk (And.intro @Kf (And.intro @Ke (And.intro @tSl.eq_1 (And.intro @uZ.eq_1 (And.intro @Fj.eq_1 (@KN)))))))))))))))))))))))))))))))))))))))
def rd5 := And.intro @KQ (And.intro @Kz (And.intro @K7 (And.intro @Lb (And.intro @Le (And.intro @K6 (And.intro @La (And.intro @Ld (And.intro @K8 (And.intro @K9 (And.intro @Oi (And.intro @Oh (And.intro @Kp (And.intro @Ku (And.intro @u0.eq_1 (And.intro @Jd (And.intro @Nz (And.intro @Nx (@Nv))))))))))))))))))
def bJ : PyData → Bool
 | .int _ => true
 | _ => false
def vQ : PyData → PyData → Bool
 | .int w, .int s => (decide (1 ≤ w) && decide (w ≤ 40)) && (decide (0 ≤ s) && decide (s ≤ 1))
 | _, _ => false
def inB (w s a : Int) : Bool := decide (wl w s ≤ a) && decide (a < wl w s + 2 ^ w.toNat)
def upB (w a : Int) : Bool := decide (0 ≤ a) && decide (a < 2 ^ w.toNat)
def cW (w s : Int) : PyData → Bool
 | .tuple [.str k, .int a] => decide (k = "is") && inB w s a
 | .tuple [.str k, .int a, .int b] => (decide (k = "from") && (inB w s a && inB w s b && decide (a ≤ b))) || (decide (k = "bits") && (upB w a && upB w b))
 | _ => false
def yN : Sp := fun vs H Q _ => ∃ v ok d, vs = [v] ∧ aO ok H v d ∧ Q (.bl (bJ d)) H
def Ad : Sp := fun vs H Q _ => ∃ v v2 ok d d2, vs = [v, v2] ∧ aO ok H v d ∧ aO ok H v2 d2 ∧ Q (.bl (vQ d d2)) H
def wL : Sp := fun vs H Q _ => ∃ w s, vs = [.int w, .int s] ∧ 1 ≤ w ∧ w ≤ 40 ∧ (s = 0 ∨ s = 1) ∧ Q (.int (wl w s)) H
def Ab : Sp := fun vs H Q _ => ∃ w s, vs = [.int w, .int s] ∧ 1 ≤ w ∧ w ≤ 40 ∧ (s = 0 ∨ s = 1) ∧ Q (.int (wl w s + 2 ^ w.toNat - 1)) H
def Ae : Sp := fun vs H Q _ => ∃ w s v ok d, vs = [.int w, .int s, v] ∧ 1 ≤ w ∧ w ≤ 40 ∧ (s = 0 ∨ s = 1) ∧ aO ok H v d ∧ ∀ H', Same H H' → Q (.bl (cW w s d)) H'
section
variable {X : Cx} {NX N : List Str} {kX : List (Str × NameKind)} {mp : List (Option Nat)} {scope : Scope}
set_option maxHeartbeats 8000000 in
theorem LR {tg iter elt : Expr} {ifs : List Expr} {pos pos' pos2 : Pos} {wi : TI} {g : TG} {tc : TT} {te : TE} {i : Nat} {x : Str} (N : List Str) (mp : List (Option Nat)) (hn : Nm X.N X.env.scope i x) (hNd : X.N.Nodup) (hNX : X.N = NX) (hkX : X.env.scope.names = kX) (S : uY NX kX N mp scope) (hc : X.calm = true)
  (hi : PI X tg iter wi) (hg : ∀ cl C s H fp, PG (bU X N scope cl C s H fp) tg g) (ht : ∀ cl C s H fp, PTs (bU X N scope cl C s H fp) ifs tc) (he : ∀ cl C s H fp, PE (bU X N scope cl C s H fp) elt te)
  (hf : X.fn x = true ∨ X.env.scope.names.lookup x = some .local := by exact .inl rfl)
  (hsw : swapsWithSole [.Name x pos'] (.ListComp elt [⟨tg, iter, ifs, 0⟩] scope pos) pos2.line X.env = pure true := by rfl)
  (h1 : (assignEach [.Name x pos'] X.env).map (·.2) = [assign (.Name x pos') X.env] := by rfl)
  (hs : ∀ x, foldedSetIterable iter X.env x = pure x := by intro _; rfl) : PS X (.Assign [.Name x pos'] (.ListComp elt [⟨tg, iter, ifs, 0⟩] scope pos) pos2) (sZ (uo mp wi g tc te) (jh i)) := by
 intro pins s σ H Dn I h
 rw [exec_Assign_arm]
 refine wpAny_bind (wpAny_standAt ?_)
 rw [hsw]
 refine wpAny_bind (wpAny_pure ?_)
 rw [if_pos rfl, h1]
 replace h : uo mp wi g tc te σ H (fun v H1 => Dn.nx (σ.set i (some v)) H1) := h
 obtain ⟨cl, hcl, hsub, hhas⟩ := BV (env := X.env) (scope := scope) fun y hy hf => I.ok.has y.1 (by
  rcases S.fre y hy hf with q | q
  ·exact .inl (show X.env.scope.names.lookup y.1 = _ by rw [hkX]; exact q)
  ·exact .inr (show X.env.scope.names.lookup y.1 = _ by rw [hkX]; exact q))
 generalize hQ : (fun (v : V) (H1 : Hp) => Dn.nx (σ.set i (some v)) H1) = Q at h
 let QQ : Value → Shared → Prop := fun _ s' => ∃ τ H', Inv X pins τ H' s' ∧ Dn.nx τ H'
 refine wpAny_bind (wpAny_bind (thn (Q := QQ) (wpAny_comprehension_free (e := .ListComp elt [⟨tg, iter, ifs, 0⟩] scope pos) (use := some fun v => assignAll v [assign (.Name x pos') X.env]) rfl hs hcl S.kind S.locs ?_) fun _ s' ⟨τ, H', I', q'⟩ => wpAny_pure (wpAny_pure ⟨τ, H', I', q'⟩)))
 refine thn (hi pins s σ H _ I h) fun v s1 h1 => thn h1 fun itv s2 h2 => ?_
 obtain ⟨it, fp, tn, J, H2, e, I2, T, st2, f2, W, ⟨m0, w0⟩, turn⟩ := h2
 subst e
 refine wpAny_newObj_type (wpAny_newFunctionEnv S.nocell (by intro y hy; simp at hy) (fun h3 hns hsb => ?_) S.kind)
 dsimp only at hns hsb ⊢
 have hold : ∀ b ∈ fp, b < s2.heap.objs.size := fun b hb => by
  obtain ⟨o, q, _⟩ := T.obj _ _ st2 b hb
  exact Heap.lt_size q
 generalize hD : s2.heap.objs.size = D at hns hsb
 generalize hH2 : s2.heap.push { cls := .type "list", dict := none, data := .seq ([] : List Value).toArray } = P2 at hns hsb ⊢
 have hC : P2.objs.size = D + 1 := by rw [← hH2, Heap.size_push, hD]
 generalize hC' : P2.objs.size = C at hns hsb ⊢
 rw [hC'] at hC
 have old : ∀ b o, s2.heap.get? b = some o → h3.get? b = some o := fun b o q => by
  have hb := Heap.lt_size q
  exact hsb.extBut b o (na1 hb hD hC) (Heap.get?_push_of_some _ (hH2 ▸ Heap.get?_push_of_some _ q))
 have accD : h3.get? D = some { cls := .type "list", data := .seq ([] : List Value).toArray } :=
  hsb.extBut _ _ (na2 hC) (Heap.get?_push_of_some _ (by rw [← hH2, ← hD]; exact Heap.get?_push_size _ rfl))
 have hfr : D ∉ frs X.stack := fun z => by
  rcases List.mem_cons.mp (I2.qG D z) with q | q
  ·exact na0 I2.lt hD q.symm
  ·exact I2.R4 (na4 hD) q
 have I0 : Inv (bU X N scope cl C s2 H2 fp) [(D, { cls := .type "list", data := .seq ([] : List Value).toArray })] (iU mp σ) H2 { s2 with heap := h3, toks := s2.toks + ([] : List (Str × Value)).length } :=
  BR (s' := { s2 with heap := h3, toks := s2.toks + ([] : List (Str × Value)).length }) hNX hkX S I2 f2 hold (na3 hD hC) hsub hhas rfl rfl ⟨_, hns⟩ old fun p hp => by
   have ep := List.mem_singleton.mp hp
   subst ep
   exact ⟨accD, I2.hok.fresh (na4 hD), na2 hC, hfr, fun v z => by cases z⟩
 have T0 : tn 0 h3 := T.keep _ _ _ st2 fun b _ o q => old b o q
 have loop : ∀ z : Shared, z = { s2 with heap := h3, toks := s2.toks + ([] : List (Str × Value)).length } →
   codeAny (model X.prog X.w) X.A (.compLoop (.ListComp elt [⟨tg, iter, ifs, 0⟩] scope pos) 0 (.ref it) (.ref D) (compEnvC scope cl C X.env))
    (compPost (model X.prog X.w) X.A X.xe (some fun v => assignAll v [assign (.Name x pos') X.env]) QQ (.ref D) C) z := by
  rintro z rfl
  have stat : ∀ {H' : Hp} {pl : List (Addr × Obj)}, (∀ b ∈ fp, H' b = none) → (∀ p ∈ pl, p.1 = D) → ∀ b ∈ fp, nW (bU X N scope cl C s2 H2 fp) pl H' b := fun hn hp b hb => by
   have hb2 := hold b hb
   refine ⟨hn b hb, na1 hb2 hD hC, (zO hkX S I2 f2 hold (na3 hD hC) hsub hhas).exfs b hb, .inl hb, fun x c q => (f2 b hb).2.2.2.2.1 x c (hsub x c q), fun p hpp => ?_⟩
   have hpD := hp p (by simpa [bU] using hpp)
   rw [hpD]
   exact (na0 hb2 hD).symm
  refine uO (env := compEnvC scope cl C X.env) (fun n z => ∃ i acc τ H' its k, Inv (bU X N scope cl C s2 H2 fp) [(D, { cls := .type "list", data := .seq (List.toArray its) k })] τ H' z ∧ tn i z.heap ∧ (∀ b ∈ fp, H' b = none) ∧ Vals acc its ∧ acc.length ≤ sizeLine ∧ W i n acc τ H')
   ?_ m0 ⟨0, [], _, H2, [], 0, I0, T0, fun b hb => (f2 b hb).1, .nil, Nat.zero_le _, w0⟩
  rintro n s5 ⟨i, acc, τ, H5, its, k, I5, st5, fr5, va, hz, w5⟩
  rcases turn i n acc τ H5 w5 with ⟨stop, qn⟩ | ⟨go, hz2, N9, hN9, step⟩
  ·refine thn (T.done (bU X N scope cl C s2 H2 fp) rfl rfl rfl hc i _ s5 τ H5 _ I5 (stat fr5 (by simp)) st5 stop) fun r s6 ⟨hr, I6⟩ => ?_
   subst hr
   obtain ⟨m6, hn6, _⟩ := I6.loc
   obtain ⟨dD, nD, _, _, _⟩ := I6.pin (D, _) (List.mem_append_right _ (List.mem_singleton.mpr rfl))
   have U := I6.base
   have nC : H5 C = none := I6.free
   have ne : ∀ b o, s2.heap.get? b = some o → b ≠ C ∧ b ≠ D := fun b o q => by
    exact ⟨na1 (Heap.lt_size q) hD hC, na0 (Heap.lt_size q) hD⟩
   have key : ∀ h', Heap.SameBut C s6.heap h' → Inv X pins σ (upd H5 D (.lst acc)) { s6 with heap := h' } := fun h' sb => by
    have keepC : ∀ b o, b ≠ C → s6.heap.get? b = some o → h'.get? b = some o := fun b o hb q => (sb.2 b hb).trans q
    have U' : Un (frs X.stack) fp H2 (upd H5 D (.lst acc)) s2.heap h' := by
     refine ⟨fun b o q n1 hb hx => keepC b o (ne b o q).1 (U.keep b o q n1 hb hx), fun b o q n1 hb hx => ?_, fun b o q n1 hx => ?_, fun b o q hx => ?_, fun b xs q => ?_, fun b o xs q => ?_, fun b ps q => ?_⟩
     ·obtain ⟨sl, z⟩ := U.slot b o q n1 hb hx
      exact ⟨sl, keepC b _ (ne b o q).1 z⟩
     ·rw [aH (ne b o q).2]
      exact U.free b o q n1 hx
     ·obtain ⟨o', z⟩ := U.there b o q hx
      exact ⟨o', keepC b _ (ne b o q).1 z⟩
     ·have z := U.tups b xs q
      rw [aH (aK z nD)]
      exact z
     ·have z := U.frzs b o xs q
      rw [aH (aK z nD)]
      exact z
     ·obtain ⟨more, z⟩ := U.tbls b ps q
      exact ⟨more, by rw [aH (aK z nD)]; exact z⟩
    have hok : HOk X.prog X.w (upd H5 D (.lst acc)) h' := fun b u q => by
     by_cases hb : b = D
     ·subst hb
      rw [aD] at q
      cases q
      exact ⟨hz, its, k, va, keepC _ _ (na2 hC) dD⟩
     ·rw [aH hb] at q
      refine (I6.hok b u q).stay (fun c v hcc z => keepC c v ?_ z) (fun c z => by rw [aH (aK z nD)]; exact z) fun c xs z => by rw [aH (aK z nD)]; exact z
      rcases hcc with z1 | z1
      ·subst z1
       exact aK q nC
      ·exact aK z1 nC
    have I7 : Inv X pins σ (upd H5 D (.lst acc)) { s6 with heap := h' } := I2.call' (s' := { s6 with heap := h' }) (ch := fp) I6.os U' hok I6.bare fun b hb => by
     obtain ⟨_, a2, _, a4, a5, a6⟩ := f2 b hb
     exact ⟨a4, a2, a5, a6⟩
    exact I7
   have I7 : Inv X pins σ (upd H5 D (.lst acc)) s6 := key s6.heap (Heap.SameBut.refl _ _)
   have lC : X.env.locals ≠ C := na1 I2.lt hD hC
   have cC : ∀ y c, X.env.cells.lookup y = some c → c ≠ C := fun y c z => by
    obtain ⟨_, o, h1, _⟩ := I2.cell y c z
    exact na1 (Heap.lt_size h1) hD hC
   show wpAny _ _ (assign (.Name x pos') X.env (.ref D)) _ _ s6
   refine wpAny_assign_Name (ur (v := .ref D) I7 hNd hn.hN hn.hv rfl (fun s7 I8 ⟨a, sa, ha⟩ => ?_) hf)
   have aC : a ≠ C := by
    rcases ha with rfl | ha
    ·exact lC
    ·exact cC _ _ ha
   obtain ⟨o6, es6, ep6, g1, g2, g3, g4⟩ := hn6
   refine ⟨m6, ⟨o6, es6, ep6, (sa.2 C (Ne.symm aC)).trans g1, g2, g3, g4⟩, fun h' sb => ?_⟩
   have q9 := qn D nD
   rw [← hQ] at q9
   refine ⟨_, _, I8.turned (it := C) (t' := s7.toks) (fun b o hb q => (sb.2 b hb).trans q) ?_ (Ne.symm lC) (.inr (Nat.le_trans I2.sz (na3 hD hC))) cC (fun p hp => ?_), q9⟩
   ·rw [aH (Ne.symm (na2 hC))]
    exact nC
   ·obtain ⟨h1, _⟩ := I2.pin p hp
    exact na1 (Heap.lt_size h1) hD hC
  ·refine thn (T.item (bU X N scope cl C s2 H2 fp) rfl rfl rfl hc i _ s5 τ H5 _ I5 (stat fr5 (by simp)) st5 go) fun r s6 ⟨u, hr, h6⟩ => ?_
   subst hr
   refine thn h6 fun _ s7 ⟨x, H7, I7, r7, y7, st7, fr7⟩ => ?_
   have I7' := I7.pinned (stat fr7 (by simp)) (T.obj _ _ st7)
   have no : ∀ {α : Type} {t : Sem α} {Q1 Q2 : α → Shared → Prop} {E : Value → Shared → Prop} {z : Shared}, wpAny (model X.prog X.w) X.A t Q1 (fun _ _ => False) z → (∀ a z, Q1 a z → Q2 a z) → wpAny (model X.prog X.w) X.A t Q2 E z :=
    fun q f => wpAny_mono q f fun _ _ z => z.elim
   refine no (hg cl C s2 H2 fp _ s7 τ H7 x u _ I7' r7 (step x H7 y7)) fun _ s8 ⟨τ1, H8, I8, q8⟩ => ?_
   refine no (ht cl C s2 H2 fp _ s8 τ1 H8 _ I8 q8) fun ok s9 ⟨H9, I9, q9⟩ => ?_
   have again : ∀ {H' : Hp} {z : Shared} {its' : List Value} {k' : Nat}, Inv (bU X N scope cl C s2 H2 fp) ([(D, { cls := .type "list", data := .seq (List.toArray its') k' })] ++ iC fp s7.heap) τ1 H' z →
     tn (i + 1) z.heap ∧ (∀ b ∈ fp, H' b = none) ∧ Inv (bU X N scope cl C s2 H2 fp) [(D, { cls := .type "list", data := .seq (List.toArray its') k' })] τ1 H' z := fun {H' z its' k'} Iz => by
    have get : ∀ b ∈ fp, ∀ o, s7.heap.get? b = some o → z.heap.get? b = some o ∧ H' b = none := fun b hb o q => by
     obtain ⟨a1, a2, _⟩ := Iz.pin (b, o) (List.mem_append_right _ (List.mem_append_right _ (jA hb q)))
     exact ⟨a1, a2⟩
    refine ⟨T.keep _ _ _ st7 fun b hb o q => (get b hb o q).1, fun b hb => ?_, Iz.jM⟩
    obtain ⟨o, q, _⟩ := T.obj _ _ st7 b hb
    exact (get b hb o q).2
   cases ok with
   | false =>
    rw [if_neg Bool.false_ne_true] at q9 ⊢
    obtain ⟨m', hm, w9⟩ := hN9 _ _ _ q9
    obtain ⟨a1, a2, a3⟩ := again I9
    exact ⟨m', hm, i + 1, acc, τ1, H9, its, k, a3, a1, a2, va, hz, w9⟩
   | true =>
    rw [if_pos rfl] at q9 ⊢
    refine no (he cl C s2 H2 fp _ s9 τ1 H9 _ I9 q9) fun y s10 ⟨v, H10, I10, rv, q10⟩ => ?_
    obtain ⟨m', hm, w10⟩ := hN9 _ _ _ q10
    obtain ⟨a1, a2, a3⟩ := again I10
    obtain ⟨dD, nD, _, _, _⟩ := a3.pin (D, _) (List.mem_append_right _ (List.mem_singleton.mpr rfl))
    have hlen := va.length
    refine call_meets F.slot_list_append ⟨_, dD, rfl⟩ F.entry_list_append (F.args_list_append_2 _ _) (PySem.list_append D its.toArray k y (by rw [List.size_toArray]; omega)) ⟨dD, ?_⟩
    obtain ⟨k', q⟩ : ∃ k', (s10.heap.update D (Obj.mapSeq fun a => a.push y)).get? D = some { cls := .type "list", data := .seq (its ++ [y]).toArray k' } := by
     have q := PySem.IsL.update dD (fun a => a.push y)
     rw [show its.toArray.push y = (its ++ [y]).toArray by simp] at q
     exact ⟨_, q⟩
    have a4 : Inv (bU X N scope cl C s2 H2 fp) (iC fp s7.heap) τ1 H10 s10 := I10.lF fun p hp => I10.pin p (List.mem_append_right _ (List.mem_append_right _ hp))
    have a5 : Inv (bU X N scope cl C s2 H2 fp) (iC fp s7.heap) τ1 H10 { s10 with heap := s10.heap.update D (Obj.mapSeq fun a => a.push y), toks := s10.toks } :=
     a4.turned (it := D) (fun b o hb z => (Heap.get?_update_other _ _ (Ne.symm hb)).trans z) nD (na2 hC) (.inr (na4 hD))
      (fun x c z => by
       obtain ⟨_, o, h1, _⟩ := I2.cell x c (hsub x c z)
       exact na0 (Heap.lt_size h1) hD) fun p hp => by
       have hb := (oF (by simpa [bU] using hp)).1
       exact na0 (hold _ hb) hD
    obtain ⟨b1, b2, b3⟩ := (show tn (i + 1) (s10.heap.update D (Obj.mapSeq fun a => a.push y)) ∧ (∀ b ∈ fp, H10 b = none) ∧ True from
     ⟨T.keep _ _ _ a1 fun b hb o z => (Heap.get?_update_other _ _ (na0 (hold b hb) hD).symm).trans z, a2, trivial⟩)
    refine ⟨m', hm, i + 1, acc ++ [v], τ1, H10, its ++ [y], k', a5.lF fun p hp => ?_, b1, b2, va.append (.cons rv .nil), by rw [List.length_append, List.length_singleton]; omega, w10⟩
    have ep := List.mem_singleton.mp hp
    subst ep
    exact ⟨q, nD, na2 hC, hfr, fun v z => by cases z⟩
 have e1 : { newEnv scope C X.env.globals cl X.env.qual none .none (some X.env) X.env.builtins with scope := relabel scope X.env } = compEnvC scope cl C X.env := rfl
 exact codeAny_compStart_list (loop _ rfl) (T.self _ 0 _ _ _ T0 (loop _ rfl))
theorem Ar {tg iter elt : Expr} {ifs : List Expr} {pos pos' pos2 : Pos} {wi : TI} {g : TG} {tc : TT} {te : TE} {i : Nat} {x : Str} (N : List Str) (mp : List (Option Nat)) (hn : Nm X.N X.env.scope i x) (hNd : X.N.Nodup) (hNX : X.N = NX) (hkX : X.env.scope.names = kX) (S : uY NX kX N mp scope) (hc : X.calm = true)
  (hi : QI X tg iter wi) (hg : ∀ cl C s H fp, QG (bU X N scope cl C s H fp) tg g) (ht : ∀ cl C s H fp, QC (bU X N scope cl C s H fp) ifs tc) (he : ∀ cl C s H fp, QE (bU X N scope cl C s H fp) elt te)
  (hf : X.fn x = true ∨ X.env.scope.names.lookup x = some .local := by exact .inl rfl)
  (hsw : swapsWithSole [.Name x pos'] (.ListComp elt [⟨tg, iter, ifs, 0⟩] scope pos) pos2.line X.env = pure true := by rfl)
  (h1 : (assignEach [.Name x pos'] X.env).map (·.2) = [assign (.Name x pos') X.env] := by rfl)
  (hs : ∀ x, foldedSetIterable iter X.env x = pure x := by intro _; rfl) : QS X (.Assign [.Name x pos'] (.ListComp elt [⟨tg, iter, ifs, 0⟩] scope pos) pos2) (sZ (uo mp wi g tc te) (jh i)) :=
 ⟨LR N mp hn hNd hNX hkX S hc hi.h (fun cl C s H fp => (hg cl C s H fp).h) (fun cl C s H fp => (ht cl C s H fp).h) (fun cl C s H fp => (he cl C s H fp).h) hf hsw h1 hs⟩
end
def lu (H0 : Hp) (f : PyData → Bool) (ds : List PyData) (ok : St → Prop) (i : Nat) (acc : List V) (τ : St) (H' : Hp) : Prop := Same H0 H' ∧ ok τ ∧ acc = ((ds.take i).map f).map V.bl
section
variable {mp : List (Option Nat)} {g : TG} {te : TE} {σ : St} {H : Hp} {Q : VK} {R : It → Hp → Prop} {K : PySem.W.Frag} {a : Addr} {xs : List V} {ds : List PyData} {ok : Addr → Prop}
theorem take_snoc {α : Type} {l : List α} {i : Nat} {x : α} (h : l[i]? = some x) : l.take (i + 1) = l.take i ++ [x] := by
 rw [List.take_add_one, h]
 rfl
theorem sJ {f : PyData → Bool} {d : PyData} {i : Nat} (h : ds[i]? = some d) : ((ds.take (i + 1)).map f).map V.bl = ((ds.take i).map f).map V.bl ++ [V.bl (f d)] := by
 rw [take_snoc h, List.map_append, List.map_append]
 rfl
theorem uR (f : PyData → Bool) (ds : List PyData) (i : Nat) : (((ds.take i).map f).map V.bl).length ≤ i := by
 simp only [List.length_map, List.length_take]
 omega
theorem nP (f : PyData → Bool) (okT : St → Prop) (hR : R = wG mp g Fd te σ Q) (tr : aF ok H xs ds) (e : H a = some (.tup xs)) (hz : xs.length ≤ 1000000) (h0 : okT (iU mp σ))
  (hs : ∀ x d τ H1 (Qn : V → St → Hp → Prop), d ∈ ds → Same H H1 → aO ok H1 x d → okT τ → (∀ τ1 H6, okT τ1 → Same H1 H6 → Qn (.bl (f d)) τ1 H6) → g x τ H1 fun τ1 H4 => te τ1 H4 fun v H6 => Qn v τ1 H6)
  (hd : ∀ H2 d, Same H H2 → H2 d = none → Q (.ref d) (upd H2 d (.lst ((ds.map f).map V.bl)))) : R (Itt K a) H := by
 have hl := tr.length
 refine JC hR (bx hz) (lu H f ds okT) ⟨Same.refl _, h0, rfl⟩ (fun i acc τ H1 ⟨_, _, e⟩ => by rw [e]; exact uR f ds i) (fun i acc τ H1 ⟨s, _, _⟩ => SqT.of (s _ _ e)) (fun i x acc τ H1 hx ⟨s, k, ea⟩ => ?_) (fun acc τ H1 d ⟨s, k, ea⟩ hn => ?_)
 ·obtain ⟨d, hd2, td⟩ := tr.get hx
  have z := hs x d τ H1 (fun v τ1 H6 => lu H f ds okT (i + 1) (acc ++ [v]) τ1 H6) (List.mem_of_getElem? hd2) s (td.same s) k fun τ1 H6 k1 s6 => ⟨s.trans s6, k1, by rw [ea, sJ hd2]⟩
  show g x τ H1 fun τ1 H4 => if true = true then te τ1 H4 fun v H6 => lu H f ds okT (i + 1) (acc ++ [v]) τ1 H6 else lu H f ds okT (i + 1) acc τ1 H4
  simp only [if_true]
  exact z
 ·rw [ea, hl, List.take_length]
  exact hd H1 d s hn
theorem v7 (f : PyData → Bool) (okT : St → Prop) (hR : R = wG mp g Fd te σ Q) (tr : aF ok H xs ds) (e : H a = some (.lst xs)) (hz : xs.length ≤ 1000000) (h0 : okT (iU mp σ))
  (hs : ∀ x d τ H1 (Qn : V → St → Hp → Prop), d ∈ ds → Same H H1 → aO ok H1 x d → okT τ → (∀ τ1 H6, okT τ1 → Same H1 H6 → Qn (.bl (f d)) τ1 H6) → g x τ H1 fun τ1 H4 => te τ1 H4 fun v H6 => Qn v τ1 H6)
  (hd : ∀ H2 d, Same H H2 → H2 d = none → Q (.ref d) (upd H2 d (.lst ((ds.map f).map V.bl)))) : R (Itl K a) H := by
 have hl := tr.length
 refine rY hR (bx hz) (lu H f ds okT) ⟨Same.refl _, h0, rfl⟩ (fun i acc τ H1 ⟨_, _, e⟩ => by rw [e]; exact uR f ds i) (fun i acc τ H1 ⟨s, _, _⟩ => SqL.of (s _ _ e)) (fun i x acc τ H1 hx ⟨s, k, ea⟩ => ?_) (fun acc τ H1 d ⟨s, k, ea⟩ hn => ?_)
 ·obtain ⟨d, hd2, td⟩ := tr.get hx
  have z := hs x d τ H1 (fun v τ1 H6 => lu H f ds okT (i + 1) (acc ++ [v]) τ1 H6) (List.mem_of_getElem? hd2) s (td.same s) k fun τ1 H6 k1 s6 => ⟨s.trans s6, k1, by rw [ea, sJ hd2]⟩
  show g x τ H1 fun τ1 H4 => if true = true then te τ1 H4 fun v H6 => lu H f ds okT (i + 1) (acc ++ [v]) τ1 H6 else lu H f ds okT (i + 1) acc τ1 H4
  simp only [if_true]
  exact z
 ·rw [ea, hl, List.take_length]
  exact hd H1 d s hn
end
theorem Vu (n : Nat) : inV (V.int (n : Nat)) [V.int 2, V.int 3] = (decide (n = 2) || decide (n = 3)) := by
 unfold inV
 show (((2 : Int) == (n : Int)) || (((3 : Int) == (n : Int)) || false)) = _
 rw [Bool.or_false]
 congr 1
 ·rw [Bool.eq_iff_iff, beq_iff_eq, decide_eq_true_eq]; omega
 ·rw [Bool.eq_iff_iff, beq_iff_eq, decide_eq_true_eq]; omega
theorem xZ {w s : Int} {ds : List PyData} (h2 : ds.length ≠ 2) (h3 : ds.length ≠ 3) : cW w s (.tuple ds) = false := by
 match ds, h2, h3 with
 | [], _, _ => rfl
 | [d], _, _ => cases d <;> rfl
 | [_, _], h, _ => exact absurd rfl h
 | [_, _, _], _, h => exact absurd rfl h
 | a :: b :: c :: _ :: _, _, _ => cases a <;> (first | rfl | (cases b <;> (first | rfl | (cases c <;> rfl))))
theorem aF.two {ok : Addr → Prop} {H : Hp} {xs : List V} {ds : List PyData} (t : aF ok H xs ds) (h : xs.length = 2) : ∃ x y d e, xs = [x, y] ∧ ds = [d, e] ∧ aO ok H x d ∧ aO ok H y e := by
 cases t with
 | nil => cases h
 | cons t1 t =>
  cases t with
  | nil => cases h
  | cons t2 t =>
   cases t with
   | nil => exact ⟨_, _, _, _, rfl, rfl, t1, t2⟩
   | cons _ _ => simp at h
theorem aF.three {ok : Addr → Prop} {H : Hp} {xs : List V} {ds : List PyData} (t : aF ok H xs ds) (h : xs.length = 3) : ∃ x y z d e f, xs = [x, y, z] ∧ ds = [d, e, f] ∧ aO ok H x d ∧ aO ok H y e ∧ aO ok H z f := by
 cases t with
 | nil => cases h
 | cons t1 t =>
  cases t with
  | nil => cases h
  | cons t2 t =>
   cases t with
   | nil => cases h
   | cons t3 t =>
    cases t with
    | nil => exact ⟨_, _, _, _, _, _, rfl, rfl, t1, t2, t3⟩
    | cons _ _ => simp at h
def eF (d : PyData) (z : Str) : Bool := match d with
 | .str x => decide (x = z)
 | _ => false
theorem rR {ok : Addr → Prop} {H : Hp} {x : V} {d : PyData} {z : Str} {Q : VK} (t : aO ok H x d) (q : Q (.bl (eF d z)) H) : qK x (.str z) H Q := by
 cases t with
 | non => exact ⟨rfl, q⟩
 | bl b => exact ⟨rfl, q⟩
 | int i => exact ⟨rfl, q⟩
 | str y => exact ⟨rfl, by rw [show decide (V.str y = V.str z) = decide (y = z) by simp]; exact q⟩
 | lst o e z t => show eqo _ _ _; rw [e]; exact q
 | tup o e z t => show eqo _ _ _; rw [e]; exact q
theorem Cm {d : PyData} (h : eF d "from" = true) : eF d "bits" = false := by
 cases d with
 | str x =>
  have e : x = "from" := of_decide_eq_true h
  rw [e]
  show decide (("from" : Str) = "bits") = false
  exact decide_eq_false (by rw [mU]; exact id)
 | _ => cases h
theorem Dy (w s : Int) (d e : PyData) : cW w s (.tuple [d, e]) = (bJ e && (eF d "is" && (match e with | .int a => inB w s a | _ => false))) := by
 cases e <;> cases d <;> simp [cW, bJ, eF]
theorem Dw (w s : Int) (d e f : PyData) : cW w s (.tuple [d, e, f]) = (bJ e && bJ f && (match e, f with | .int a, .int b => (eF d "from" && (inB w s a && inB w s b && decide (a ≤ b))) || (eF d "bits" && (upB w a && upB w b)) | _, _ => false)) := by
 cases e <;> cases f <;> cases d <;> simp [cW, bJ, eF]
def itD : It1 → PyData
 | .one a => .tuple [.str "is", .int a]
 | .rng a b => .tuple [.str "from", .int a, .int b]
 | .bits m v => .tuple [.str "bits", .int m, .int v]
def fB (its : List It1) : PyData := .list (its.map itD)
def fQ (w s : Int) (css : List (List It1)) : PyData := .tuple [.int w, .int s, .list (css.map fB)]
theorem lq.tree {H : Hp} {t : Addr} {it : It1} {ok : Addr → Prop} (h : lq H t it) (o : ok t) : aO ok H (.ref t) (itD it) := by
 cases it with
 | one a => exact .tup o h.h (by show 2 ≤ 1000000; decide) (.cons (.str _) (.cons (.int _) .nil))
 | rng a b => exact .tup o h.h (by show 3 ≤ 1000000; decide) (.cons (.str _) (.cons (.int _) (.cons (.int _) .nil)))
 | bits m v => exact .tup o h.h (by show 3 ≤ 1000000; decide) (.cons (.str _) (.cons (.int _) (.cons (.int _) .nil)))
theorem rP {p c : Addr} {H Hk : Hp} {B : Int} (s : cT p H Hk) (t : bB Hk p B) (h : Hk c = none) : c ≠ p ∧ H c = none := by
 have n := t.ne h
 refine ⟨n, ?_⟩
 cases e : H c with
 | none => rfl
 | some o => rw [s _ _ n e] at h; cases h
theorem lB {p c : Addr} {H H' : Hp} {o : HO} (s : cT p H H') (h : H c = none) : cT p H (upd H' c o) := fun b u n e => by
 rw [aH (aK e h)]
 exact s b u n e
theorem bB.upd {H : Hp} {p c : Addr} {B : Int} {o : HO} (t : bB H p B) (n : c ≠ p) : bB (upd H c o) p B := by
 obtain ⟨a, b, c', e, r⟩ := t
 exact ⟨a, b, c', by rw [aH (Ne.symm n)]; exact e, r⟩
theorem sU {α : Type} (l : List α) (x : α) : atI (l ++ [x]) (-1) = some x := by
 unfold atI ixN
 rw [if_neg (by decide), if_pos (by rw [List.length_append, List.length_singleton]; omega)]
 show (l ++ [x])[_]? = some x
 rw [List.getElem?_append_right (by rw [List.length_append, List.length_singleton]; omega)]
 rw [show (-1 + ((l ++ [x]).length : Int)).toNat - l.length = 0 by rw [List.length_append, List.length_singleton]; omega]
 rfl
def FJ : Sp := fun vs H Q _ => ∃ (p : Addr) (B : Int), vs = [.ref p] ∧ bB H p B ∧ 0 ≤ B ∧ B ≤ 900000 ∧
 ∀ (w s : Int) (t : Addr) (css : List (List It1)) H', 1 ≤ w → w ≤ 40 → (s = 0 ∨ s = 1) → cT p H H' → bB H' p (B + 6000) → aO (· ≠ p) H' (.ref t) (fQ w s css) →
  (∀ its ∈ css, its.length ≤ 6 ∧ ∀ it ∈ its, it.Ok w s) → css.length ≤ 12 → Q (.ref t) H'
theorem vR {w s : Int} : fX w s (wl w s) := ⟨Int.le_refl _, by have := two_pow_pos w.toNat; omega⟩
section
variable {ok : Addr → Prop} {σ : St} {H0 H : Hp} {ta tb te : TE} {tr : TA} {d e : PyData} {ds es : List PyData} {D : Ends} {i : Nat}
end
structure Bd (n k : Nat) (d : PyData) : Prop where
 sm : smD d = true
 nd : nodes d ≤ n
 dp : d.depth ≤ k
theorem Bd.mono {n k n' k' : Nat} {d : PyData} (b : Bd n k d) (h1 : n ≤ n') (h2 : k ≤ k') : Bd n' k' d := ⟨b.sm, Nat.le_trans b.nd h1, Nat.le_trans b.dp h2⟩
theorem Bd.tell {n k : Nat} {d : PyData} (b : Bd n k d) (h1 : n ≤ 200000) (h2 : k ≤ 100) : JV d := ⟨b.sm, Nat.le_trans b.nd h1, Nat.le_trans b.dp h2⟩
theorem zV {n k : Nat} : ∀ {ds : List PyData}, (∀ d ∈ ds, Bd n k d) → mV ds = true ∧ dW ds ≤ ds.length * n ∧ PyData.depthAll ds ≤ k
 | [], _ => ⟨rfl, Nat.zero_le _, Nat.zero_le _⟩
 | d :: ds, h => by
  have h1 := h d List.mem_cons_self
  obtain ⟨a, b, c⟩ := zV fun x hx => h x (List.mem_cons_of_mem _ hx)
  have := h1.nd
  have := h1.dp
  refine ⟨by rw [mV, h1.sm, a]; rfl, ?_, ?_⟩
  ·rw [dW, List.length_cons, Nat.succ_mul]; omega
  ·rw [PyData.depthAll.eq_2]; omega
theorem BZ {n k m : Nat} {ds : List PyData} (h : ∀ d ∈ ds, Bd n k d) (hl : ds.length ≤ m) : Bd (1 + m * n) (k + 1) (.list ds) := by
 obtain ⟨a, b, c⟩ := zV h
 have := Nat.mul_le_mul_right n hl
 refine ⟨a, ?_, ?_⟩
 ·show 1 + dW ds ≤ _; omega
 ·rw [PyData.depth.eq_1]; omega
theorem nR {n k m : Nat} {ds : List PyData} (h : ∀ d ∈ ds, Bd n k d) (hl : ds.length ≤ m) : Bd (1 + m * n) (k + 1) (.tuple ds) := by
 obtain ⟨a, b, c⟩ := zV h
 have := Nat.mul_le_mul_right n hl
 refine ⟨a, ?_, ?_⟩
 ·show 1 + dW ds ≤ _; omega
 ·rw [PyData.depth.eq_2]; omega
theorem mQ {i : Int} (h : i.natAbs < 2 ^ 55) : Bd 1 0 (.int i) := ⟨by show decide _ = true; exact decide_eq_true (.inr (.inr h)), Nat.le_refl _, Nat.le_refl _⟩
theorem Tr {x : Str} (h : (reprText x).length ≤ 50) : Bd 1 0 (.str x) := ⟨by show decide _ = true; exact decide_eq_true h, Nat.le_refl _, Nat.le_refl _⟩
theorem wA {x : Str} (h : x = "is" ∨ x = "from" ∨ x = "bits") : Bd 1 0 (.str x) := by
 rcases h with rfl | rfl | rfl <;> exact Tr (by decide +kernel)
theorem Oz {w s : Int} {it : It1} (hw1 : 1 ≤ w) (hw2 : w ≤ 40) (hs : s = 0 ∨ s = 1) (h : it.Ok w s) : Bd 4 1 (itD it) := by
 have b := nY hw1 hw2 hs
 have ik : ∀ {a : Int}, fX w s a → a.natAbs < 2 ^ 55 := fun {a} h => by have := h.1; have := h.2; omega
 have nk : ∀ {a : Nat}, a < 2 ^ w.toNat → ((a : Int)).natAbs < 2 ^ 55 := fun {a} h => by
  have : 2 ^ w.toNat ≤ 2 ^ 40 := Nat.pow_le_pow_right (by decide) (by omega)
  omega
 cases it with
 | one a =>
  refine (nR (n := 1) (k := 0) (m := 3) ?_ (by show 2 ≤ 3; decide))
  intro d hd
  simp only [List.mem_cons, List.not_mem_nil, or_false] at hd
  rcases hd with rfl | rfl
  ·exact wA (.inl rfl)
  ·exact mQ (ik h)
 | rng a c =>
  refine (nR (n := 1) (k := 0) (m := 3) ?_ (by show 3 ≤ 3; decide))
  intro d hd
  simp only [List.mem_cons, List.not_mem_nil, or_false] at hd
  rcases hd with rfl | rfl | rfl
  ·exact wA (.inr (.inl rfl))
  ·exact mQ (ik h.1)
  ·exact mQ (ik h.2.1)
 | bits m v =>
  refine (nR (n := 1) (k := 0) (m := 3) ?_ (by show 3 ≤ 3; decide))
  intro d hd
  simp only [List.mem_cons, List.not_mem_nil, or_false] at hd
  rcases hd with rfl | rfl | rfl
  ·exact wA (.inr (.inr rfl))
  ·exact mQ (nk h.1)
  ·exact mQ (nk h.2.1)
theorem OD {w s : Int} {its : List It1} {m : Nat} (hw1 : 1 ≤ w) (hw2 : w ≤ 40) (hs : s = 0 ∨ s = 1) (h : ∀ it ∈ its, it.Ok w s) (hl : its.length ≤ m) : Bd (1 + m * 4) 2 (fB its) :=
 BZ (fun d hd => by
  obtain ⟨it, hi, rfl⟩ := List.mem_map.mp hd
  exact Oz hw1 hw2 hs (h it hi)) (by rw [List.length_map]; exact hl)
theorem JN {n k : Nat} {w s : Int} {d : PyData} (hw1 : 1 ≤ w) (hw2 : w ≤ 40) (hs : s = 0 ∨ s = 1) (h : Bd n k d) (hn : 1 ≤ n) : Bd (1 + 3 * n) (k + 1) (.tuple [.int w, .int s, d]) := by
 refine nR ?_ (by show 3 ≤ 3; decide)
 intro x hx
 simp only [List.mem_cons, List.not_mem_nil, or_false] at hx
 rcases hx with rfl | rfl | rfl
 ·exact (mQ (by omega)).mono hn (Nat.zero_le _)
 ·exact (mQ (by omega)).mono hn (Nat.zero_le _)
 ·exact h
theorem S6 {w s : Int} {it : It1} (h : it.Ok w s) : cW w s (itD it) = true := by
 have ik : ∀ {a : Int}, fX w s a → inB w s a = true := fun {a} h => by
  unfold inB
  rw [decide_eq_true h.1, decide_eq_true h.2]
  rfl
 have nk : ∀ {a : Nat}, a < 2 ^ w.toNat → upB w (a : Int) = true := fun {a} h => by
  have e := jj w.toNat
  unfold upB
  rw [decide_eq_true (show (0 : Int) ≤ (a : Int) by omega), decide_eq_true (show (a : Int) < 2 ^ w.toNat by omega)]
  rfl
 cases it with
 | one a =>
  rw [show itD (.one a) = .tuple [.str "is", .int a] from rfl, show cW w s (.tuple [.str "is", .int a]) = (decide (("is" : Str) = "is") && inB w s a) from rfl, ik h]
  simp
 | rng a c =>
  rw [show itD (.rng a c) = .tuple [.str "from", .int a, .int c] from rfl, show cW w s (.tuple [.str "from", .int a, .int c]) = ((decide (("from" : Str) = "from") && (inB w s a && inB w s c && decide (a ≤ c))) || (decide (("from" : Str) = "bits") && (upB w a && upB w c))) from rfl, ik h.1, ik h.2.1, decide_eq_true h.2.2]
  simp
 | bits m v =>
  rw [show itD (.bits m v) = .tuple [.str "bits", .int m, .int v] from rfl, show cW w s (.tuple [.str "bits", .int m, .int v]) = ((decide (("bits" : Str) = "from") && (inB w s m && inB w s v && decide ((m : Int) ≤ v))) || (decide (("bits" : Str) = "bits") && (upB w m && upB w v))) from rfl, nk h.1, nk h.2.1]
  simp
theorem fZ.O7 {k : Nat} {A : Around} (r : fZ k A) : A.units + 200 < cLine := by have := r.un; omega
theorem aF.one {ok : Addr → Prop} {H : Hp} {vs : List V} {d : PyData} (t : aF ok H vs [d]) : ∃ v, vs = [v] ∧ aO ok H v d := by
 cases t with
 | cons t r =>
  cases r
  exact ⟨_, rfl, t⟩
theorem eV {prog : Program} {w : World} {A : Around} {E : Value → Shared → Prop} {s : Shared} {it t : Addr} {i : Nat} {items : Array Value} {x : Value} {Q : Value → Shared → Prop} (hit : s.heap.IsTupleIter it t i) (ht : s.heap.IsTuple t items) (hx : items[i]? = some x)
  (hQ : ∀ h', h'.IsTupleIter it t (i + 1) → Heap.SameBut it s.heap h' → Q x { s with heap := h' }) : wpAny (model prog w) A (Builtin.SmallTypes.nextOf (Value.ref it)) Q E s := by
 obtain ⟨o, ho, hc, hd⟩ := id hit
 obtain ⟨ol, hol, hcl, nl, hdl⟩ := ht
 unfold Builtin.SmallTypes.nextOf
 refine wpAny_bind (wpAny_callSpecial?_slot hit.typeIs F.slot_tuple_iterator_next (wpAny_call_entry F.slot_tuple_iterator_next hit.typeIs F.entry_tuple_iterator_next ?_ (F.args_tuple_iterator_next_1 _)))
 refine wpAny_bind (wpAny_pure (wpAny_bind (wpAny_field ho hd (i := 0) rfl ?_)))
 refine wpAny_ite_false rfl (wpAny_bind (wpAny_field ho hd (i := 1) rfl ?_))
 refine wpAny_bind (wpAny_seqItems hol hdl ?_)
 show wpAny _ _ (match items[(i : Int).toNat]? with
  | some x => (do setField (.ref it) 1 (rawInt ((i : Int) + 1)); ret x)
  | none => _) _ _ _
 rw [Int.toNat_natCast, hx]
 refine wpAny_bind (wpAny_setField ho hd (Nat.lt_succ_self 1) (wpAny_pure ⟨x, rfl, wpAny_pure (hQ _ ?_ ?_)⟩))
 ·refine ⟨_, Heap.get?_update_self _ ho (Obj.isFreed_of_fields (Obj.data_mapFields hd _)), (Obj.cls_mapFields o _).trans hc, ?_⟩
  rw [Obj.data_mapFields hd]
  rfl
 ·exact Heap.SameBut.update s.heap it _
theorem jb {prog : Program} {w : World} {A : Around} {E : Value → Shared → Prop} {s : Shared} {it t : Addr} {i : Nat} {items : Array Value} {Q : Value → Shared → Prop} (hh : A.handled = none) (hit : s.heap.IsTupleIter it t i) (ht : s.heap.IsTuple t items) (hx : items[i]? = none)
  (hE : ∀ h' e, Heap.ExtBut it s.heap h' → (∃ o, h'.get? e = some o ∧ o.cls = Value.type "StopIteration") → E (.ref e) { s with heap := h' }) : wpAny (model prog w) A (Builtin.SmallTypes.nextOf (Value.ref it)) Q E s := by
 obtain ⟨o, ho, hc, hd⟩ := id hit
 obtain ⟨ol, hol, hcl, nl, hdl⟩ := ht
 unfold Builtin.SmallTypes.nextOf
 refine wpAny_bind (wpAny_callSpecial?_slot hit.typeIs F.slot_tuple_iterator_next (wpAny_call_entry F.slot_tuple_iterator_next hit.typeIs F.entry_tuple_iterator_next ?_ (F.args_tuple_iterator_next_1 _)))
 refine wpAny_bind (wpAny_pure (wpAny_bind (wpAny_field ho hd (i := 0) rfl ?_)))
 refine wpAny_ite_false rfl (wpAny_bind (wpAny_field ho hd (i := 1) rfl ?_))
 refine wpAny_bind (wpAny_seqItems hol hdl ?_)
 show wpAny _ _ (match items[(i : Int).toNat]? with
  | some x => _
  | none => (do rule (toString "tuple_iterator.__next__" ++ toString ".end"); setField (.ref it) 0 .none; Builtin.SmallTypes.stopIteration)) _ _ _
 rw [Int.toNat_natCast, hx]
 refine wpAny_bind (wpAny_rule (wpAny_bind (wpAny_setField ho hd (Nat.zero_lt_succ 1) ?_)))
 unfold Builtin.SmallTypes.stopIteration newExc
 refine wpAny_bind (wpAny_bind (wpAny_newObj_type ?_))
 refine wpAny_bind (wpAny_of_eq (a := .none) rfl ?_)
 refine wpAny_newObj_type ?_
 refine wpAny_raiseNew_none hh (hE _ _ ?_ ?_)
 ·exact fun b ob hb e => Heap.get?_push_of_some _ (Heap.get?_push_of_some _ ((Heap.get?_update_other _ _ (Ne.symm hb)).trans e))
 ·exact ⟨_, Heap.get?_push_size _ rfl, rfl⟩
section
variable {X : Cx}
end
theorem Tf {J : It} {g : TG} {tb : TS} {D : Ends} {σ : St} {H : Hp} {R : It → Hp → Prop} (hR : R = (fun J H1 => ∃ W : Nat → Nat → St → Hp → Prop, (∃ m, W 0 m σ H1) ∧ ∀ i m σ H, W i m σ H →
  (J.stop i H ∧ D.nx σ H) ∨ (J.go i H ∧ ∃ N : St → Hp → Prop, (∀ σ' H', N σ' H' → ∃ m', m' < m ∧ W (i + 1) m' σ' H') ∧ ∀ x H', J.yld i H x H' → g x σ H' fun σ2 H2 => tb { D with nx := N, ct := N, bk := D.nx } σ2 H2)))
  (n : Nat) (Pv : Nat → St → Hp → Prop) (h0 : Pv 0 σ H) (hgo : ∀ i σ H, i < n → Pv i σ H → J.go i H) (hst : ∀ σ H, Pv n σ H → J.stop n H)
  (hs : ∀ i σ H x H3, i < n → Pv i σ H → J.yld i H x H3 → g x σ H3 fun σ2 H2 => tb { D with nx := Pv (i + 1), ct := Pv (i + 1), bk := D.nx } σ2 H2) (hd : ∀ σ H, Pv n σ H → D.nx σ H) : R J H := by
 subst hR
 refine ⟨fun i m σ H2 => m = n - i ∧ i ≤ n ∧ Pv i σ H2, ⟨_, rfl, Nat.zero_le _, h0⟩, ?_⟩
 rintro i m σ H2 ⟨rfl, hi, p⟩
 by_cases hlt : i < n
 ·exact .inr ⟨hgo i σ H2 hlt p, Pv (i + 1), fun σ' H' q => ⟨_, by omega, rfl, hlt, q⟩, fun x H3 y => hs i σ H2 x H3 hlt p y⟩
 ·have e : i = n := by omega
  subst e
  exact .inl ⟨hst σ H2 p, hd σ H2 p⟩
section
variable {X : Cx} {e o : Expr} {te to : TE} {pos : Pos}
end
mutual
def szD (a : Nat) : PyData → Prop
 | .none => True
 | .bool _ => True
 | .int i => i.natAbs ≤ 10 ^ 20 * 2 ^ a
 | .str x => x.length ≤ 30 + a ∧ ∀ c ∈ x.cps.toList, c < 16 ^ 8
 | .list ds => ds.length ≤ 210 * 5 ^ a ∧ wK a ds
 | .tuple ds => ds.length ≤ 210 * 5 ^ a ∧ wK a ds
 | .dict _ => False
def wK (a : Nat) : List PyData → Prop
 | [] => True
 | d :: ds => szD a d ∧ wK a ds
end
theorem Ck {a : Nat} : ∀ {ds : List PyData}, wK a ds ↔ ∀ d ∈ ds, szD a d
 | [] => ⟨fun _ d h => (nomatch h), fun _ => trivial⟩
 | x :: ds => by
  show szD a x ∧ wK a ds ↔ _
  rw [Ck (ds := ds)]
  constructor
  ·intro ⟨h1, h2⟩ d hd
   rcases List.mem_cons.mp hd with rfl | z
   ·exact h1
   ·exact h2 d z
  ·intro h
   exact ⟨h x List.mem_cons_self, fun d hd => h d (List.mem_cons_of_mem _ hd)⟩
structure Shw (d : PyData) : Prop where
 sh : d.showable = true
 nd : d.hasDict = false
 dp : d.depth ≤ 100
 ln : d.shown.length ≤ sizeLine
def QZ : List V → Hp → VK → Prop := fun xs H Q => ∃ v ok d, xs = [v] ∧ aO ok H v d ∧ Shw d ∧ Q (.str d.shown) H
theorem sG {X : Cx} (hg : X.A.guards = some []) (hu : X.A.units + 200 < cLine) : cM X (.builtin "repr") QZ := by
 intro pins s σ H xs us Q I r h
 obtain ⟨v, ok, d, rfl, t, ⟨sh, hd, hdp, hl⟩, q⟩ := h
 obtain ⟨u, rfl, rv⟩ := vals1 r
 have nodict : ∀ as : List Addr, d.hasDict = true → ¬ sysModules ∈ as := fun as z => by rw [hd] at z; cases z
 cases t with
 | non => cases rv; exact P.repr_of_none ⟨.str _, H, I.tok _, ⟨_, rfl⟩, q⟩
 | bl b => cases rv; exact P.repr_of_bool ⟨.str _, H, I.tok _, ⟨_, rfl⟩, q⟩
 | int i =>
  obtain ⟨t, rfl⟩ := rv
  exact P.repr_of_int (of_decide_eq_true sh) ⟨.str _, H, I.tok _, ⟨_, rfl⟩, q⟩
 | str x =>
  obtain ⟨t, rfl⟩ := rv
  exact P.repr_of_str ⟨.str _, H, I.tok _, ⟨_, rfl⟩, q⟩ hl
 | lst o e z t =>
  obtain ⟨as, rd⟩ := aO.reads I (aO.lst o e z t) rv
  cases rv
  exact repr_of_reads' rd sh (nodict as) hg (by omega) (fun _ _ z => z) (fun h' u tk k => ⟨.str _, H, I.kept k, ⟨_, rfl⟩, q⟩) hl
 | tup o e z t =>
  obtain ⟨as, rd⟩ := aO.reads I (aO.tup o e z t) rv
  cases rv
  exact repr_of_reads' rd sh (nodict as) hg (by omega) (fun _ _ z => z) (fun h' u tk k => ⟨.str _, H, I.kept k, ⟨_, rfl⟩, q⟩) hl
theorem nJ {x : PyData} : ∀ {ds : List PyData}, x ∈ ds → x.depth ≤ PyData.depthAll ds
 | y :: ds, h => by
  rw [PyData.depthAll.eq_2]
  rcases List.mem_cons.mp h with rfl | z
  ·omega
  ·have := nJ z; omega
theorem ux {H H' : Hp} {l : Addr} {o : HO} (s : Same H H') (h : H l = none) : Same H (upd H' l o) := fun b u e => by
 rw [aH (aK e h)]
 exact s b u e
section
variable {ok : Addr → Prop} {σ : St} {H0 : Hp}
end
section
variable {X : Cx} {a : Expr} {ta : TE}
def trq (ob : Option HO) (H : Hp) (Q : Bool → Hp → Prop) : Prop := match ob with
 | some (.lst xs) => Q (!xs.isEmpty) H
 | some (.tup xs) => Q (!xs.isEmpty) H
 | _ => False
def Cg (x : V) (H : Hp) (Q : Bool → Hp → Prop) : Prop := match x with
 | .ref p => trq (H p) H Q
 | .bl b => Q b H
 | .int i => Q (i != 0) H
 | .non => Q false H
 | _ => False
def Ve (te : TE) : TT := fun σ H Q => te σ H fun x H1 => Cg x H1 Q
theorem J7 (te : TE) (σ : St) (H : Hp) (Q : Bool → Hp → Prop) : Ve te σ H Q = te σ H fun x H1 => Cg x H1 Q := rfl
theorem Ez (p : Addr) (H : Hp) (Q : Bool → Hp → Prop) : Cg (.ref p) H Q = trq (H p) H Q := rfl
theorem Fb (i : Int) (H : Hp) (Q : Bool → Hp → Prop) : Cg (.int i) H Q = Q (i != 0) H := rfl
theorem J2 (b : Bool) (H : Hp) (Q : Bool → Hp → Prop) : Cg (.bl b) H Q = Q b H := rfl
theorem EY (H : Hp) (Q : Bool → Hp → Prop) : Cg .non H Q = Q false H := rfl
theorem J4 (xs : List V) (H : Hp) (Q : Bool → Hp → Prop) : trq (some (.lst xs)) H Q = Q (!xs.isEmpty) H := rfl
theorem J3 (xs : List V) (H : Hp) (Q : Bool → Hp → Prop) : trq (some (.tup xs)) H Q = Q (!xs.isEmpty) H := rfl
end
def rd6 := And.intro @J7 (And.intro @Ez (And.intro @Fb (And.intro @J2 (And.intro @EY (And.intro @J4 @J3)))))
structure RowS (ss : List (Int × Int × Int)) : Prop where
 lh : ∀ (i : Nat) s, ss[i]? = some s → s.1 ≤ s.2.1 ∧ 0 ≤ s.2.2 ∧ s.2.2 ≤ 9
 nx : ∀ (i : Nat) s t, ss[i]? = some s → ss[i + 1]? = some t → t.1 = s.2.1 + 1
 bd : ∀ (i : Nat) s, ss[i]? = some s → -(10 ^ 12) ≤ s.1 ∧ s.2.1 ≤ 10 ^ 9 + (10 ^ 12 + 10) * (i + 1)
theorem JV.shw {d : PyData} (t : JV d) : Shw d := ⟨(u9 d t.sm).1, (u9 d t.sm).2, t.dp, t.len⟩
section
variable {κ : Type} [DecidableEq κ]
def lX (kvs : List (κ × V)) (k : κ) : Option V := (kvs.find? fun kv => decide (kv.1 = k)).map (·.2)
def putK (kvs : List (κ × V)) (k : κ) (v : V) : List (κ × V) :=
 if (kvs.any fun kv => decide (kv.1 = k)) = true then kvs.map (fun kv => if kv.1 = k then (kv.1, v) else kv) else kvs ++ [(k, v)]
theorem wH {p : κ × V} {r : List (κ × V)} {k : κ} (e : p.1 = k) : lX (p :: r) k = some p.2 := by simp [lX, List.find?_cons, e]
theorem wI {p : κ × V} {r : List (κ × V)} {k : κ} (e : ¬ p.1 = k) : lX (p :: r) k = lX r k := by simp [lX, List.find?_cons, e]
theorem xV (kvs : List (κ × V)) (k : κ) (v : V) : (putK kvs k v).length ≤ kvs.length + 1 := by
 unfold putK
 split
 ·rw [List.length_map]; omega
 ·rw [List.length_append, List.length_cons, List.length_nil]; omega
theorem KV.val {kvs : List (κ × V)} {vs : List (κ × Value)} (r : KV kvs vs) (k : κ) : wD (lX kvs k) (valueAt vs k) := by
 unfold KV at r
 induction r with
 | nil => exact True.intro
 | @cons p q ps qs h t ih =>
  obtain ⟨h1, h2⟩ := h
  by_cases e : p.1 = k
  ·have e' : q.1 = k := h1.symm.trans e
   have b : valueAt (q :: qs) k = some q.2 := by simp [valueAt, List.find?_cons, e']
   rw [wH e, b]; exact h2
  ·have e' : ¬ q.1 = k := fun z => e (h1.trans z)
   have b : valueAt (q :: qs) k = valueAt qs k := by simp [valueAt, List.find?_cons, e']
   rw [wI e, b]; exact ih
theorem KV.any {kvs : List (κ × V)} {vs : List (κ × Value)} (r : KV kvs vs) (k : κ) : (kvs.any fun kv => decide (kv.1 = k)) = vs.any fun kv => decide (kv.1 = k) := by
 unfold KV at r
 induction r with
 | nil => rfl
 | cons h t ih => rw [List.any_cons, List.any_cons, ih, h.1]
theorem KV.repl {kvs : List (κ × V)} {vs : List (κ × Value)} (r : KV kvs vs) (k : κ) {y : V} {u : Value} (ry : RelV y u) :
  KV (kvs.map fun kv => if kv.1 = k then (kv.1, y) else kv) (vs.map fun kv => if kv.1 = k then (kv.1, u) else kv) := by
 unfold KV at r ⊢
 induction r with
 | nil => exact .nil
 | @cons p q ps qs h t ih =>
  rw [List.map_cons, List.map_cons]
  refine .cons ?_ ih
  obtain ⟨h1, h2⟩ := h
  by_cases e : p.1 = k
  ·rw [if_pos e, if_pos (h1.symm.trans e)]; exact ⟨h1, ry⟩
  ·rw [if_neg e, if_neg (fun z => e (h1.trans z))]; exact ⟨h1, h2⟩
theorem KV.put {kvs : List (κ × V)} {vs : List (κ × Value)} (r : KV kvs vs) (k : κ) {y : V} {u : Value} (ry : RelV y u) : KV (putK kvs k y) (stored vs k u) := by
 unfold putK stored
 rw [r.any k]
 by_cases e : (vs.any fun kv => decide (kv.1 = k)) = true
 ·rw [if_pos e, if_pos e]; exact r.repl k ry
 ·rw [if_neg e, if_neg e]; exact Paired.snoc r ⟨rfl, ry⟩
end
theorem Iu {P : Program} {w : World} {k : Key} {u : Value} (r : RelV (kV k) u) : (cU P w).is k u = true := by
 cases k with
 | inl i => obtain ⟨t, e⟩ := (show ∃ t, u = Value.int i t from r); subst e; exact xU P w i t
 | inr x => obtain ⟨t, e⟩ := (show ∃ t, u = Value.str x t from r); subst e; exact xT P w x t
theorem uL {P : Program} {w : World} : ∀ {ks : List Key} {us : List Value}, Vals (ks.map kV) us → ItemsAre (cU P w) ks us
 | [], _, r => by rw [List.map_nil] at r; cases r; exact .nil
 | k :: ks, _, r => by
  rw [List.map_cons] at r
  cases r with
  | cons h t => exact .cons (Iu h) (uL t)
abbrev KT (H : Hp) : List (List Key × V) → List (List Key × Addr × Value) → Prop := Paired fun p q => p.1 = q.1 ∧ H q.2.1 = some (.tup (p.1.map kV)) ∧ RelV p.2 q.2.2
theorem KT.val {H : Hp} {kvs : List (List Key × V)} {xs : List (List Key × Addr × Value)} (r : KT H kvs xs) (k : List Key) : wD (lX kvs k) ((atKey xs k).map (·.2)) := by
 induction r with
 | nil => exact True.intro
 | @cons p q ps qs h t ih =>
  obtain ⟨h1, _, h2⟩ := h
  by_cases e : p.1 = k
  ·have e' : q.1 = k := h1.symm.trans e
   have b : atKey (q :: qs) k = some q.2 := by simp [atKey, List.find?_cons, e']
   rw [wH e, b]; exact h2
  ·have e' : ¬ q.1 = k := fun z => e (h1.trans z)
   have b : atKey (q :: qs) k = atKey qs k := by simp [atKey, List.find?_cons, e']
   rw [wI e, b]; exact ih
section
variable {P : Program} {w : World} {H : Hp} {h : Heap} {a : Addr}
theorem Pk {u : HO} (ok : HOk P w H h) (e : Rd H a u) : cu P w H h a u := e.ok ok
theorem Ju {kvs : List (Key × V)} (ok : HOk P w H h) (e : Rd H a (.dK kvs)) : kvs.length ≤ sizeLine ∧ (a == sysModules) = false ∧ ∃ vs, KV kvs vs ∧ h.DictOf (cU P w) a vs :=
 show cu P w H h a (.dK kvs) from Pk ok e
theorem U7 {kvs : List (Key × V)} (ok : HOk P w H h) (e : H a = some (.dK kvs)) : kvs.length ≤ sizeLine ∧ (a == sysModules) = false ∧ ∃ vs, KV kvs vs ∧ h.DictOf (cU P w) a vs := Ju ok (.inl e)
theorem Ip {ks : List Key} (ok : HOk P w H h) (e : H a = some (.tup (ks.map kV))) : (tupleKind (cU P w)).is h ks a := by
 obtain ⟨_, its, r, o, h1, h2, n, h3⟩ := (show cu P w H h a (.tup (ks.map kV)) from ok a _ e)
 exact ⟨o, its.toArray, n, h1, h2, h3, by simpa using uL r⟩
theorem PJ {kvs : List (List Key × V)} (ok : HOk P w H h) (e : Rd H a (.dT kvs)) : kvs.length ≤ sizeLine ∧ (a == sysModules) = false ∧
  ∃ xs, KT H kvs xs ∧ h.DictOfH (tupleKind (cU P w)) a xs := by
 obtain ⟨z, y, xs, r, o, es, ep, h1, h2, h3, h4, h5⟩ := (show cu P w H h a (.dT kvs) from Pk ok e)
 refine ⟨z, y, xs, r, o, es, ep, h1, h2, h3, h4, fun x hx => ?_, h5⟩
 have all : ∀ {l : List (List Key × V)} {m : List (List Key × Addr × Value)}, KT H l m → ∀ x ∈ m, (tupleKind (cU P w)).is h x.1 x.2.1 := by
  intro l m q
  induction q with
  | nil => intro x hx; exact nomatch hx
  | @cons p q ps qs hq t ih =>
   intro x hx
   rcases List.mem_cons.mp hx with e | hx
   ·subst e
    exact Ip ok (by rw [← hq.1]; exact hq.2.1)
   ·exact ih x hx
 exact all r x hx
end
def qi (H : Hp) (a : Addr) (y : V) (r : Option V) : Prop :=
 (∃ kvs k, Rd H a (.dK kvs) ∧ y = kV k ∧ r = lX kvs k) ∨ ∃ kvs k b, Rd H a (.dT kvs) ∧ y = .ref b ∧ H b = some (.tup (k.map kV)) ∧ r = lX kvs k
def Vc (H : Hp) (a : Addr) (y v : V) (H' : Hp) : Prop :=
 (∃ kvs k, H a = some (.dK kvs) ∧ y = kV k ∧ kvs.length < sizeLine ∧ H' = upd H a (.dK (putK kvs k v))) ∨
 ∃ kvs k b, H a = some (.dT kvs) ∧ y = .ref b ∧ H b = some (.tup (k.map kV)) ∧ kvs.length < sizeLine ∧ H' = upd H a (.dT (putK kvs k v))
theorem qi.k {H : Hp} {a : Addr} {kvs : List (Key × V)} {k : Key} (e : H a = some (.dK kvs)) : qi H a (kV k) (lX kvs k) := .inl ⟨kvs, k, .inl e, rfl, rfl⟩
section
variable {X : Cx} {pins : List (Addr × Obj)} {σ : St} {H : Hp} {s : Shared} {a : Addr} {y v : V} {u r : Value} {o : Option V} {A : Around} {E : Value → Shared → Prop}
theorem Inv.big (I : Inv X pins σ H s) : sysModules < s.heap.objs.size := by
 have h : mainGlobals < s.heap.objs.size := (I.mod.glob.keeps I.bk).lt
 exact Nat.lt_trans (by decide) h
theorem Ea {Q : Value → Shared → Prop} (hu : A.units + 1 < cLine) (I : Inv X pins σ H s) (g : qi H a y (some v)) (ry : RelV y u) (h : ∀ w' s', Inv X pins σ H s' → RelV v w' → Q w' s') :
  wpAny (model X.prog X.w) A (getItem (.ref a) u) Q E s := by
 rcases g with ⟨kvs, k, e, ey, l⟩ | ⟨kvs, k, b, e, ey, eb, l⟩
 ·subst ey
  obtain ⟨z, hd, vs, rel, dd⟩ := Ju I.hok e
  obtain ⟨w', hw, rw'⟩ := wD.some_of (v := v) (o := valueAt vs k) (by rw [l]; exact rel.val k)
  exact wpAny_getItem_of (Iu ry) dd.mapOf hw (h w' _ (I.tok _) rw')
 ·subst ey
  cases (show u = Value.ref b from ry)
  obtain ⟨z, hd, xs, rel, dd⟩ := PJ I.hok e
  obtain ⟨w', hw, rw'⟩ := wD.some_of (v := v) (o := (atKey xs k).map (·.2)) (by rw [l]; exact rel.val k)
  obtain ⟨p, hp, hp2⟩ := Option.map_eq_some_iff.mp hw
  refine wpAny_getItem_heap (tupleKind_room_in1 hu) (Ip I.hok eb) dd hp ?_
  rw [hp2]
  exact h w' _ (I.tok _) rw'
theorem Oo {h' : Heap} {t' : Nat} {ob : HO} (I : Inv X pins σ H s) (mu : Mut (H a)) (hs : Heap.SameBut a s.heap h') (he : ∃ q, h'.get? a = some q) (new : cu X.prog X.w (upd H a ob) h' a ob) :
  Inv X pins σ (upd H a ob) { s with heap := h', toks := t' } :=
 I.write (x := a) (e := a) mu (.inl rfl) (fun b q hb z => (hs.2 b hb).trans z) he new
theorem Ti {P : Program} {w : World} {H' : Hp} {h' : Heap} {kvs : List (Key × V)} {vs : List (Key × Value)} (z : kvs.length ≤ sizeLine) (hd : (a == sysModules) = false) (rel : KV kvs vs) (dd : h'.DictOf (cU P w) a vs) :
  cu P w H' h' a (.dK kvs) := ⟨z, hd, vs, rel, dd⟩
end
section
variable {X : Cx} {pins : List (Addr × Obj)} {σ : St} {H : Hp} {s : Shared} {a : Addr} {kvs : List (Key × V)} {k : Key} {u : Value} {A : Around} {E : Value → Shared → Prop}
end
def TQ (i : Expr) : Prop := ∀ ov iv, subscripted i false ov iv = operate [ov, iv] (getItem ov iv)
theorem Ka {prog : Program} {w : World} {A : Around} {E : Value → Shared → Prop} {s : Shared} {env : Env} {value slice : Expr} {pos : Pos} {T id : String} {Q : Value → Shared → Prop}
  (hl : typeLookup (.type T) "__getitem__" = pure (some (.builtin id))) (hs : TQ slice)
  (h : wpAny (model prog w) A (eval value env) (fun o s₁ => wpAny (model prog w) A (eval slice env) (fun i s₂ => s₂.TypeIs o T ∧ wpAny (model prog w) A (getItem o i) Q E s₂) E s₁) E s) :
  wpAny (model prog w) A (eval (.Subscript value slice pos) env) Q E s := by
 refine Subscript_ (wpAny_mono h (fun o s₁ h₁ => wpAny_mono h₁ (fun i s₂ h₂ => ?_) fun _ _ x => x) fun _ _ x => x)
 obtain ⟨hT, h₂⟩ := h₂
 unfold subscriptTail
 refine wpAny_bind ?_
 rw [getitemInPython_of_ne hT.not_modules]
 refine wpAny_bind (wpAny_specialOf hT hl ?_)
 have fin : wpAny (model prog w) A (subscripted slice false o i) (fun r s₃ => wpAny (model prog w) A (letTemporaryGo value o r >>= fun _ => pure r) Q E s₃) E s₂ := by
  rw [hs o i]
  exact wpAny_operating (wpAny_mono h₂ (fun r s₃ h₃ => wpAny_bind (wpAny_letTemporaryGo (wpAny_pure h₃))) fun _ _ x => x)
 first
  | exact wpAny_pure (wpAny_bind fin)
  | exact wpAny_bind (wpAny_pure (wpAny_bind fin))
  | exact wpAny_bind fin
theorem ye {X : Cx} {pins : List (Addr × Obj)} {σ : St} {H : Hp} {s : Shared} {a : Addr} {y : V} {o : Option V} (I : Inv X pins σ H s) (g : qi H a y o) : s.TypeIs (.ref a) "dict" := by
 rcases g with ⟨kvs, k, e, _, _⟩ | ⟨kvs, k, b, e, _, _, _⟩
 ·obtain ⟨_, _, vs, _, dd⟩ := Ju I.hok e
  exact dd.typeIs
 ·obtain ⟨_, _, xs, _, dd⟩ := PJ I.hok e
  exact dd.typeIs
def T5 (td ty : TE) : TE := fun σ H Q => td σ H fun x H1 => ty σ H1 fun y H2 => ∃ a v, x = .ref a ∧ qi H2 a y (some v) ∧ Q v H2
section
variable {X : Cx} {o i e value : Expr} {pos pos' tpos : Pos} {td ty tv : TE}
theorem Mx (hu : X.A.units + 1 < cLine) (ho : PE X o td) (hi : PE X i ty) (hs : TQ i) : PE X (.Subscript o i pos) (T5 td ty) := by
 intro pins s σ H Q I h
 refine Ka PySem.F.slot_dict_getitem.lookup hs (thE (ho pins s σ H _ I h) fun u s1 x H1 I1 rx q1 => thn (hi pins s1 σ H1 _ I1 q1) fun iv s2 ⟨y, H2, I2, ry, a, v, ex, g, q2⟩ => ?_)
 subst ex
 obtain rfl : u = Value.ref a := rx
 exact ⟨ye I2 g, Ea hu I2 g ry fun w' s3 I3 rw' => ⟨v, H2, I3, rw', q2⟩⟩
end
theorem Jv {P : Program} {w : World} {H : Hp} (h : Heap) (hb : sysModules < h.objs.size) : cu P w H (h.push { cls := .type "dict", data := .dict #[] }) h.objs.size (.dK []) :=
 ⟨Nat.zero_le _, beq_eq_false_iff_ne.mpr (Ne.symm (Nat.ne_of_lt hb)), [], .nil, Heap.DictOf.new h⟩
section
variable {X : Cx} {pos : Pos}
end
def qy : List (TE × TE) → St → Hp → (List (V × V) → Hp → Prop) → Prop
 | [], _, H, Q => Q [] H
 | (tk, tv) :: r, σ, H, Q => tk σ H fun x H1 => tv σ H1 fun y H2 => qy r σ H2 fun ps H3 => Q ((x, y) :: ps) H3
abbrev VV : List (V × V) → List (Value × Value) → Prop := Paired fun p q => RelV p.1 q.1 ∧ RelV p.2 q.2
def PPs (X : Cx) (pos : Pos) (keys : List (Option Expr)) (values : List Expr) (trs : List (TE × TE)) : Prop :=
 ∀ (pins : List (Addr × Obj)) (s : Shared) (σ : St) (H : Hp) (Q : List (V × V) → Hp → Prop), Inv X pins σ H s → qy trs σ H Q →
  wpAny (model X.prog X.w) X.A (evalPairs (pairTrees keys values X.env pos)) (fun vs s' => ∃ ps H', Inv X pins σ H' s' ∧ VV ps vs ∧ Q ps H') X.xe s
theorem Mg {X : Cx} {pos : Pos} : PPs X pos [] [] [] := fun pins s σ H Q I h => pairTrees_nil_walk ⟨[], H, I, .nil, h⟩
theorem G8 {X : Cx} {pos : Pos} {k v : Expr} {ks : List (Option Expr)} {vs : List Expr} {tk tv : TE} {trs : List (TE × TE)} (hk : PE X k tk) (hv : PE X v tv) (hr : PPs X pos ks vs trs) :
  PPs X pos (some k :: ks) (v :: vs) ((tk, tv) :: trs) := fun pins s σ H Q I h =>
 pairTrees_cons_walk (thE (hk pins s σ H _ I h) fun u s1 x H1 I1 rx q1 => thE (hv pins s1 σ H1 _ I1 q1) fun w2 s2 y H2 I2 ry q2 =>
  thn (hr pins s2 σ H2 _ I2 q2) fun ws s3 ⟨ps, H3, I3, rel, q3⟩ => ⟨(x, y) :: ps, H3, I3, .cons ⟨rx, ry⟩ rel, q3⟩)
def fG (kvs more : List (Key × V)) : List (Key × V) := more.foldl (fun acc kv => putK acc kv.1 kv.2) kvs
theorem KV.merge : ∀ {more : List (Key × V)} {rs : List (Key × Value)} {kvs : List (Key × V)} {vs : List (Key × Value)}, KV more rs → KV kvs vs → KV (fG kvs more) (merged vs rs) := by
 intro more rs kvs vs r
 unfold KV at r
 induction r generalizing kvs vs with
 | nil => intro q; exact q
 | @cons p q ps qs h t ih =>
  intro r0
  have e : KV (putK kvs p.1 p.2) (stored vs q.1 q.2) := by
   have := r0.put p.1 h.2
   rw [← h.1]; exact this
  exact ih e
theorem lW : ∀ (more kvs : List (Key × V)), (fG kvs more).length ≤ kvs.length + more.length
 | [], kvs => by show kvs.length ≤ kvs.length + 0; omega
 | p :: r, kvs => by
  have h1 := lW r (putK kvs p.1 p.2)
  have h2 := xV kvs p.1 p.2
  show (fG (putK kvs p.1 p.2) r).length ≤ _
  rw [List.length_cons]; omega
theorem sE {P : Program} {w : World} : ∀ {kvs : List (Key × V)} {ws : List (Value × Value)}, VV (kvs.map fun kv => (kV kv.1, kv.2)) ws → ∃ rs, Carries (cU P w) ws rs ∧ KV kvs rs
 | [], _, r => by rw [List.map_nil] at r; cases r; exact ⟨[], True.intro, .nil⟩
 | p :: kvs, _, r => by
  rw [List.map_cons] at r
  cases r with
  | @cons a b as bs h t =>
   obtain ⟨rs, c, q⟩ := sE (P := P) (w := w) t
   obtain ⟨b1, b2⟩ := b
   exact ⟨(p.1, b2) :: rs, ⟨Iu h.1, rfl, c⟩, .cons ⟨rfl, h.2⟩ q⟩
def Ft (trs : List (TE × TE)) : TE := fun σ H Q => ∀ p, H p = none → qy trs σ (upd H p (.dK [])) fun ps H2 => H2 p = some (.dK []) ∧ ∃ kvs : List (Key × V), ps = kvs.map (fun kv => (kV kv.1, kv.2)) ∧ kvs.length ≤ 15 ∧ Q (.ref p) (upd H2 p (.dK (fG [] kvs)))
theorem Mw {X : Cx} {pos : Pos} {keys : List (Option Expr)} {values : List Expr} {trs : List (TE × TE)} (h : PPs X pos keys values trs) (hall : keys.all (·.isSome) = true) (hl : keys.length = values.length) (h0 : keys ≠ [])
  (h15 : keys.length ≤ 15) : PE X (.Dict keys values pos) (Ft trs) := by
 intro pins s σ H Q I q
 have hn := I.hok.fresh (Nat.le_refl s.heap.objs.size)
 have I1 := I.laid (a := s.heap.objs.size) (o := .dK []) (h' := s.heap.push { cls := .type "dict", data := .dict #[] }) (t' := s.toks) (fun _ _ q => Heap.get?_push_of_some _ q) (Nat.le_refl _) (Jv s.heap I.big)
 refine wpAny_Dict_walk (knd := cU X.prog X.w) hall hl h0 h15 (thn (h pins _ σ _ _ I1 (q _ hn)) fun ws s2 ⟨ps, H2, I2, rel, e, kvs, ep, lk, q2⟩ => ?_)
 subst ep
 obtain ⟨rs, c, rk⟩ := sE (P := X.prog) (w := X.w) rel
 obtain ⟨z, hd, vs0, r0, dd⟩ := U7 I2.hok e
 cases r0
 refine ⟨rs, c, dd, fun h' dd' hs => ⟨.ref s.heap.objs.size, _, ?_, rfl, q2⟩⟩
 have hz : (fG [] kvs).length ≤ sizeLine := by
  have h1 := lW kvs []
  rw [List.length_nil] at h1
  rw [sizeLine_eq]; omega
 have he : ∃ q, h'.get? s.heap.objs.size = some q := let ⟨q, _, _, hq, _⟩ := dd'; ⟨q, hq⟩
 exact Oo I2 (by rw [e]; exact True.intro) hs he (Ti hz hd (rk.merge .nil) dd')
def IsD (H : Hp) (a : Addr) : Prop := (∃ kvs, Rd H a (.dK kvs)) ∨ ∃ kvs, Rd H a (.dT kvs)
section
variable {X : Cx} {pins : List (Addr × Obj)} {σ : St} {H : Hp} {s : Shared} {a : Addr} {y d : V} {u r : Value} {o : Option V} {A : Around} {E : Value → Shared → Prop}
end
def Qu (td ty tx : TE) : TE := fun σ H Q => td σ H fun x H1 => ∃ a, x = .ref a ∧ IsD H1 a ∧ ty σ H1 fun y H2 => tx σ H2 fun z H3 => ∃ o, qi H3 a y o ∧ Q (o.getD z) H3
section
variable {X : Cx} {o e f : Expr} {apos cpos : Pos} {td ty tx : TE}
end
section
variable {X : Cx} {pins : List (Addr × Obj)} {σ : St} {H : Hp} {s : Shared} {a : Addr} {kvs : List (Key × V)} {A : Around} {E : Value → Shared → Prop}
end
section
variable {X : Cx} {pins : List (Addr × Obj)} {σ : St} {H : Hp} {s : Shared} {a : Addr} {y : V} {u : Value} {A : Around} {E : Value → Shared → Prop}
end
theorem fZ.Qc {k : Nat} {A : Around} (r : fZ k A) : A.units + 1 < cLine := by have := r.un; omega
section
variable {X : Cx} {pos : Pos}
structure QPs (X : Cx) (pos : Pos) (keys : List (Option Expr)) (values : List Expr) (trs : List (TE × TE)) : Prop where
 h : PPs X pos keys values trs
theorem Lr : QPs X pos [] [] [] := ⟨Mg⟩
theorem qM {k v : Expr} {ks : List (Option Expr)} {vs : List Expr} {tk tv : TE} {trs : List (TE × TE)} (hk : QE X k tk) (hv : QE X v tv) (hr : QPs X pos ks vs trs) : QPs X pos (some k :: ks) (v :: vs) ((tk, tv) :: trs) := ⟨G8 hk.h hv.h hr.h⟩
theorem Lx {keys : List (Option Expr)} {values : List Expr} {trs : List (TE × TE)} (h : QPs X pos keys values trs) (hall : keys.all (·.isSome) = true) (hl : keys.length = values.length) (h0 : keys ≠ []) (h15 : Nat.ble keys.length 15 = true) : QE X (.Dict keys values pos) (Ft trs) := ⟨Mw h.h hall hl h0 (Nat.le_of_ble_eq_true h15)⟩
theorem xq {st : Stmt} : QS X st (fun _ _ _ => False) := ⟨fun _ _ _ _ _ _ h => h.elim⟩
end
def Ga (w : Str) : List Int → Bool
 | [a] => decide (w = "pick") && decide (0 ≤ a)
 | [_, _] => decide (w = "is") || decide (w = "below")
 | [a, b, _] => decide (w = "within") && decide (a ≤ b)
 | [_, wd, bits, _] => decide (w = "mask") && ((decide (1 ≤ wd) && decide (wd ≤ 64)) && (decide (0 ≤ bits) && decide (bits < 2 ^ wd.toNat)))
 | _ => false
def Px (is : List Int) : List Int := match is.getLast? with
 | some t => [t]
 | none => []
def Jg (w : Str) (is : List Int) : List Int := if w = "pick" then [] else Px is
def btw (own many : Int) (t : Int) : Bool := decide (own < t) && decide (t < many)
def rd7 := And.intro @Ft.eq_1 (And.intro @qy.eq_1 (And.intro @qy.eq_2 @Qu.eq_1))
theorem zE {w : Str} {is : List Int} {t : Int} (h : w ≠ "pick") (hl : is.getLast? = some t) : Jg w is = [t] := by
 unfold Jg Px
 rw [if_neg h, hl]
theorem Same.none {H H' : Hp} (s : Same H H') {p : Addr} (h : H' p = none) : H p = none := by
 cases e : H p with
 | none => rfl
 | some o => rw [s _ _ e] at h; cases h
inductive Vz where
 | ins (w : Str) (is : List Int)
 | tab (n : Int) (gs : List Int)
def Vb (many own : Int) : Vz → Prop
 | .ins w is => w ≠ "table" ∧ Ga w is = true ∧ (Jg w is).all (btw own many) = true ∧ (∀ i ∈ is, i.natAbs ≤ 2 ^ 64) ∧ is.length ≤ 4 ∧ w.length ≤ 10
 | .tab n gs => gs ≠ [] ∧ gs.length ≤ 200 ∧ gs.all (btw own many) = true ∧ n.natAbs ≤ 1000
mutual
def szB : PyData → Bool
 | .none => true
 | .bool _ => true
 | .int i => decide (i.natAbs ≤ 10 ^ 20)
 | .str x => decide (x.length ≤ 30) && x.cps.toList.all fun c => decide (c < 16 ^ 8)
 | .list ds => decide (ds.length ≤ 210) && Qx ds
 | .tuple ds => decide (ds.length ≤ 210) && Qx ds
 | .dict _ => false
def Qx : List PyData → Bool
 | [] => true
 | d :: ds => szB d && Qx ds
end
structure Od (d : PyData) : Prop where
 sz : szD 2 d
 nd : nodes d ≤ 300
 dp : d.depth ≤ 90
structure Sm5 (d : PyData) : Prop where
 sz : szD 0 d
 nd : nodes d ≤ 5
 dp : d.depth ≤ 2
theorem qu {prog : Program} {w : World} {A : Around} {E : Value → Shared → Prop} {s : Shared} {z TI TO i1 i2 l1 l2 : Addr} {k1 k2 : Nat} {xs ys : Array Value} {x y a b : Value} {Q : Value → Shared → Prop} (D : ZipApart z TI TO i1 i2 l1 l2) (hz : IsZip s.heap z TI TO Value.none) (hTI : IsPair s.heap TI (Value.ref i1) (Value.ref i2)) (hTO : IsPair s.heap TO a b)
  (h1 : s.heap.IsTupleIter i1 l1 k1) (h2 : s.heap.IsTupleIter i2 l2 k2) (hl1 : s.heap.IsTuple l1 xs) (hl2 : s.heap.IsTuple l2 ys) (hx : xs[k1]? = some x) (hy : ys[k2]? = some y)
  (hQ : ∀ h' : Heap, IsZip h' z TI TO (rawInt s.heap.objs.size) → IsPair h' TO x y → h'.IsTupleIter i1 l1 (k1 + 1) → h'.IsTupleIter i2 l2 (k2 + 1) → IsPair h' s.heap.objs.size x y → h'.objs.size = s.heap.objs.size + 1 → (∀ c o, c ≠ z → c ≠ TO → c ≠ i1 → c ≠ i2 → s.heap.get? c = some o → h'.get? c = some o) → Q (Value.ref s.heap.objs.size) { s with heap := h' }) :
  wpAny (model prog w) A (Builtin.«zip.__next__» { pos := [Value.ref z] }) (fun fin s' => ∃ v, fin = Fin.done (Flow.ret v) ∧ Q v s') E s := by
 show wpAny _ _ (field (Value.ref z) 2 >>= _) _ _ _
 refine wpAny_bind (wpAny_field hz rfl rfl ?_)
 show wpAny _ _ (field (Value.ref z) 3 >>= _) _ _ _
 refine wpAny_bind (wpAny_field hz rfl rfl ?_)
 refine wpAny_bind (wpAny_seqItems hTI rfl ?_)
 show wpAny _ _ (Builtin.SmallTypes.ownedTupleIsFree (Value.ref z) >>= _) _ _ _
 refine wpAny_bind ?_
 show wpAny _ _ (field (Value.ref z) 0 >>= _) _ _ _
 refine wpAny_bind (wpAny_field hz rfl rfl (wpAny_pure ?_))
 show wpAny _ _ (rule _ >>= _) _ _ _
 refine wpAny_bind (wpAny_rule (wpAny_bind (wpAny_field hz rfl rfl ?_)))
 show wpAny _ _ (setField (Value.ref z) 0 Value.ellipsis >>= _) _ _ _
 refine wpAny_bind (wpAny_setField_rec hz (Nat.lt_of_sub_pos (Nat.zero_lt_succ 4)) fun h₁ hz₁ hs₁ => ?_)
 have old1 : ∀ c o, c ≠ z → s.heap.get? c = some o → h₁.get? c = some o := fun c o hc e => (hs₁.2 c hc).trans e
 have h1a : h₁.IsTupleIter i1 l1 k1 := h1.at fun o e => old1 i1 o D.i1z e
 have h2a : h₁.IsTupleIter i2 l2 k2 := h2.at fun o e => old1 i2 o D.i2z e
 have tup : ∀ {h : Heap} {l : Addr} {vs : Array Value}, s.heap.IsTuple l vs → (∀ o, s.heap.get? l = some o → h.get? l = some o) → h.IsTuple l vs := fun ⟨o, e, r⟩ k => ⟨o, k o e, r⟩
 refine wpAny_bind ?_
 show wpAny _ _ (forIn [(Value.ref i1, 0), (Value.ref i2, 1)] (none, ()) _) _ _ _
 rw [List.forIn_cons]
 refine wpAny_bind ?_
 show wpAny _ _ ((Sem.onRaise (Builtin.SmallTypes.nextOf (Value.ref i1) >>= fun v => pure (some v)) (fun _ => setField (Value.ref z) 0 Value.none)) >>= _) _ _ _
 refine wpAny_bind (wpAny_onRaise (wpAny_bind (eV (s := { s with heap := h₁ }) h1a (tup hl1 fun o e => old1 l1 o D.l1z e) hx fun h₂ h1b sb₂ => wpAny_pure ?_)))
 have old2 : ∀ c o, c ≠ z → c ≠ i1 → s.heap.get? c = some o → h₂.get? c = some o := fun c o hc hc1 e => (sb₂.2 c hc1).trans (old1 c o hc e)
 have hTO2 : IsPair h₂ TO a b := old2 TO _ D.TOz D.TOi1 hTO
 show wpAny _ _ (seqItems? (Value.ref TO) >>= _) _ _ _
 refine wpAny_bind (wpAny_seqItems (s := { s with heap := h₂ }) hTO2 rfl ?_)
 show wpAny _ _ (updateSeq TO _ >>= _) _ _ _
 refine wpAny_bind (wpAny_updateSeq_pair (s := { s with heap := h₂ }) hTO2 fun h₃ g₃ sb₃ => ?_)
 refine wpAny_bind (wpAny_letGo (wpAny_pure ?_))
 show wpAny _ _ (forIn [(Value.ref i2, 1)] (none, ()) _) _ _ _
 rw [List.forIn_cons]
 refine wpAny_bind ?_
 have old3 : ∀ c o, c ≠ z → c ≠ i1 → c ≠ TO → s.heap.get? c = some o → h₃.get? c = some o := fun c o hc hc1 hc2 e => (sb₃.2 c hc2).trans (old2 c o hc hc1 e)
 have h2c : h₃.IsTupleIter i2 l2 k2 := h2.at fun o e => old3 i2 o D.i2z (Ne.symm D.i12) (Ne.symm D.TOi2) e
 have g₃' : IsPair h₃ TO x b := g₃
 show wpAny _ _ ((Sem.onRaise (Builtin.SmallTypes.nextOf (Value.ref i2) >>= fun v => pure (some v)) (fun _ => setField (Value.ref z) 0 Value.none)) >>= _) _ _ _
 refine wpAny_bind (wpAny_onRaise (wpAny_bind (eV (s := { s with heap := h₃ }) h2c (tup hl2 fun o e => old3 l2 o D.l2z D.l2i1 D.l2TO e) hy fun h₄ h2d sb₄ => wpAny_pure ?_)))
 have hTO4 : IsPair h₄ TO x b := (sb₄.2 TO D.TOi2).trans g₃'
 show wpAny _ _ (seqItems? (Value.ref TO) >>= _) _ _ _
 refine wpAny_bind (wpAny_seqItems (s := { s with heap := h₄ }) hTO4 rfl ?_)
 show wpAny _ _ (updateSeq TO _ >>= _) _ _ _
 refine wpAny_bind (wpAny_updateSeq_pair (s := { s with heap := h₄ }) hTO4 fun h₅ g₅ sb₅ => ?_)
 refine wpAny_bind (wpAny_letGo (wpAny_pure ?_))
 have g₅' : IsPair h₅ TO x y := g₅
 show wpAny _ _ (forIn [] (none, ()) _) _ _ _
 rw [List.forIn_nil]
 refine wpAny_pure ?_
 show wpAny _ _ (seqItems? (Value.ref TO) >>= _) _ _ _
 refine wpAny_bind (wpAny_seqItems (s := { s with heap := h₅ }) g₅' rfl ?_)
 show wpAny _ _ (newTuple [x, y] >>= _) _ _ _
 refine wpAny_bind (wpAny_newTuple ?_ (by show 2 ≤ sizeLine; decide))
 have sz : h₅.objs.size = s.heap.objs.size := by
  rw [sb₅.1, sb₄.1, sb₃.1, sb₂.1, hs₁.1]
 have z5 : h₅.get? z = _ := (sb₅.2 z (Ne.symm D.TOz)).trans ((sb₄.2 z (Ne.symm D.i2z)).trans ((sb₃.2 z (Ne.symm D.TOz)).trans ((sb₂.2 z (Ne.symm D.i1z)).trans hz₁)))
 have z6 : (h₅.push { cls := Value.type "tuple", data := Data.seq #[x, y] }).get? z = _ := Heap.get?_push_of_some _ z5
 refine wpAny_bind ?_
 show wpAny _ _ (setField (Value.ref z) 0 (rawInt h₅.objs.size) >>= fun _ => setField (Value.ref z) 1 (Value.bool false)) _ _ _
 refine wpAny_bind (wpAny_setField_rec (s := { s with heap := h₅.push { cls := Value.type "tuple", data := Data.seq #[x, y] } }) z6 (Nat.lt_of_sub_pos (Nat.zero_lt_succ 4)) fun h₇ hz₇ hs₇ => ?_)
 refine wpAny_setField_rec (s := { s with heap := h₇ }) hz₇ (Nat.lt_of_sub_pos (Nat.zero_lt_succ 3)) fun h₈ hz₈ hs₈ => ?_
 have nzs : s.heap.objs.size ≠ z := fun q => by
  have := Heap.lt_size hz
  rw [← q] at this
  exact Nat.lt_irrefl _ this
 have old6 : ∀ c o, h₅.get? c = some o → (h₅.push { cls := Value.type "tuple", data := Data.seq #[x, y] }).get? c = some o := fun c o e => Heap.get?_push_of_some _ e
 have old8 : ∀ c o, c ≠ z → h₅.get? c = some o → h₈.get? c = some o := fun c o hc e => (hs₈.2 c hc).trans ((hs₇.2 c hc).trans (old6 c o e))
 have new8 : h₈.get? s.heap.objs.size = some { cls := Value.type "tuple", data := Data.seq #[x, y] } := by
  refine (hs₈.2 _ nzs).trans ((hs₇.2 _ nzs).trans ?_)
  show (h₅.push { cls := Value.type "tuple", data := Data.seq #[x, y] }).get? s.heap.objs.size = _
  rw [← sz]
  exact Heap.get?_push_size _ rfl
 refine wpAny_pure ⟨_, rfl, ?_⟩
 rw [show (({ s with heap := h₅ } : Shared).heap.objs.size) = s.heap.objs.size from sz]
 refine hQ h₈ ?_ ?_ ?_ ?_ new8 ?_ ?_
 ·rw [sz] at hz₈
  exact hz₈
 ·exact old8 TO _ D.TOz g₅'
 ·refine h1b.at fun o e => old8 i1 o D.i1z ?_
  exact (sb₅.2 i1 (Ne.symm D.TOi1)).trans ((sb₄.2 i1 D.i12).trans ((sb₃.2 i1 (Ne.symm D.TOi1)).trans e))
 ·refine h2d.at fun o e => old8 i2 o D.i2z ?_
  exact (sb₅.2 i2 (Ne.symm D.TOi2)).trans e
 ·rw [hs₈.1, hs₇.1]
  show (h₅.push { cls := Value.type "tuple", data := Data.seq #[x, y] }).objs.size = _
  rw [Heap.size_push, sz]
 ·intro c o hc1 hc2 hc3 hc4 e
  exact old8 c o hc1 ((sb₅.2 c hc2).trans ((sb₄.2 c hc4).trans (old3 c o hc1 hc3 hc2 e)))
theorem jk {prog : Program} {w : World} {A : Around} {E : Value → Shared → Prop} {s : Shared} {z TI TO i1 i2 l1 l2 : Addr} {k1 k2 : Nat} {xs ys : Array Value} {x y a b : Value} {Q : Option Value → Shared → Prop} (D : ZipApart z TI TO i1 i2 l1 l2) (hz : IsZip s.heap z TI TO Value.none) (hTI : IsPair s.heap TI (Value.ref i1) (Value.ref i2)) (hTO : IsPair s.heap TO a b)
  (h1 : s.heap.IsTupleIter i1 l1 k1) (h2 : s.heap.IsTupleIter i2 l2 k2) (hl1 : s.heap.IsTuple l1 xs) (hl2 : s.heap.IsTuple l2 ys) (hx : xs[k1]? = some x) (hy : ys[k2]? = some y)
  (hQ : ∀ h' : Heap, IsZip h' z TI TO (rawInt s.heap.objs.size) → IsPair h' TO x y → h'.IsTupleIter i1 l1 (k1 + 1) → h'.IsTupleIter i2 l2 (k2 + 1) → IsPair h' s.heap.objs.size x y → h'.objs.size = s.heap.objs.size + 1 → (∀ c o, c ≠ z → c ≠ TO → c ≠ i1 → c ≠ i2 → s.heap.get? c = some o → h'.get? c = some o) → Q (some (Value.ref s.heap.objs.size)) { s with heap := h' }) :
  wpAny (model prog w) A (pyNext (Value.ref z)) Q E s := by
 have hT : ∃ o, s.heap.get? z = some o ∧ o.cls = Value.type "zip" := ⟨_, hz, rfl⟩
 exact wpAny_bind (wpAny_attempt (wpAny_callSpecial?_slot hT F.slot_zip_next (wpAny_call_entry F.slot_zip_next hT F.entry_zip_next
  (qu D hz hTI hTO h1 h2 hl1 hl2 hx hy fun h' a1 a2 a3 a4 a5 a6 a7 => wpAny_pure (hQ h' a1 a2 a3 a4 a5 a6 a7)) (F.args_zip_next_1 (Value.ref z)))))
theorem sX {prog : Program} {w : World} {A : Around} {E : Value → Shared → Prop} {s : Shared} {z TI TO i1 i2 l1 l2 : Addr} {k1 k2 : Nat} {xs ys : Array Value} {a b : Value} {Q : PySem.Fin → Shared → Prop} (hh : A.handled = none) (D : ZipApart z TI TO i1 i2 l1 l2) (hz : IsZip s.heap z TI TO Value.none) (hTI : IsPair s.heap TI (Value.ref i1) (Value.ref i2)) (hTO : IsPair s.heap TO a b)
  (h1 : s.heap.IsTupleIter i1 l1 k1) (h2 : s.heap.IsTupleIter i2 l2 k2) (hl1 : s.heap.IsTuple l1 xs) (hl2 : s.heap.IsTuple l2 ys) (hend : xs[k1]? = none ∨ ys[k2]? = none)
  (hE : ∀ (h' : Heap) (e : Addr), (∀ c o, c ≠ z → c ≠ TO → c ≠ i1 → c ≠ i2 → s.heap.get? c = some o → h'.get? c = some o) → (∃ o, h'.get? e = some o ∧ o.cls = Value.type "StopIteration") → E (Value.ref e) { s with heap := h' }) :
  wpAny (model prog w) A (Builtin.«zip.__next__» { pos := [Value.ref z] }) Q E s := by
 show wpAny _ _ (field (Value.ref z) 2 >>= _) _ _ _
 refine wpAny_bind (wpAny_field hz rfl rfl ?_)
 show wpAny _ _ (field (Value.ref z) 3 >>= _) _ _ _
 refine wpAny_bind (wpAny_field hz rfl rfl ?_)
 refine wpAny_bind (wpAny_seqItems hTI rfl ?_)
 show wpAny _ _ (Builtin.SmallTypes.ownedTupleIsFree (Value.ref z) >>= _) _ _ _
 refine wpAny_bind ?_
 show wpAny _ _ (field (Value.ref z) 0 >>= _) _ _ _
 refine wpAny_bind (wpAny_field hz rfl rfl (wpAny_pure ?_))
 show wpAny _ _ (rule _ >>= _) _ _ _
 refine wpAny_bind (wpAny_rule (wpAny_bind (wpAny_field hz rfl rfl ?_)))
 show wpAny _ _ (setField (Value.ref z) 0 Value.ellipsis >>= _) _ _ _
 refine wpAny_bind (wpAny_setField_rec hz (Nat.lt_of_sub_pos (Nat.zero_lt_succ 4)) fun h₁ hz₁ hs₁ => ?_)
 have old1 : ∀ c o, c ≠ z → s.heap.get? c = some o → h₁.get? c = some o := fun c o hc e => (hs₁.2 c hc).trans e
 have h1a : h₁.IsTupleIter i1 l1 k1 := h1.at fun o e => old1 i1 o D.i1z e
 have tup : ∀ {h : Heap} {l : Addr} {vs : Array Value}, s.heap.IsTuple l vs → (∀ o, s.heap.get? l = some o → h.get? l = some o) → h.IsTuple l vs := fun ⟨o, e, r⟩ k => ⟨o, k o e, r⟩
 have out : ∀ {h : Heap} {e : Addr} {vs : Array Value}, h.get? z = some { cls := Value.type "zip", data := Data.fields vs } → 0 < vs.size → (∀ c o, c ≠ z → c ≠ TO → c ≠ i1 → c ≠ i2 → s.heap.get? c = some o → h.get? c = some o) → (∃ o, h.get? e = some o ∧ o.cls = Value.type "StopIteration") →
   wpAny (model prog w) A (setField (Value.ref z) 0 Value.none) (fun _ s'' => E (Value.ref e) s'') E { s with heap := h } := fun {h e vs} ez hv hk he => by
  refine wpAny_setField_rec (s := { s with heap := h }) ez hv fun h' _ hs => hE h' e (fun c o c1 c2 c3 c4 g => (hs.2 c c1).trans (hk c o c1 c2 c3 c4 g)) ?_
  obtain ⟨o, ho, hc⟩ := he
  refine ⟨o, (hs.2 e fun q => ?_).trans ho, hc⟩
  rw [q, ez] at ho
  cases ho
  injection hc with hc
  exact absurd hc (by decide)
 refine wpAny_bind ?_
 show wpAny _ _ (forIn [(Value.ref i1, 0), (Value.ref i2, 1)] (none, ()) _) _ _ _
 rw [List.forIn_cons]
 refine wpAny_bind ?_
 show wpAny _ _ ((Sem.onRaise (Builtin.SmallTypes.nextOf (Value.ref i1) >>= fun v => pure (some v)) (fun _ => setField (Value.ref z) 0 Value.none)) >>= _) _ _ _
 cases hx : xs[k1]? with
 | none =>
  refine wpAny_bind (wpAny_onRaise (wpAny_bind (jb (s := { s with heap := h₁ }) hh h1a (tup hl1 fun o e => old1 l1 o D.l1z e) hx fun h₂ e ext he => ?_)))
  exact out (h := h₂) (ext z _ (Ne.symm D.i1z) hz₁) (Nat.lt_of_sub_pos (Nat.zero_lt_succ 4)) (fun c o c1 c2 c3 c4 g => ext c o c3 (old1 c o c1 g)) he
 | some x =>
  have hy : ys[k2]? = none := by
   rcases hend with q | q
   ·rw [hx] at q; cases q
   ·exact q
  refine wpAny_bind (wpAny_onRaise (wpAny_bind (eV (s := { s with heap := h₁ }) h1a (tup hl1 fun o e => old1 l1 o D.l1z e) hx fun h₂ h1b sb₂ => wpAny_pure ?_)))
  have old2 : ∀ c o, c ≠ z → c ≠ i1 → s.heap.get? c = some o → h₂.get? c = some o := fun c o hc hc1 e => (sb₂.2 c hc1).trans (old1 c o hc e)
  have hTO2 : IsPair h₂ TO a b := old2 TO _ D.TOz D.TOi1 hTO
  show wpAny _ _ (seqItems? (Value.ref TO) >>= _) _ _ _
  refine wpAny_bind (wpAny_seqItems (s := { s with heap := h₂ }) hTO2 rfl ?_)
  show wpAny _ _ (updateSeq TO _ >>= _) _ _ _
  refine wpAny_bind (wpAny_updateSeq_pair (s := { s with heap := h₂ }) hTO2 fun h₃ g₃ sb₃ => ?_)
  refine wpAny_bind (wpAny_letGo (wpAny_pure ?_))
  show wpAny _ _ (forIn [(Value.ref i2, 1)] (none, ()) _) _ _ _
  rw [List.forIn_cons]
  refine wpAny_bind ?_
  have old3 : ∀ c o, c ≠ z → c ≠ i1 → c ≠ TO → s.heap.get? c = some o → h₃.get? c = some o := fun c o hc hc1 hc2 e => (sb₃.2 c hc2).trans (old2 c o hc hc1 e)
  have h2c : h₃.IsTupleIter i2 l2 k2 := h2.at fun o e => old3 i2 o D.i2z (Ne.symm D.i12) (Ne.symm D.TOi2) e
  have z3 : h₃.get? z = _ := (sb₃.2 z (Ne.symm D.TOz)).trans ((sb₂.2 z (Ne.symm D.i1z)).trans hz₁)
  show wpAny _ _ ((Sem.onRaise (Builtin.SmallTypes.nextOf (Value.ref i2) >>= fun v => pure (some v)) (fun _ => setField (Value.ref z) 0 Value.none)) >>= _) _ _ _
  refine wpAny_bind (wpAny_onRaise (wpAny_bind (jb (s := { s with heap := h₃ }) hh h2c (tup hl2 fun o e => old3 l2 o D.l2z D.l2i1 D.l2TO e) hy fun h₄ e ext he => ?_)))
  exact out (h := h₄) (ext z _ (Ne.symm D.i2z) z3) (Nat.lt_of_sub_pos (Nat.zero_lt_succ 4)) (fun c o c1 c2 c3 c4 g => ext c o c4 (old3 c o c1 c3 c2 g)) he
theorem jG {prog : Program} {w : World} {A : Around} {E : Value → Shared → Prop} {s : Shared} {z TI TO i1 i2 l1 l2 : Addr} {k1 k2 : Nat} {xs ys : Array Value} {a b : Value} {Q : Option Value → Shared → Prop} (hh : A.handled = none) (D : ZipApart z TI TO i1 i2 l1 l2) (hz : IsZip s.heap z TI TO Value.none) (hTI : IsPair s.heap TI (Value.ref i1) (Value.ref i2)) (hTO : IsPair s.heap TO a b)
  (h1 : s.heap.IsTupleIter i1 l1 k1) (h2 : s.heap.IsTupleIter i2 l2 k2) (hl1 : s.heap.IsTuple l1 xs) (hl2 : s.heap.IsTuple l2 ys) (hend : xs[k1]? = none ∨ ys[k2]? = none)
  (hQ : ∀ h' : Heap, (∀ c o, c ≠ z → c ≠ TO → c ≠ i1 → c ≠ i2 → s.heap.get? c = some o → h'.get? c = some o) → Q none { s with heap := h' }) : wpAny (model prog w) A (pyNext (Value.ref z)) Q E s := by
 have hT : ∃ o, s.heap.get? z = some o ∧ o.cls = Value.type "zip" := ⟨_, hz, rfl⟩
 exact wpAny_bind (wpAny_attempt (wpAny_callSpecial?_slot hT F.slot_zip_next (wpAny_call_entry F.slot_zip_next hT F.entry_zip_next
  (sX hh D hz hTI hTO h1 h2 hl1 hl2 hend fun h' e hk he => by
   obtain ⟨o, ho, hc⟩ := he
   exact wpAny_bind (wpAny_isInstance ⟨o, ho, hc⟩ isSubtype_stop (wpAny_pure (hQ h' hk)))) (F.args_zip_next_1 (Value.ref z)))))
def tz1 (h : Heap) (l1 : Addr) : Heap := h.push { cls := Value.type "tuple_iterator", data := Data.fields #[Value.ref l1, Value.int 0 0] }
def tz2 (h : Heap) (l1 l2 : Addr) : Heap := (tz1 h l1).push { cls := Value.type "tuple_iterator", data := Data.fields #[Value.ref l2, Value.int 0 0] }
def tz3 (h : Heap) (l1 l2 : Addr) : Heap := (tz2 h l1 l2).push { cls := Value.type "tuple", data := Data.seq #[Value.ref h.objs.size, Value.ref (tz1 h l1).objs.size] }
def tz4 (h : Heap) (l1 l2 : Addr) : Heap := (tz3 h l1 l2).push { cls := Value.type "tuple", data := Data.seq #[Value.none, Value.none] }
def tz5 (h : Heap) (l1 l2 : Addr) : Heap := (tz4 h l1 l2).push { cls := Value.type "zip", data := Data.fields #[Value.none, Value.bool false, Value.bool false, Value.ref (tz2 h l1 l2).objs.size, Value.ref (tz3 h l1 l2).objs.size] }
theorem Er (l1 l2 : Addr) (xs ys : Array Value) : Meets (Builtin.«zip.__new__» { pos := [Value.type "zip", Value.ref l1, Value.ref l2] }) fun _ R s =>
  s.heap.IsTuple l1 xs ∧ s.heap.IsTuple l2 ys ∧ R (.ok (.ret (.ref (tz4 s.heap l1 l2).objs.size))) { s with heap := tz5 s.heap l1 l2 } := by
 refine Meets.of_wp fun prog w A R s h => ?_
 obtain ⟨ht1, ht2, hR⟩ := h
 unfold Builtin.«zip.__new__» Builtin.SmallTypes.newClass
 refine wpAny_bind (wpAny_bind (wpAny_pure (wpAny_ite_false rfl (wpAny_bind (wpAny_of_eq sub_zip (wpAny_ite_false rfl (wpAny_pure ?_)))))))
 show wpAny _ _ (Builtin.SmallTypes.iterAll [Value.ref l1, Value.ref l2] >>= _) _ _ _
 refine wpAny_bind ?_
 unfold Builtin.SmallTypes.iterAll
 refine wpAny_bind ?_
 rw [List.forIn_cons]
 refine wpAny_bind (wpAny_bind (wpAny_holding (wpAny_pyIter_tuple ht1 (wpAny_pure ?_))))
 show wpAny _ _ (forIn [Value.ref l2] #[Value.ref s.heap.objs.size] _) _ _ _
 rw [List.forIn_cons]
 have ht2' : (tz1 s.heap l1).IsTuple l2 ys := by
  obtain ⟨o, e, r⟩ := ht2
  exact ⟨o, Heap.get?_push_of_some _ e, r⟩
 refine wpAny_bind (wpAny_bind (wpAny_holding (wpAny_pyIter_tuple (s := { s with heap := tz1 s.heap l1 }) ht2' (wpAny_pure ?_))))
 show wpAny _ _ (forIn [] #[Value.ref s.heap.objs.size, Value.ref (tz1 s.heap l1).objs.size] _) _ _ _
 rw [List.forIn_nil]
 refine wpAny_pure (wpAny_pure ?_)
 show wpAny _ _ (newTuple [Value.ref s.heap.objs.size, Value.ref (tz1 s.heap l1).objs.size] >>= _) _ _ { s with heap := tz2 s.heap l1 l2 }
 refine wpAny_bind (wpAny_newTuple ?_ (by show 2 ≤ sizeLine; decide))
 show wpAny _ _ (newTuple [Value.none, Value.none] >>= _) _ _ { s with heap := tz3 s.heap l1 l2 }
 refine wpAny_bind (wpAny_newTuple ?_ (by show 2 ≤ sizeLine; decide))
 show wpAny _ _ (newObj (.type "zip") (.fields #[.none, .bool false, .bool false, .ref (tz2 s.heap l1 l2).objs.size, .ref (tz3 s.heap l1 l2).objs.size]) >>= fun r => ret r) _ _ { s with heap := tz4 s.heap l1 l2 }
 refine wpAny_bind (wpAny_newObj_type ?_)
 exact wpAny_pure ⟨_, rfl, hR⟩
theorem yo {prog : Program} {w : World} {A : Around} {E : Value → Shared → Prop} {s : Shared} {l1 l2 : Addr} {xs ys : Array Value} {Q : Value → Shared → Prop} (hl1 : s.heap.IsTuple l1 xs) (hl2 : s.heap.IsTuple l2 ys)
  (h : ∀ h' : Heap, IsZip h' (s.heap.objs.size + 4) (s.heap.objs.size + 2) (s.heap.objs.size + 3) Value.none → IsPair h' (s.heap.objs.size + 2) (Value.ref s.heap.objs.size) (Value.ref (s.heap.objs.size + 1)) → IsPair h' (s.heap.objs.size + 3) Value.none Value.none → h'.IsTupleIter s.heap.objs.size l1 0 → h'.IsTupleIter (s.heap.objs.size + 1) l2 0 →
   h'.objs.size = s.heap.objs.size + 5 → (∀ c o, s.heap.get? c = some o → h'.get? c = some o) → Q (Value.ref (s.heap.objs.size + 4)) { s with heap := h' }) : wpAny (model prog w) A (call (Value.type "zip") [Value.ref l1, Value.ref l2]) Q E s := by
 refine callType_new F.called_zip (by decide) (F.typeCall_zip_2 _ _) (F.newCall_zip_2 _ _) (fun obj => F.args_object_init_3 obj _ _) F.entry_zip_new (Er l1 l2 xs ys) ⟨hl1, hl2, ?_⟩
 have z1 : (tz1 s.heap l1).objs.size = s.heap.objs.size + 1 := Heap.size_push ..
 have z2 : (tz2 s.heap l1 l2).objs.size = s.heap.objs.size + 2 := (Heap.size_push ..).trans (by rw [z1])
 have z3 : (tz3 s.heap l1 l2).objs.size = s.heap.objs.size + 3 := (Heap.size_push ..).trans (by rw [z2])
 have z4 : (tz4 s.heap l1 l2).objs.size = s.heap.objs.size + 4 := (Heap.size_push ..).trans (by rw [z3])
 have z5 : (tz5 s.heap l1 l2).objs.size = s.heap.objs.size + 5 := (Heap.size_push ..).trans (by rw [z4])
 have g5 : (tz5 s.heap l1 l2).get? (tz4 s.heap l1 l2).objs.size = _ := Heap.get?_push_size _ rfl
 have g4 : (tz5 s.heap l1 l2).get? (tz3 s.heap l1 l2).objs.size = _ := Heap.get?_push_of_some _ (Heap.get?_push_size _ rfl)
 have g3 : (tz5 s.heap l1 l2).get? (tz2 s.heap l1 l2).objs.size = _ := Heap.get?_push_of_some _ (Heap.get?_push_of_some _ (Heap.get?_push_size _ rfl))
 have g2 : (tz5 s.heap l1 l2).get? (tz1 s.heap l1).objs.size = _ := Heap.get?_push_of_some _ (Heap.get?_push_of_some _ (Heap.get?_push_of_some _ (Heap.get?_push_size _ rfl)))
 have g1 : (tz5 s.heap l1 l2).get? s.heap.objs.size = _ := Heap.get?_push_of_some _ (Heap.get?_push_of_some _ (Heap.get?_push_of_some _ (Heap.get?_push_of_some _ (Heap.get?_push_size _ rfl))))
 have hk : ∀ c o, s.heap.get? c = some o → (tz5 s.heap l1 l2).get? c = some o := fun c o e => Heap.get?_push_of_some _ (Heap.get?_push_of_some _ (Heap.get?_push_of_some _ (Heap.get?_push_of_some _ (Heap.get?_push_of_some _ e))))
 rw [z4, z2, z3] at g5
 rw [z3] at g4
 rw [z2, z1] at g3
 rw [z1] at g2
 rw [z4]
 generalize tz5 s.heap l1 l2 = h' at z5 g5 g4 g3 g2 g1 hk
 exact ⟨⟨_, g5, rfl⟩, h h' g5 g3 g4 ⟨_, g1, rfl, rfl⟩ ⟨_, g2, rfl, rfl⟩ z5 hk⟩
def Itu (K : PySem.W.Frag) (a b : Addr) : It :=
 ⟨fun i H => ∃ xs ys x y, SqT K H a xs ∧ SqT K H b ys ∧ xs[i]? = some x ∧ ys[i]? = some y,
  fun i H v H' => ∃ p x y, v = .ref p ∧ H p = none ∧ H' = upd H p (.tup [x, y]) ∧ (∀ xs, SqT K H a xs → xs[i]? = some x) ∧ ∀ ys, SqT K H b ys → ys[i]? = some y,
  fun i H => ∃ xs ys, SqT K H a xs ∧ SqT K H b ys ∧ (xs[i]? = none ∨ ys[i]? = none)⟩
theorem Cd {P : Program} {w : World} {K : PySem.W.Frag} {es : List Expr} {kk : Nat} {tpos : Pos} {z TI TO i1 i2 l1 l2 : Addr} (D : ZipApart z TI TO i1 i2 l1 l2) :
  Turn P w K (.Tuple es kk tpos) (Itu K l1 l2) [z, TI, TO, i1, i2] z (fun i h => IsZip h z TI TO .none ∧ IsPair h TI (.ref i1) (.ref i2) ∧ (∃ a b, IsPair h TO a b) ∧ h.IsTupleIter i1 l1 i ∧ h.IsTupleIter i2 l2 i) where
 mem := by simp
 obj := fun i h st b hb => by
  obtain ⟨hz, hTI, ⟨a, b', hTO⟩, ⟨o1, e1, c1, d1⟩, ⟨o2, e2, c2, d2⟩⟩ := st
  simp only [List.mem_cons, List.not_mem_nil, or_false] at hb
  rcases hb with rfl | rfl | rfl | rfl | rfl
  ·exact ⟨_, hz, fun v q => by cases q⟩
  ·exact ⟨_, hTI, fun v q => by cases q⟩
  ·exact ⟨_, hTO, fun v q => by cases q⟩
  ·exact ⟨o1, e1, fun v q => by rw [d1] at q; cases q⟩
  ·exact ⟨o2, e2, fun v q => by rw [d2] at q; cases q⟩
 keep := fun i h h' st k => by
  obtain ⟨hz, hTI, ⟨a, b', hTO⟩, h1, h2⟩ := st
  exact ⟨k z (by simp) _ hz, k TI (by simp) _ hTI, ⟨a, b', k TO (by simp) _ hTO⟩, h1.at fun o e => k i1 (by simp) o e, h2.at fun o e => k i2 (by simp) o e⟩
 item := by
  intro X hP hw hK hc i pins s σ H E I hf st hg
  subst hP hw hK
  obtain ⟨xs, ys, x, y, q1, q2, hx, hy⟩ := hg
  obtain ⟨its1, rv1, p1, hz1⟩ := I.tuple q1
  obtain ⟨its2, rv2, p2, hz2⟩ := I.tuple q2
  obtain ⟨u1, hu1, ru1⟩ := rv1.get hx
  obtain ⟨u2, hu2, ru2⟩ := rv2.get hy
  obtain ⟨hz, hTI, ⟨a, b', hTO⟩, h1, h2⟩ := st
  refine jk D hz hTI hTO h1 h2 p1 p2 (x := u1) (y := u2) (by simpa using hu1) (by simpa using hu2) fun h' a1 a2 a3 a4 a5 a6 hk => ?_
  have new : cu X.prog X.w (upd H s.heap.objs.size (.tup [x, y])) h' s.heap.objs.size (.tup [x, y]) := ⟨by show 2 ≤ sizeLine; decide, [u1, u2], .cons ru1 (.cons ru2 .nil), _, a5, rfl, _, rfl⟩
  have I1 : Inv X pins σ (upd H s.heap.objs.size (.tup [x, y])) { s with heap := h' } := I.Ew (t' := s.toks) (ch := [z, TO, i1, i2]) (fun b hb => hf b (by
   simp only [List.mem_cons, List.not_mem_nil, or_false] at hb ⊢
   rcases hb with r | r | r | r <;> simp [r]))
   (fun b o hb e => hk b o (fun q => hb (by simp [q])) (fun q => hb (by simp [q])) (fun q => hb (by simp [q])) (fun q => hb (by simp [q])) e) (Nat.le_refl _) new
  have hTI' : IsPair h' TI (.ref i1) (.ref i2) := hk _ _ D.TIz D.TITO D.TIi1 D.TIi2 hTI
  have hsz : ∀ b, b ∈ [z, TI, TO, i1, i2] → b ≠ s.heap.objs.size := fun b hb => by
   obtain ⟨_, _, hlt, _⟩ := hf b hb
   have lt : ∃ o, s.heap.get? b = some o := by
    simp only [List.mem_cons, List.not_mem_nil, or_false] at hb
    rcases hb with rfl | rfl | rfl | rfl | rfl
    ·exact ⟨_, hz⟩
    ·exact ⟨_, hTI⟩
    ·exact ⟨_, hTO⟩
    ·obtain ⟨o, e, _⟩ := h1; exact ⟨o, e⟩
    ·obtain ⟨o, e, _⟩ := h2; exact ⟨o, e⟩
   obtain ⟨o, e⟩ := lt
   exact Nat.ne_of_lt (Heap.lt_size e)
  refine ⟨_, rfl, wpAny_letOwnedTupleGo_zip (s := { s with heap := h' }) a1 fun h'' z2 sb => ?_⟩
  have fz := hf z (by simp)
  have I2 : Inv X pins σ (upd H s.heap.objs.size (.tup [x, y])) { s with heap := h'' } := Inv.turned (s := { s with heap := h' }) (it := z) (t' := s.toks) I1 (fun b o hb e => (sb.2 b hb).trans e) (by rw [aH (hsz z (by simp))]; exact fz.1) fz.2.1 fz.2.2.2.1 fz.2.2.2.2.1 fz.2.2.2.2.2
  refine ⟨.ref s.heap.objs.size, _, I2, rfl, ⟨_, x, y, rfl, I.fresh, rfl, fun xs' q => by rw [I.nZ q q1]; exact hx, fun ys' q => by rw [I.nZ q q2]; exact hy⟩,
   ⟨z2, (sb.2 _ D.TIz).trans hTI', ⟨_, _, (sb.2 _ D.TOz).trans a2⟩, a3.extBut sb.extBut D.i1z, a4.extBut sb.extBut D.i2z⟩, fun b hb => by rw [aH (hsz b hb)]; exact (hf b hb).1⟩
 done := by
  intro X hP hw hK hc i pins s σ H E I hf st hg
  subst hP hw hK
  obtain ⟨xs, ys, q1, q2, hx⟩ := hg
  obtain ⟨its1, rv1, p1, hz1⟩ := I.tuple q1
  obtain ⟨its2, rv2, p2, hz2⟩ := I.tuple q2
  obtain ⟨hz, hTI, ⟨a, b', hTO⟩, h1, h2⟩ := st
  have hend : its1.toArray[i]? = none ∨ its2.toArray[i]? = none := by
   rcases hx with r | r
   ·exact .inl (by simpa using rv1.none_of r)
   ·exact .inr (by simpa using rv2.none_of r)
  refine jG (I.ok.hd hc) D hz hTI hTO h1 h2 p1 p2 hend fun h' hk => ⟨rfl, ?_⟩
  exact I.Ey (t' := s.toks) (ch := [z, TO, i1, i2]) (fun b hb => hf b (by
   simp only [List.mem_cons, List.not_mem_nil, or_false] at hb ⊢
   rcases hb with r | r | r | r <;> simp [r]))
   (fun b o hb e => hk b o (fun q => hb (by simp [q])) (fun q => hb (by simp [q])) (fun q => hb (by simp [q])) (fun q => hb (by simp [q])) e)
 self := fun _ _ _ _ _ st h => wpAny_pyIter_zip st.1 h
def zpq (K : PySem.W.Frag) (o1 o2 : Option HO) (a b : Addr) (H : Hp) (R : It → Hp → Prop) : Prop := match o1, o2 with
 | some (.lst _), some (.lst _) => R (Itz K a b) H
 | some (.tup _), some (.tup _) => R (Itu K a b) H
 | _, _ => False
def zpK (K : PySem.W.Frag) (vs : List V) (H : Hp) (R : It → Hp → Prop) : Prop := match vs with
 | [.ref a, .ref b] => zpq K (H a) (H b) a b H R
 | _ => False
def Jc (K : PySem.W.Frag) (ta : TA) : TI := fun σ H R => ta σ H fun vs H1 => zpK K vs H1 R
theorem Jb (K : PySem.W.Frag) (ta : TA) (σ : St) (H : Hp) (R : It → Hp → Prop) : Jc K ta σ H R = ta σ H fun vs H1 => zpK K vs H1 R := rfl
theorem Qa (K : PySem.W.Frag) (a b : Addr) (H : Hp) (R : It → Hp → Prop) : zpK K [.ref a, .ref b] H R = zpq K (H a) (H b) a b H R := rfl
theorem P0 (K : PySem.W.Frag) (xs ys : List V) (a b : Addr) (H : Hp) (R : It → Hp → Prop) : zpq K (some (.lst xs)) (some (.lst ys)) a b H R = R (Itz K a b) H := rfl
theorem PX (K : PySem.W.Frag) (xs ys : List V) (a b : Addr) (H : Hp) (R : It → Hp → Prop) : zpq K (some (.tup xs)) (some (.tup ys)) a b H R = R (Itu K a b) H := rfl
section
variable {X : Cx}
theorem Mq {es : List Expr} {kk : Nat} {tpos : Pos} {a b : Expr} {ta : TA} {p pos : Pos} (hg : Gl X "zip") (hm : X.mg "zip" = none) (ha : PA X [a, b] ta) (hs : starEach [a, b] X.env = [(false, eval a X.env), (false, eval b X.env)] := by rfl) (hs2 : starEach [b] X.env = [(false, eval b X.env)] := by rfl) :
  PI X (.Tuple es kk tpos) (.Call (.Name "zip" p) [a, b] [] pos) (Jc X.K ta) := by
 intro pins s σ H R I h
 refine Call_ (oU I hg hm boot_zip (PyProof.Rows.callWith_type1 (thA (ha pos pins s σ H _ I h) fun us s1 vs H1 I1 r1 q1 => ?_) (by rw [hs, hs2]) (by rw [hs2]; rfl)))
 replace q1 : zpK X.K vs H1 R := q1
 unfold zpK at q1
 split at q1
 ·rename_i l1 l2
  unfold zpq at q1
  cases r1 with
  | cons r rr =>
   cases rr with
   | cons r' rr =>
    cases rr
    cases r
    cases r'
    have apart : l1 < s1.heap.objs.size → l2 < s1.heap.objs.size → ZipApart (s1.heap.objs.size + 4) (s1.heap.objs.size + 2) (s1.heap.objs.size + 3) s1.heap.objs.size (s1.heap.objs.size + 1) l1 l2 := by
     generalize s1.heap.objs.size = n
     intro lt1 lt2
     have lt1' : @LT.lt Nat _ l1 n := lt1
     have lt2' : @LT.lt Nat _ l2 n := lt2
     constructor <;> (intro (z : @Eq Nat _ _); omega)
    have fp : ∀ b ∈ [s1.heap.objs.size + 4, s1.heap.objs.size + 2, s1.heap.objs.size + 3, s1.heap.objs.size, s1.heap.objs.size + 1], nW X pins H1 b := fun b hb => by
     have hle : s1.heap.objs.size ≤ b := by
      simp only [List.mem_cons, List.not_mem_nil, or_false] at hb
      rcases hb with rfl | rfl | rfl | rfl | rfl <;> simp
     exact I1.DQ hle (I1.hok.fresh hle)
    split at q1
    ·rename_i xs ys e1 e2
     obtain ⟨its1, rv1, p1, hz1⟩ := I1.list (SqL.of e1)
     obtain ⟨its2, rv2, p2, hz2⟩ := I1.list (SqL.of e2)
     have lt1 : l1 < s1.heap.objs.size := by obtain ⟨_, e, _⟩ := p1.isList; exact Heap.lt_size e
     have lt2 : l2 < s1.heap.objs.size := by obtain ⟨_, e, _⟩ := p2.isList; exact Heap.lt_size e
     refine call_zip_2 p1.isList p2.isList fun h' b1 b2 b3 b4 b5 b6 hk => ?_
     refine wpAny_pyIter_zip (s := { s1 with heap := h' }) b1 ?_
     exact ⟨_, _, _, _, H1, rfl, I1.kept (t' := s1.toks) hk, Eu (apart lt1 lt2), ⟨b1, b2, ⟨_, _, b3⟩, b4, b5⟩, fp, q1⟩
    ·rename_i xs ys e1 e2
     obtain ⟨its1, rv1, p1, hz1⟩ := I1.tuple (SqT.of e1)
     obtain ⟨its2, rv2, p2, hz2⟩ := I1.tuple (SqT.of e2)
     have lt1 : l1 < s1.heap.objs.size := by obtain ⟨_, e, _⟩ := p1; exact Heap.lt_size e
     have lt2 : l2 < s1.heap.objs.size := by obtain ⟨_, e, _⟩ := p2; exact Heap.lt_size e
     refine yo p1 p2 fun h' b1 b2 b3 b4 b5 b6 hk => ?_
     refine wpAny_pyIter_zip (s := { s1 with heap := h' }) b1 ?_
     exact ⟨_, _, _, _, H1, rfl, I1.kept (t' := s1.toks) hk, Cd (apart lt1 lt2), ⟨b1, b2, ⟨_, _, b3⟩, b4, b5⟩, fp, q1⟩
    ·exact q1.elim
 ·exact q1.elim
theorem Ls {es : List Expr} {kk : Nat} {tpos : Pos} {a b : Expr} {t : TA} {p pos : Pos} (hg : Gl X "zip") (hm : X.mg "zip" = none) (ha : QA X [a, b] t) (hs : starEach [a, b] X.env = [(false, eval a X.env), (false, eval b X.env)] := by rfl) (hs2 : starEach [b] X.env = [(false, eval b X.env)] := by rfl) : QI X (.Tuple es kk tpos) (.Call (.Name "zip" p) [a, b] [] pos) (Jc X.K t) := ⟨Mq hg hm ha.h hs hs2⟩
end
def lz (n : Nat) : Sp := fun vs H Q _ => ∃ x y ok d, vs = [x, y] ∧ aO ok H x d ∧ aO ok H y d ∧ d.depth < n ∧ ∀ H', Same H H' → Q (.bl true) H'
theorem uN {d : PyData} {ds : List PyData} (h : d ∈ ds) : d.depth < (PyData.list ds).depth ∧ d.depth < (PyData.tuple ds).depth := by
 have := nJ h
 rw [PyData.depth.eq_1, PyData.depth.eq_2]
 omega
def rd8 := And.intro @Jb (And.intro @Qa (And.intro @P0 @PX))
section
variable {K : PySem.W.Frag} {mp : List (Option Nat)} {g : TG} {tc : TT} {te : TE} {σ : St} {H : Hp} {Q : VK} {R : It → Hp → Prop}
theorem Ot {a b : Addr} {xs ys : List V} (hR : R = wG mp g tc te σ Q) (hz : xs.length ≤ sizeLine) (hl2 : xs.length = ys.length) (Pv : Nat → List V → St → Hp → Prop) (h0 : Pv 0 [] (iU mp σ) H) (hl : ∀ i acc τ H, Pv i acc τ H → acc.length ≤ i)
  (hq : ∀ i acc τ H, Pv i acc τ H → H a = some (.lst xs) ∧ H b = some (.lst ys))
  (hs : ∀ i x y acc τ H p, xs[i]? = some x → ys[i]? = some y → Pv i acc τ H → H p = none → g (.ref p) τ (upd H p (.tup [x, y])) fun τ1 H4 => tc τ1 H4 fun b H5 => if b = true then te τ1 H5 fun v H6 => Pv (i + 1) (acc ++ [v]) τ1 H6 else Pv (i + 1) acc τ1 H5)
  (hd : ∀ acc τ H d, Pv xs.length acc τ H → H d = none → Q (.ref d) (upd H d (.lst acc))) : R (Itz K a b) H := by
 refine nO hR xs.length hz Pv h0 hl (fun i acc τ H hi p => ?_) (fun acc τ H p => ?_) (fun i acc τ H x H3 hi p y => ?_) hd
 ·obtain ⟨e1, e2⟩ := hq i acc τ H p
  exact ⟨xs, ys, _, _, SqL.of e1, SqL.of e2, List.getElem?_eq_getElem hi, List.getElem?_eq_getElem (by omega)⟩
 ·obtain ⟨e1, e2⟩ := hq _ acc τ H p
  exact ⟨xs, ys, SqL.of e1, SqL.of e2, .inl (List.getElem?_eq_none (Nat.le_refl _))⟩
 ·obtain ⟨e1, e2⟩ := hq i acc τ H p
  obtain ⟨q, x1, y1, rfl, hq1, rfl, hx, hy⟩ := y
  exact hs i x1 y1 acc τ H q (hx _ (SqL.of e1)) (hy _ (SqL.of e2)) p hq1
theorem Oq {a b : Addr} {xs ys : List V} (hR : R = wG mp g tc te σ Q) (hz : xs.length ≤ sizeLine) (hl2 : xs.length = ys.length) (Pv : Nat → List V → St → Hp → Prop) (h0 : Pv 0 [] (iU mp σ) H) (hl : ∀ i acc τ H, Pv i acc τ H → acc.length ≤ i)
  (hq : ∀ i acc τ H, Pv i acc τ H → H a = some (.tup xs) ∧ H b = some (.tup ys))
  (hs : ∀ i x y acc τ H p, xs[i]? = some x → ys[i]? = some y → Pv i acc τ H → H p = none → g (.ref p) τ (upd H p (.tup [x, y])) fun τ1 H4 => tc τ1 H4 fun b H5 => if b = true then te τ1 H5 fun v H6 => Pv (i + 1) (acc ++ [v]) τ1 H6 else Pv (i + 1) acc τ1 H5)
  (hd : ∀ acc τ H d, Pv xs.length acc τ H → H d = none → Q (.ref d) (upd H d (.lst acc))) : R (Itu K a b) H := by
 refine nO hR xs.length hz Pv h0 hl (fun i acc τ H hi p => ?_) (fun acc τ H p => ?_) (fun i acc τ H x H3 hi p y => ?_) hd
 ·obtain ⟨e1, e2⟩ := hq i acc τ H p
  exact ⟨xs, ys, _, _, SqT.of e1, SqT.of e2, List.getElem?_eq_getElem hi, List.getElem?_eq_getElem (by omega)⟩
 ·obtain ⟨e1, e2⟩ := hq _ acc τ H p
  exact ⟨xs, ys, SqT.of e1, SqT.of e2, .inl (List.getElem?_eq_none (Nat.le_refl _))⟩
 ·obtain ⟨e1, e2⟩ := hq i acc τ H p
  obtain ⟨q, x1, y1, rfl, hq1, rfl, hx, hy⟩ := y
  exact hs i x1 y1 acc τ H q (hx _ (SqT.of e1)) (hy _ (SqT.of e2)) p hq1
end
inductive RowC where
 | one (n t : Int)
 | rng (a b t : Int)
 | low (n t : Int)
 | msk (lo wd bits t : Int)
 | tab (lo : Int) (gs : List Int)
 | pik (l : Int)
def rowCD : RowC → PyData
 | .one n t => .tuple [.str "is", .int n, .int t]
 | .rng a b t => .tuple [.str "within", .int a, .int b, .int t]
 | .low n t => .tuple [.str "below", .int n, .int t]
 | .msk lo wd bits t => .tuple [.str "mask", .int lo, .int wd, .int bits, .int t]
 | .tab lo gs => .tuple [.str "table", .int lo, .tuple (gs.map PyData.int)]
 | .pik l => .tuple [.str "pick", .int l]
def Tw (m o : Int) : RowC → Prop
 | .one _ t => btw o m t = true
 | .rng _ _ t => btw o m t = true
 | .low _ t => btw o m t = true
 | .msk _ wd bits t => btw o m t = true ∧ 1 ≤ wd ∧ wd ≤ 64 ∧ 0 ≤ bits
 | .tab _ gs => gs.all (btw o m) = true
 | .pik _ => True
def Vh : RowC → Addr → List V
 | .one n t, _ => [.str "is", .int n, .int t]
 | .rng a b t, _ => [.str "within", .int a, .int b, .int t]
 | .low n t, _ => [.str "below", .int n, .int t]
 | .msk lo wd bits t, _ => [.str "mask", .int lo, .int wd, .int bits, .int t]
 | .tab lo _, g => [.str "table", .int lo, .ref g]
 | .pik l, _ => [.str "pick", .int l]
def RowAt (H : Hp) (x : V) (c : RowC) : Prop := ∃ a g, x = .ref a ∧ H a = some (.tup (Vh c g)) ∧ ∀ lo gs, c = .tab lo gs → H g = some (.tup (gs.map V.int))
def scV : PyData → Option V
 | .int i => some (.int i)
 | .str z => some (.str z)
 | _ => none
theorem aO.sc {ok : Addr → Prop} {H : Hp} {x v : V} {d : PyData} (t : aO ok H x d) (h : scV d = some v) : x = v := by
 cases t with
 | int i => exact Option.some.inj h
 | str z => exact Option.some.inj h
 | _ => cases h
theorem aF.sc {ok : Addr → Prop} {H : Hp} : ∀ {xs vs : List V} {ds : List PyData}, aF ok H xs ds → ds.map scV = vs.map some → xs = vs
 | _, [], _, .nil, _ => rfl
 | _, v :: vs, _, .nil, h => by cases h
 | _, [], _, .cons _ _, h => by cases h
 | _, v :: vs, _, .cons t ts, h => by
  rw [List.map_cons, List.map_cons] at h
  injection h with h1 h2
  rw [t.sc h1, ts.sc h2]
theorem aF.uncons {ok : Addr → Prop} {H : Hp} {xs : List V} {d : PyData} {ds : List PyData} (t : aF ok H xs (d :: ds)) : ∃ x r, xs = x :: r ∧ aO ok H x d ∧ aF ok H r ds := by
 cases t with
 | cons h r => exact ⟨_, _, rfl, h, r⟩
theorem aO.tupOf {ok : Addr → Prop} {H : Hp} {x : V} {ds : List PyData} (t : aO ok H x (.tuple ds)) : ∃ p xs, x = .ref p ∧ H p = some (.tup xs) ∧ aF ok H xs ds := by
 cases t with
 | tup o e z ts => exact ⟨_, _, rfl, e, ts⟩
section
variable {X : Cx} {e o : Expr} {te to : TE} {pos : Pos}
def ppq (ob : Option HO) (l : Addr) (H : Hp) (Q : VK) : Prop := match ob with
 | some (.lst xs) => ∃ y, xs[xs.length - 1]? = some y ∧ Q y (upd H l (.lst xs.dropLast))
 | _ => False
def ppK (x : V) (H : Hp) (Q : VK) : Prop := match x with
 | .ref l => ppq (H l) l H Q
 | _ => False
def T3 (to : TE) : TE := fun σ H Q => to σ H fun x H1 => ppK x H1 Q
theorem Fi (to : TE) (σ : St) (H : Hp) (Q : VK) : T3 to σ H Q = to σ H fun x H1 => ppK x H1 Q := rfl
theorem Mi (l : Addr) (H : Hp) (Q : VK) : ppK (.ref l) H Q = ppq (H l) l H Q := rfl
theorem Mh (xs : List V) (l : Addr) (H : Hp) (Q : VK) : ppq (some (.lst xs)) l H Q = ∃ y, xs[xs.length - 1]? = some y ∧ Q y (upd H l (.lst xs.dropLast)) := rfl
def Qp (ta : TA) : TE := fun σ H Q => ta σ H fun vs H1 => ∃ j : Int, vs = [.int j] ∧ (-(2 ^ 62) ≤ j ∧ j < 2 ^ 62) ∧ (j - 0).toNat ≤ sizeLine ∧ ∀ p, H1 p = none → Q (.ref p) (upd H1 p (.lst (T6 0 (j - 0).toNat)))
end
def rd9 := And.intro @Fi (And.intro @Mi (And.intro @Mh (And.intro @Qp.eq_1 (And.intro @Vg.eq_1 @ipI.eq_1))))
inductive Pl where
 | pick (l : Int)
 | one (k : Nat) (r : Pl)
 | wit (k : Nat) (r : Pl)
 | low (k : Nat) (a b : Pl)
 | msk (l : Int) (r : Pl)
 | tab
def vJ : Pl → Nat
 | .pick _ => 1
 | .one _ r => vJ r + 1
 | .wit _ r => vJ r + 1
 | .low _ a b => vJ a + vJ b + 1
 | .msk _ r => vJ r + 1
 | .tab => 1
abbrev Sts := List (Int × Int × Int)
def u6 (ss : Sts) (k : Nat) : Int × Int × Int := ss.getD k (0, 0, 0)
structure Lf (ss : Sts) (left : List Nat) : Prop where
 ne : left ≠ []
 lt : ∀ k ∈ left, k < ss.length
 up : left.Pairwise (· < ·)
def kids (ss : Sts) : Pl → List Nat → List (List Nat × Pl)
 | .pick _, _ => []
 | .tab, _ => []
 | .one k r, left => [(left.filter (· ≠ k), r)]
 | .wit k r, left => [(left.filter (· ≠ k), r)]
 | .low k a b, left => [(left.filter (· < k), a), (left.filter (k ≤ ·), b)]
 | .msk l r, left => [(left.filter fun k => (u6 ss k).2.2 ≠ l, r)]
def yx (ss : Sts) : Pl → List Nat → Prop
 | .pick _, left => Lf ss left
 | .tab, left => Lf ss left
 | .one k r, left => Lf ss left ∧ yx ss r (left.filter (· ≠ k))
 | .wit k r, left => Lf ss left ∧ yx ss r (left.filter (· ≠ k))
 | .low k a b, left => Lf ss left ∧ yx ss a (left.filter (· < k)) ∧ yx ss b (left.filter (k ≤ ·))
 | .msk l r, left => Lf ss left ∧ yx ss r (left.filter fun k => (u6 ss k).2.2 ≠ l)
theorem yx.kids {ss : Sts} {p : Pl} {left : List Nat} (h : yx ss p left) : ∀ x ∈ kids ss p left, yx ss x.2 x.1 := by
 intro x hx
 cases p with
 | pick l => cases hx
 | tab => cases hx
 | one k r => rw [List.mem_singleton.mp hx]; exact h.2
 | wit k r => rw [List.mem_singleton.mp hx]; exact h.2
 | low k a b =>
  rcases List.mem_cons.mp hx with rfl | hx
  ·exact h.2.1
  ·rw [List.mem_singleton.mp hx]; exact h.2.2
 | msk l r => rw [List.mem_singleton.mp hx]; exact h.2
def O9 (ss : Sts) (left : List Nat) : Int := (u6 ss (left.getLast?.getD 0)).2.1 - (u6 ss (left.head?.getD 0)).1 + 1
theorem nM (xs : List V) (n : Nat) (h : n ≤ xs.length) : jK xs (some (n : Int)) none = xs.drop n := by
 unfold jK
 have e1 : HT.sIx xs.length 0 (some (n : Int)) = n := by
  simp only [HT.sIx]
  split
  ·omega
  ·omega
 have e2 : HT.sIx xs.length xs.length none = xs.length := by simp [HT.sIx]
 rw [e1, e2]
 exact List.take_of_length_le (by rw [List.length_drop]; exact Nat.le_refl _)
section
variable {X : Cx} {e o : Expr} {te to : TE} {pos : Pos}
end
def Wlk (h : Heap) (i l : Addr) (k : Nat) (xs : Array Value) : Prop := (h.IsTupleIter i l k ∧ h.IsTuple l xs) ∨ (h.IsListIter i l k ∧ h.IsList l xs)
@[reducible] def IsZip2 (h : Heap) (z TI TO a : Addr) (b : Bool) : Prop := h.get? z = some { cls := Value.type "zip", data := Data.fields #[rawInt a, Value.bool b, Value.bool false, Value.ref TI, Value.ref TO] }
section
variable {X : Cx}
end
def dzQ (K : PySem.W.Frag) (vs : List V) (H1 : Hp) (Q : VK) : Prop := ∃ (a b : Addr) (kvs : List (Key × V)) (ys : List V), vs = [.ref a, .ref b] ∧ (SqT K H1 a (kvs.map fun kv => kV kv.1) ∨ SqL K H1 a (kvs.map fun kv => kV kv.1)) ∧ SqT K H1 b ys ∧ ys.take kvs.length = kvs.map (·.2) ∧ 0 < kvs.length ∧ kvs.length ≤ 15 ∧ ∀ p, H1 p = none → Q (.ref p) (upd H1 p (.dK (fG [] kvs)))
def tDZ (K : PySem.W.Frag) (ta : TA) : TE := fun σ H Q => ta σ H fun vs H1 => dzQ K vs H1 Q
theorem Qt (K : PySem.W.Frag) (ta : TA) (σ : St) (H : Hp) (Q : VK) : tDZ K ta σ H Q = ta σ H fun vs H1 => dzQ K vs H1 Q := rfl
def dgQ (x y : V) (H : Hp) (Q : VK) : Prop := ∃ a v, x = .ref a ∧ qi H a y (some v) ∧ Q v H
def tDG (td ty : TE) : TE := fun σ H Q => td σ H fun x H1 => ty σ H1 fun y H2 => dgQ x y H2 Q
theorem Qv (td ty : TE) (σ : St) (H : Hp) (Q : VK) : tDG td ty σ H Q = td σ H fun x H1 => ty σ H1 fun y H2 => dgQ x y H2 Q := rfl
def dpQ (x y v : V) (H : Hp) (R : Hp → Prop) : Prop := ∃ a H4, x = .ref a ∧ Vc H a y v H4 ∧ R H4
def sDP (td ty tv : TE) : TS := fun D σ H => tv σ H fun v H1 => td σ H1 fun x H2 => ty σ H2 fun y H3 => dpQ x y v H3 fun H4 => D.nx σ H4
theorem QJ (td ty tv : TE) (D : Ends) (σ : St) (H : Hp) : sDP td ty tv D σ H = tv σ H fun v H1 => td σ H1 fun x H2 => ty σ H2 fun y H3 => dpQ x y v H3 fun H4 => D.nx σ H4 := rfl
def daQ (x y : V) (H : Hp) (R : Addr → V → Prop) : Prop := ∃ a v, x = .ref a ∧ qi H a y (some v) ∧ R a v
def dbQ (a : Addr) (y v y2 : V) (H : Hp) (R : Hp → Prop) : Prop := Vp v y2 H fun z H4 => ∃ H5, Vc H4 a y z H5 ∧ R H5
def sDA (td ty tv : TE) : TS := fun D σ H => td σ H fun x H1 => ty σ H1 fun y H2 => daQ x y H2 fun a v => tv σ H2 fun y2 H3 => dbQ a y v y2 H3 fun H5 => D.nx σ H5
theorem QK (td ty tv : TE) (D : Ends) (σ : St) (H : Hp) : sDA td ty tv D σ H = td σ H fun x H1 => ty σ H1 fun y H2 => daQ x y H2 fun a v => tv σ H2 fun y2 H3 => dbQ a y v y2 H3 fun H5 => D.nx σ H5 := rfl
section
variable {X : Cx} {o i e value : Expr} {pos pos' tpos : Pos} {td ty tv : TE}
theorem Ud (hu : X.A.units + 1 < cLine) (ho : QE X o td) (hi : QE X i ty) (hs : TQ i) : QE X (.Subscript o i pos) (tDG td ty) := ⟨Mx hu ho.h hi.h hs⟩
end
def rdA := And.intro @Qt (And.intro @Qv (And.intro @QJ @QK))
section
variable {prog : Program} {w : World} {A : Around} {R : Result → Shared → Prop} {s : Shared}
end
section
variable {X : Cx} {NX N : List Str} {kX : List (Str × NameKind)} {mp : List (Option Nat)} {scope : Scope}
end
section
variable {X : Cx}
end
section
variable {M : Model} {A : Around} {E : Value → Shared → Prop} {env : Env}
variable {nm q : Str} {C N : Addr} {bs bm : List Value} {hdct : Bool} {sn : List Str} {sub : List Value} {ab : Bool} {col : Option Bool} {dd : Option Addr} {k0 k1 k2 k3 k5 : Option Value} {newId : String}
end
section
variable {prog : Program} {w : World} {A : Around} {E : Value → Shared → Prop}
variable {nm q : Str} {C N : Addr} {bs bm bmB : List Value} {hdct : Bool} {sn : List Str} {sub : List Value} {ab : Bool} {col : Option Bool} {dd : Option Addr} {k0 k1 k2 k3 k5 : Option Value} {nwId B newId initId : String}
end
open PySem.W (Frag clsIn findIn takerIn InstAt looks_clsIn looks_findIn looks_takesIn Looks check_slot looks_mroIn mroIn set_plain osa_eq)
open Builtin Builtin.ObjectAttr
def vbm : List Value := [.type "ValueError", .type "Exception", .type "BaseException", .type "object"]
section
variable {prog : Program} {w : World} {A : Around} {E : Value → Shared → Prop} {K : Frag} {h : Heap} {g : Array GenState} {d : Drawn} {t : Nat} {os : OsState} {x C D : Addr} {cd : ClassData} {name : Str} {v : Value} {o : Obj} {vs : Array Value}
end
open PySem.W (Frag clsIn findIn takerIn InstAt looks_clsIn looks_findIn looks_takesIn Looks check_slot looks_mroIn mroIn handedIn handedOut_of)
section
variable {prog : Program} {w : World} {A : Around} {E : Value → Shared → Prop} {K : Frag} {h : Heap} {g : Array GenState} {d : Drawn} {t : Nat} {os : OsState} {x C D dx : Addr} {cd : ClassData} {name : Str} {v : Value} {o : Obj} {vs : Array Value} {m : Str → Option Value} {expr : Bool}
end
structure XCls (K : PySem.W.Frag) (C D N fI : Addr) : Prop where
 obj : ∃ nm q bs sn sub ab col dd k0 k1 k2 k3 k5, K.lookup C = some (excClassObj nm q C N bs (.ref D :: vbm) true sn sub ab col dd k0 k1 k2 k3 k5 "ValueError.__new__")
 tail : PySem.W.tailIn K vbm (.ref D :: vbm) = true
 nsok : PySem.W.nsOkIn K N = true
 init : PySem.W.nsIn K N "__init__" = some (some (.ref fI))
 set : PySem.W.findIn K (.ref C) "__setattr__" = some (some (.builtin "object.__setattr__"))
 ga : PySem.W.findIn K (.ref C) "__getattribute__" = some (some (.builtin "BaseException.__getattribute__"))
 gk : PySem.W.findIn K (.ref C) "__getattr__" = some none
section
variable {X : Cx} {C D N fI : Addr} {x : Str} {np apos cpos : Pos} {e : Expr} {es : List Expr} {t : TA}
end
section
variable {X : Cx} {C D N fI : Addr} {f : Str} {o value : Expr} {pos pos' : Pos} {ta tv : TE}
end
abbrev TJ := St → Hp → (Hp → Prop) → Prop
section
variable {X : Cx} {e : Expr} {es : List Expr} {t : TJ} {te : TE} {x : Str} {j : Nat} {pos : Pos}
end
section
variable {X : Cx} {C D N fI : Addr} {x : Str} {np cpos pos : Pos} {e : Expr} {es : List Expr} {t : TA} {k : Nat} {fd : FuncData} {ps : List Str} {sp : Sp} {E : XK}
end
section
variable {M : Model} {A : Around} {E : Value → Shared → Prop}
variable {nm q nmD qD : Str} {C N D ND : Addr} {bs bm bsD bmD : List Value} {hdct hdctD : Bool} {sn snD : List Str} {sub subD : List Value} {ab abD : Bool} {col colD : Option Bool} {dd ddD : Option Addr} {k0 k1 k2 k3 k5 j0 j1 j2 j3 j5 : Option Value} {newId newIdD : String}
end
section
variable {X : Cx} {pins pins' : List (Addr × Obj)} {σ : St} {H : Hp} {s : Shared} {xe : Value → Shared → Prop} {x : Addr}
end
section
variable {X : Cx} {pins : List (Addr × Obj)} {σ : St} {H1 H2 : Hp} {s1 s2 : Shared} {x C : Addr} {ox : Obj} {vs : Array Value}
end
section
variable {X : Cx} {C D N fI ND : Addr} {dn n : Str} {i : Nat} {body suite : List Stmt} {b₀ : Stmt} {np hpos pos : Pos} {tb : XK → TS} {ts : TS}
end
open PySem.W (Frag clsIn findIn takerIn InstAt looks_clsIn looks_findIn looks_takesIn looks_specialIn specialIn takesIn Looks check_slot looks_mroIn mroIn handedIn handedOut_of class_get KitX)
section
variable {prog : Program} {w : World} {A : Around} {E : Value → Shared → Prop} {s : Shared} {K : Frag} {x C : Addr} {ox : Obj} {od : Option Obj}
end
section
variable {X : Cx} {pins : List (Addr × Obj)} {σ : St} {H : Hp} {s : Shared} {A : Around} {E : Value → Shared → Prop} {Q : Value → Shared → Prop} {c : Value} {b : Bool} {x C dx : Addr} {fs : List (Str × V)}
variable {D N fI : Addr} {e : Expr} {f : Str} {pos : Pos} {ta : TE}
end
section
variable {P : Program} {w : World} {K : PySem.W.Frag} {mg : Str → Option Value} {base : Heap}
end
section
variable {X : Cx} {k : Nat} {ps : List Str} {sp : Sp} {x f : Str} {p np apos cpos pos pos' : Pos} {e o value : Expr} {es : List Expr} {t : TA} {E : XK} {C D N fI : Addr} {te ta tv : TE}
end
section
variable {X : Cx} {k : Nat} {ps : List Str} {sp : Sp} {x : Str} {p pos : Pos} {e : Expr} {es : List Expr} {t : TA} {E : XK}
end
section
variable {X : Cx} {e o : Expr} {te to : TE} {pos : Pos}
end
open Builtin
section
variable {X : Cx}
end
mutual
def noL : PyData → Bool
 | .list _ => false
 | .tuple ds => UJ ds
 | _ => true
def UJ : List PyData → Bool
 | [] => true
 | d :: ds => noL d && UJ ds
end
section
variable {X : Cx} {e e2 o i value : Expr} {te te2 to ti tv : TE} {pos tpos : Pos}
end
theorem qi.k' {H : Hp} {a : Addr} {kvs : List (Key × V)} {k : Key} {v : V} (e : H a = some (.dK kvs)) (hv : lX kvs k = some v) : qi H a (kV k) (some v) := by
 rw [← hv]
 exact qi.k e
def lbl (ss : Sts) (k : Nat) : Int := (u6 ss k).2.2
def iw (ss : Sts) : Pl → List Nat → List (List Nat × Pl)
 | .pick l, left => [(left, .pick l)]
 | .tab, left => [(left, .tab)]
 | .one k r, left => (left, .one k r) :: iw ss r (left.filter (· ≠ k))
 | .wit k r, left => (left, .wit k r) :: iw ss r (left.filter (· ≠ k))
 | .low k a b, left => (left, .low k a b) :: (iw ss b (left.filter (k ≤ ·)) ++ iw ss a (left.filter (· < k)))
 | .msk l r, left => (left, .msk l r) :: iw ss r (left.filter fun k => (u6 ss k).2.2 ≠ l)
def Fy (ss : Sts) (W : List (List Nat × Pl)) : List (List Nat × Pl) := (W.reverse.map fun x => iw ss x.2 x.1).flatten
theorem steps_kids (ss : Sts) (p : Pl) (left : List Nat) : iw ss p left = (left, p) :: Fy ss (kids ss p left) := by
 cases p <;> simp [iw, Fy, kids]
def VL (ss : Sts) (left : List Nat) : Pl → Prop
 | .pick l => ∀ k ∈ left, lbl ss k = l
 | .tab => O9 ss left ≤ 200
 | .one k _ => k ∈ left ∧ (u6 ss k).1 = (u6 ss k).2.1
 | .wit k _ => k ∈ left
 | .low k _ _ => k ∈ left
 | .msk l _ => O9 ss left ≤ 64 ∧ ∃ k ∈ left, lbl ss k = l
def PlV (ss : Sts) : Pl → List Nat → Prop
 | .pick l, left => Lf ss left ∧ VL ss left (.pick l)
 | .tab, left => Lf ss left ∧ VL ss left .tab
 | .one k r, left => (Lf ss left ∧ VL ss left (.one k r)) ∧ PlV ss r (left.filter (· ≠ k))
 | .wit k r, left => (Lf ss left ∧ VL ss left (.wit k r)) ∧ PlV ss r (left.filter (· ≠ k))
 | .low k a b, left => (Lf ss left ∧ VL ss left (.low k a b)) ∧ PlV ss a (left.filter (· < k)) ∧ PlV ss b (left.filter (k ≤ ·))
 | .msk l r, left => (Lf ss left ∧ VL ss left (.msk l r)) ∧ PlV ss r (left.filter fun k => (u6 ss k).2.2 ≠ l)
def jD : Pl → Nat → List (Nat × Nat)
 | .pick _, _ => []
 | .tab, _ => []
 | .one _ r, p => jD r (p + 1)
 | .wit _ r, p => jD r (p + 1)
 | .msk _ r, p => jD r (p + 1)
 | .low _ a b, p => jD b (p + 1) ++ (p, p + 1 + vJ b) :: jD a (p + 1 + vJ b)
def Oa : List Pl → List Nat → Nat → List (Nat × Nat)
 | [], _, _ => []
 | c :: rest, T, p => jD c p ++ (match T with | [] => [] | t :: T' => match rest with | [] => [] | _ :: _ => (t, p + vJ c) :: Oa rest T' (p + vJ c))
theorem futA_one (c : Pl) (T : List Nat) (p : Nat) : Oa [c] T p = jD c p := by
 cases T <;> exact List.append_nil _
def Fit (cs : List RowC) (p : Nat) (R : List RowC) : Prop := ∀ (i : Nat) c, R[i]? = some c → cs[p + i]? = some c
theorem Fit.hd {cs : List RowC} {p : Nat} {c : RowC} {R : List RowC} (h : Fit cs p (c :: R)) : cs[p]? = some c := h 0 c rfl
section
variable {X : Cx} {o e i : Expr} {to te td ty : TE} {pos : Pos}
end
theorem ln1 {α : Type} {us : List α} (h : us.length = 1) : ∃ a, us = [a] := by
 cases us with
 | nil => cases h
 | cons a r =>
  cases r with
  | nil => exact ⟨a, rfl⟩
  | cons b r => cases h
theorem ln2 {α : Type} {us : List α} (h : us.length = 2) : ∃ a0 a1, us = [a0, a1] := by
 cases us with
 | nil => cases h
 | cons a0 r =>
  obtain ⟨a1, rfl⟩ := ln1 (Nat.succ.inj h)
  exact ⟨a0, a1, rfl⟩
theorem ln3 {α : Type} {us : List α} (h : us.length = 3) : ∃ a0 a1 a2, us = [a0, a1, a2] := by
 cases us with
 | nil => cases h
 | cons a0 r =>
  obtain ⟨a1, a2, rfl⟩ := ln2 (Nat.succ.inj h)
  exact ⟨a0, a1, a2, rfl⟩
theorem ln4 {α : Type} {us : List α} (h : us.length = 4) : ∃ a0 a1 a2 a3, us = [a0, a1, a2, a3] := by
 cases us with
 | nil => cases h
 | cons a0 r =>
  obtain ⟨a1, a2, a3, rfl⟩ := ln3 (Nat.succ.inj h)
  exact ⟨a0, a1, a2, a3, rfl⟩
section
variable {X : Cx} {i : Nat} {x : Str} {pos : Pos}
end
def S7 : Pl → Bool
 | .pick _ => true
 | .tab => true
 | _ => false
def Jo (ss : Sts) (C : List (List Nat × Pl)) : List (List Nat × Pl) := (C.map fun x => iw ss x.2 x.1).flatten
def Im (S : List (List Nat × Pl)) : Nat → Bool
 | 0 => false
 | i + 1 => match S[i]? with
  | some x => S7 x.2
  | none => false
structure AhSt (ss : Sts) (S : List (List Nat × Pl)) (tot : List (Nat × Nat)) (i : Nat) (C : List (List Nat × Pl)) (T : List Nat) (done : List (Nat × Nat)) : Prop where
 fl : S.drop i = Jo ss C
 no : Im S i = false → T.length + 1 = C.length ∧ tot = done ++ Oa (C.map (·.2)) T i
 yes : Im S i = true → T.length = C.length ∧ ((C = [] ∧ tot = done) ∨ ∃ t T', T = t :: T' ∧ tot = done ++ (t, i) :: Oa (C.map (·.2)) T' i)
theorem flat_cons (ss : Sts) (x : List Nat × Pl) (C : List (List Nat × Pl)) : Jo ss (x :: C) = iw ss x.2 x.1 ++ Jo ss C := rfl
section
variable {X : Cx} {pos : Pos} {te : TE}
end
section
variable {X : Cx} {e o : Expr} {te to : TE} {pos : Pos}
end
def JW (many own : Int) : RowC → Prop
 | .one _ t => btw own many t = true
 | .rng a b t => a ≤ b ∧ btw own many t = true
 | .low _ t => btw own many t = true
 | .msk _ wd bits t => (1 ≤ wd ∧ wd ≤ 64) ∧ (0 ≤ bits ∧ bits < 2 ^ wd.toNat) ∧ btw own many t = true
 | .tab _ gs => gs ≠ [] ∧ gs.all (btw own many) = true
 | .pik l => 0 ≤ l
theorem JW.c {many own : Int} {c : RowC} (h : JW many own c) : Tw many own c := by
 cases c with
 | one n t => exact h
 | low n t => exact h
 | rng a b t => exact h.2
 | msk lo wd bits t => exact ⟨h.2.2, h.1.1, h.1.2, h.2.1.1⟩
 | tab lo gs => exact h.2
 | pik l => trivial
open PySem PySem.Spec PyProof.Rows Builtin Builtin.Str
theorem ud : ∀ {ts : List Str} {us : List Value}, Vals (ts.map V.str) us → ∃ l : List (Str × Tok), strValues l = us ∧ l.map (·.1) = ts
 | [], _, h => by
  cases h
  exact ⟨[], rfl, rfl⟩
 | t :: ts, _, h => by
  cases h with
  | cons r h =>
   obtain ⟨l, rfl, e⟩ := ud h
   obtain ⟨k, rfl⟩ := r
   exact ⟨(t, k) :: l, rfl, by rw [List.map_cons, e]⟩
theorem uq : ∀ (l : List (Str × Tok)), Vals ((l.map (·.1)).map V.str) (strValues l)
 | [] => .nil
 | (x, k) :: l => .cons ⟨k, rfl⟩ (uq l)
def jnq (ob : Option HO) (sep : Str) (H : Hp) (Q : VK) : Prop := match ob with
 | some (.lst xs) => ∃ ts : List Str, xs = ts.map V.str ∧ JoinOk sep ts = true ∧ Q (.str (Txt.join sep ts)) H
 | _ => False
def rJoin : V → List V → Hp → VK → Prop := fun x vs H Q => match x, vs with
 | .str sep, [.ref b] => jnq (H b) sep H Q
 | _, _ => False
theorem Gy (sep : Str) (b : Addr) (H : Hp) (Q : VK) : rJoin (.str sep) [.ref b] H Q = jnq (H b) sep H Q := rfl
theorem Nr (xs : List V) (sep : Str) (H : Hp) (Q : VK) : jnq (some (.lst xs)) sep H Q = ∃ ts : List Str, xs = ts.map V.str ∧ JoinOk sep ts = true ∧ Q (.str (Txt.join sep ts)) H := rfl
def yZ : V → List V → Hp → VK → Prop := fun x vs H Q => match x, vs with
 | .str z, [.str y] => (y.length == 0) = false ∧ z.length ≤ sizeLine ∧ (Txt.split z y).length ≤ sizeLine ∧ ∀ p, H p = none → Q (.ref p) (upd H p (.lst ((Txt.split z y).map V.str)))
 | _, _ => False
theorem Cz (z y : Str) (H : Hp) (Q : VK) : yZ (.str z) [.str y] H Q = ((y.length == 0) = false ∧ z.length ≤ sizeLine ∧ (Txt.split z y).length ≤ sizeLine ∧ ∀ p, H p = none → Q (.ref p) (upd H p (.lst ((Txt.split z y).map V.str)))) := rfl
def vB : V → List V → Hp → VK → Prop := fun x vs H Q => match x, vs with
 | .str z, [.str y] => Q (.bl (Txt.startswith z y)) H
 | _, _ => False
theorem yX (z y : Str) (H : Hp) (Q : VK) : vB (.str z) [.str y] H Q = Q (.bl (Txt.startswith z y)) H := rfl
def NP : V → Prop
 | .str _ => True
 | _ => False
theorem IW (z : Str) : NP (.str z) = True := rfl
def tSM (r : V → List V → Hp → VK → Prop) (to : TE) (t : TA) : TE := fun σ H Q => to σ H fun x H1 => NP x ∧ t σ H1 fun xs H2 => r x xs H2 Q
theorem Qk (r : V → List V → Hp → VK → Prop) (to : TE) (t : TA) (σ : St) (H : Hp) (Q : VK) : tSM r to t σ H Q = to σ H fun x H1 => NP x ∧ t σ H1 fun xs H2 => r x xs H2 Q := rfl
def Aj : List V → Hp → VK → Prop := fun vs H Q => match vs with
 | [.int i] => i.natAbs.log2 < 1920 ∧ Q (.str (toString i)) H
 | [.str x] => Q (.str x) H
 | _ => False
theorem KD (i : Int) (H : Hp) (Q : VK) : Aj [.int i] H Q = (i.natAbs.log2 < 1920 ∧ Q (.str (toString i)) H) := rfl
theorem KC (x : Str) (H : Hp) (Q : VK) : Aj [.str x] H Q = Q (.str x) H := rfl
def GP : List V → Hp → VK → Prop := fun vs H Q => match vs with
 | [.str x] => ∃ n, PySem.intText? x = some n ∧ x.length ≤ 640 ∧ Q (.int n) H
 | _ => False
theorem GK (x : Str) (H : Hp) (Q : VK) : GP [.str x] H Q = ∃ n, PySem.intText? x = some n ∧ x.length ≤ 640 ∧ Q (.int n) H := rfl
theorem Qf (K : PySem.W.Frag) (x : V) (H : Hp) : tyV K "str" x H = NP x := by
 refine propext ⟨fun h => ?_, fun h => ?_⟩
 ·cases x with
  | str z => trivial
  | int z => exact absurd (show "str" = "int" from h) (by decide)
  | ref p =>
   rcases h with ⟨e, _⟩ | ⟨e, _⟩ | ⟨e, _⟩ | ⟨e, _⟩
   ·exact absurd e (by decide)
   ·exact absurd e (by decide)
   ·exact absurd e (by decide)
   ·exact absurd e (by decide)
  | _ => exact h.elim
 ·cases x with
  | str z => rfl
  | _ => exact h.elim
section
variable {X : Cx}
theorem nj : MtR X "str.join" rJoin := by
 intro pins s σ H x xs v us Q I rx rv h
 unfold rJoin at h
 split at h
 ·rename_i sep b
  obtain ⟨t, rfl⟩ := rx
  obtain ⟨u, rfl, ru⟩ := rv.one
  cases ru
  cases e : H b with
  | none => rw [e] at h; exact h.elim
  | some o =>
   rw [e] at h
   cases o with
   | lst ys =>
    obtain ⟨ts, rfl, hok, q⟩ := h
    obtain ⟨its, r, pl, hz⟩ := I.list (SqL.of e)
    obtain ⟨l, rfl, hl⟩ := ud r
    exact SC.join pl.isList hl hok fun t' k => ⟨.str _, H, I.tok _, ⟨_, rfl⟩, q⟩
   | _ => exact h.elim
 ·exact h.elim
theorem rD : MtR X "str.split" yZ := by
 intro pins s σ H x xs v us Q I rx rv h
 unfold yZ at h
 split at h
 ·rename_i z y
  obtain ⟨hy, hz, hl, q⟩ := h
  obtain ⟨t, rfl⟩ := rx
  obtain ⟨u, rfl, ru⟩ := rv.one
  obtain ⟨tu, rfl⟩ := ru
  have fin : ∀ (l : List (Str × Tok)) (k : Nat), l.map (·.1) = Txt.split z y → EP X pins σ Q (.ref s.heap.objs.size) { s with toks := k, heap := s.heap.push { cls := .type "list", data := .seq (strValues l).toArray } } := by
   intro l k hlm
   refine ⟨.ref _, _, I.laid (a := s.heap.objs.size) (o := .lst ((Txt.split z y).map V.str)) (t' := k) (fun b u e => Heap.get?_push_of_some _ e) (Nat.le_refl _) ?_, rfl, q _ (I.hok.fresh (Nat.le_refl _))⟩
   have hv := uq l
   rw [hlm] at hv
   exact ⟨by rw [List.length_map]; exact hl, _, 0, hv, Heap.get?_push_size _ rfl⟩
  cases h1 : (decide (z.length < y.length) || decide (strKind z < strKind y))
  ·cases hf : (occurrences z y 0 z.length (z.length + 1)).isEmpty
   ·have es : Txt.split z y = partsBetween z (occurrences z y 0 z.length (z.length + 1)) y.length := (if_neg (ne_true_of_eq_false h1)).trans (if_neg (ne_true_of_eq_false hf))
    refine call_meets F.slot_str_split (typeIs_str _ _ _) F.entry_str_split (F.args_str_split_2 _ _) (meets_str_split_sep z y t tu h1 hy hf hz (by rw [← es]; exact hl)) ?_
    show wants _ _ _ { s with toks := _, heap := s.heap.push { cls := .type "list", data := .seq (strsFrom s.toks (partsBetween z (occurrences z y 0 z.length (z.length + 1)) y.length)).toArray } }
    rw [strsFrom_eq]
    exact fin (numbered s.toks _) _ ((numbered_texts _ _).trans es.symm)
   ·exact call_meets F.slot_str_split (typeIs_str _ _ _) F.entry_str_split (F.args_str_split_2 _ _) (meets_str_split_not_found z y t tu h1 hy hf)
     (fin [(z, t)] s.toks ((if_neg (ne_true_of_eq_false h1)).trans (if_pos hf)).symm)
  ·exact call_meets F.slot_str_split (typeIs_str _ _ _) F.entry_str_split (F.args_str_split_2 _ _) (meets_str_split_cannot_occur z y t tu h1)
    (fin [(z, t)] s.toks (if_pos h1).symm)
 ·exact h.elim
theorem Dq : MtR X "str.startswith" vB := by
 intro pins s σ H x xs v us Q I rx rv h
 unfold vB at h
 split at h
 ·rename_i z y
  obtain ⟨t, rfl⟩ := rx
  obtain ⟨u, rfl, ru⟩ := rv.one
  obtain ⟨tu, rfl⟩ := ru
  exact SC.startswith ⟨.bl _, H, I, rfl, h⟩
 ·exact h.elim
variable {o e : Expr} {to : TE} {t : TA} {apos cpos : Pos}
theorem Um {name : Str} {id : String} {r : V → List V → Hp → VK → Prop} (slot : Slot "str" name id) (hty : typeOf (.builtin id) = pure (.type "method_descriptor")) (hm : MtR X id r) (ho : PE X o to) (ha : PA X [e] t)
  (hbase : attributeBase o name X.env (eval o X.env) = eval o X.env := by rfl)
  (hfew : ((backTo cpos (starEach [e] X.env)).all (fun x => !x.1) && (backToKw cpos (keywordEach [] X.env)).all (fun x => x.1.isSome)
   && decide ([e].length + ([] : List Keyword).length + (if ([] : List Keyword).isEmpty then 0 else 1) < 30)) = true := by rfl)
  (hline : (apos.endLine == cpos.line) = true := by rfl) (hs : starEach [e] X.env = (false, eval e X.env) :: starEach [] X.env := by rfl) (hplain : (backTo cpos (starEach [] X.env)).any (·.1) = false := by rfl) :
  PE X (.Call (.Attribute o name apos) [e] [] cpos) (tSM r to t) := by
 have h := Uv (X := X) F.plainAttrs_str slot hty hm ho ha hbase hfew hline hs hplain
 have e1 : tBM X.K "str" r to t = tSM r to t := by
  unfold tBM tSM
  simp only [Qf]
 rwa [e1] at h
theorem jQ {name : Str} {id : String} {r : V → List V → Hp → VK → Prop} (slot : Slot "str" name id) (hty : typeOf (.builtin id) = pure (.type "method_descriptor")) (hm : MtR X id r) (ho : QE X o to) (ha : QA X [e] t)
  (hbase : attributeBase o name X.env (eval o X.env) = eval o X.env := by rfl)
  (hfew : ((backTo cpos (starEach [e] X.env)).all (fun x => !x.1) && (backToKw cpos (keywordEach [] X.env)).all (fun x => x.1.isSome)
   && decide ([e].length + ([] : List Keyword).length + (if ([] : List Keyword).isEmpty then 0 else 1) < 30)) = true := by rfl)
  (hline : (apos.endLine == cpos.line) = true := by rfl) (hs : starEach [e] X.env = (false, eval e X.env) :: starEach [] X.env := by rfl) (hplain : (backTo cpos (starEach [] X.env)).any (·.1) = false := by rfl) :
  QE X (.Call (.Attribute o name apos) [e] [] cpos) (tSM r to t) := ⟨Um slot hty hm ho.h ha.h hbase hfew hline hs hplain⟩
theorem lG : cM X (.type "str") Aj := by
 intro pins s σ H xs us Q I r h
 unfold Aj at h
 split at h
 ·rename_i i
  exact v8 pins s σ H _ us Q I r ⟨i, rfl, h.1, h.2⟩
 ·rename_i x
  obtain ⟨u, rfl, t, rfl⟩ := vals1 r
  exact PySem.P.str_of_str ⟨.str _, H, I, ⟨_, rfl⟩, h⟩
 ·exact h.elim
theorem Ek : cM X (.type "int") GP := by
 intro pins s σ H xs us Q I r h
 unfold GP at h
 split at h
 ·rename_i x
  obtain ⟨n, hn, hl, q⟩ := h
  obtain ⟨u, rfl, t, rfl⟩ := vals1 r
  exact PySem.W.KIN.call_text hn hl ⟨.int _, H, I.tok _, ⟨_, rfl⟩, q⟩
 ·exact h.elim
end
def Its (z : Str) : It := ⟨fun i _ => i < z.length, fun i H x H' => H' = H ∧ ∃ c, z.cps[i]? = some c ∧ x = .str ⟨#[c]⟩, fun i _ => i = z.length⟩
theorem wJ {P : Program} {w : World} {K : PySem.W.Frag} {tg : Expr} (it : Addr) (z : Str) {n : String} {t : Tok} (hn : ["enumerate", "zip", "dict_itemiterator", "dict_reverseitemiterator", "odict_iterator", "itertools.zip_longest", "itertools.pairwise"].contains n = false)
  (W : ∀ A : Around, A.handled = none → Walks P w A it [it] [it] z.cps.size (SignAt z) (fun i h => h.IsStrIter it n z t i))
  (hself : ∀ (A : Around) (i : Nat) (s : Shared) (Q : Value → Shared → Prop) (E : Value → Shared → Prop), s.heap.IsStrIter it n z t i → Q (.ref it) s → wpAny (model P w) A (pyIter (.ref it)) Q E s) : Turn P w K tg (Its z) [it] it (fun i h => h.IsStrIter it n z t i) where
 mem := by simp
 obj := fun i h st b hb => by
  have e : b = it := by simpa using hb
  subst e
  obtain ⟨o, e, c, d⟩ := st
  exact ⟨o, e, fun v z => by rw [d] at z; cases z⟩
 keep := fun i h h' st k => by
  obtain ⟨o, e, r⟩ := st
  exact ⟨o, k it (by simp) o e, r⟩
 item := by
  intro X hP hw hK hc i pins s σ H E I hf st hg
  subst hP hw hK
  obtain ⟨f0, f1, f2, f3, f4, f5⟩ := hf it (by simp)
  refine (W X.A (I.ok.hd hc)).item i s _ _ hg st fun v h' tk hv st' kk => ?_
  obtain ⟨c, u, hcx, rfl⟩ := hv
  have I1 : Inv X pins σ H { s with heap := h', toks := tk } := I.turned (fun b o hb e => kk b o (by simpa using hb) e) f0 f1 f3 f4 f5
  obtain ⟨o, e, co, d⟩ := id st'
  exact ⟨_, rfl, Br (s := { s with heap := h', toks := tk }) e co d hn ⟨.str ⟨#[c]⟩, H, I1, ⟨u, rfl⟩, ⟨rfl, c, hcx, rfl⟩, st', fun b hb => (hf b hb).1⟩⟩
 done := by
  intro X hP hw hK hc i pins s σ H E I hf st hg
  subst hP hw hK
  obtain ⟨f0, f1, f2, f3, f4, f5⟩ := hf it (by simp)
  have hg' : i = z.cps.size := hg
  subst hg'
  exact (W X.A (I.ok.hd hc)).done s _ _ st fun h' tk kk => ⟨rfl, I.turned (fun b o hb e => kk b o (by simpa using hb) e) f0 f1 f3 f4 f5⟩
 self := hself
def S8 (tl : TE) : TI := fun σ H R => tl σ H fun x H1 => match x with
 | .str z => R (Its z) H1
 | _ => False
def isK (x : V) (H : Hp) (R : It → Hp → Prop) : Prop := match x with
 | .str z => R (Its z) H
 | _ => False
theorem NZ (tl : TE) (σ : St) (H : Hp) (R : It → Hp → Prop) : S8 tl σ H R = tl σ H fun x H1 => isK x H1 R := rfl
theorem NQ (z : Str) (H : Hp) (R : It → Hp → Prop) : isK (.str z) H R = R (Its z) H := rfl
section
variable {X : Cx} {tg l : Expr} {tl : TE}
theorem Rv (hl : PE X l tl) : PI X tg l (S8 tl) := by
 intro pins s σ H R I h
 refine thn (hl pins s σ H _ I h) fun v s1 ⟨x, H1, I1, r1, q1⟩ => ?_
 cases x with
 | str z =>
  obtain ⟨t, rfl⟩ := r1
  replace q1 : R (Its z) H1 := q1
  have fp : ∀ b ∈ [s1.heap.objs.size], nW X pins H1 b := fun b hb => by
   have e : b = s1.heap.objs.size := by simpa using hb
   subst e
   exact I1.DQ (Nat.le_refl _) (I1.hok.fresh (Nat.le_refl _))
  cases ha : z.cps.all (· < 128)
  ·exact wpAny_pyIter_wide ha ⟨s1.heap.objs.size, [s1.heap.objs.size], _, _, H1, rfl, I1.kept (t' := s1.toks) fun b o e => Heap.get?_push_of_some _ e, wJ _ z (by decide) (fun A hA => Walks.strWide hA _ z t) (fun _ _ _ _ _ st hQ => wpAny_pyIter_striter_wide st hQ), ⟨_, Heap.get?_push_size _ rfl, rfl, rfl⟩, fp, q1⟩
  ·exact wpAny_pyIter_ascii ha ⟨s1.heap.objs.size, [s1.heap.objs.size], _, _, H1, rfl, I1.kept (t' := s1.toks) fun b o e => Heap.get?_push_of_some _ e, wJ _ z (by decide) (fun A hA => Walks.strAscii hA _ z t) (fun _ _ _ _ _ st hQ => wpAny_pyIter_striter_ascii st hQ), ⟨_, Heap.get?_push_size _ rfl, rfl, rfl⟩, fp, q1⟩
 | _ => exact q1.elim
theorem Rg (hl : QE X l tl) : QI X tg l (S8 tl) := ⟨Rv hl.h⟩
end
section
variable {mp : List (Option Nat)} {g : TG} {tc : TT} {te : TE} {σ : St} {H : Hp} {Q : VK} {R : It → Hp → Prop}
theorem Tj {z : Str} (hR : R = wG mp g tc te σ Q) (hz : z.length ≤ sizeLine) (Pv : Nat → List V → St → Hp → Prop) (h0 : Pv 0 [] (iU mp σ) H) (hl : ∀ i acc τ H, Pv i acc τ H → acc.length ≤ i)
  (hs : ∀ i c acc τ H, z.cps[i]? = some c → Pv i acc τ H → g (.str ⟨#[c]⟩) τ H fun τ1 H4 => tc τ1 H4 fun b H5 => if b = true then te τ1 H5 fun v H6 => Pv (i + 1) (acc ++ [v]) τ1 H6 else Pv (i + 1) acc τ1 H5)
  (hd : ∀ acc τ H d, Pv z.length acc τ H → H d = none → Q (.ref d) (upd H d (.lst acc))) : R (Its z) H := by
 refine nO hR z.length hz Pv h0 hl (fun i acc τ H hi _ => hi) (fun acc τ H _ => rfl) (fun i acc τ H x H3 hi p y => ?_) hd
 obtain ⟨rfl, c, hc, rfl⟩ := y
 exact hs i c acc τ _ hc p
end
open PySem PySem.Spec PyProof.Rows PySem.NumText
def jnL (c : Nat) : List (List Nat) → List Nat
 | [] => []
 | [x] => x
 | x :: y :: r => x ++ c :: jnL c (y :: r)
theorem nA (c : Nat) : ∀ ts : List Str, (Str.join ⟨#[c]⟩ ts).cps.toList = jnL c (ts.map fun t => t.cps.toList)
 | [] => rfl
 | [x] => rfl
 | x :: y :: r => by
  have ih := nA c (y :: r)
  show ((x ++ (⟨#[c]⟩ : Str) ++ Str.join ⟨#[c]⟩ (y :: r)) : Str).cps.toList = _
  rw [Str.cps_append, Str.cps_append, Array.toList_append, Array.toList_append, ih]
  show x.cps.toList ++ [c] ++ _ = x.cps.toList ++ c :: _
  rw [List.append_assoc]
  rfl
theorem Bh {c : Nat} {x : List Nat} {r : List (List Nat)} : ∃ t, jnL c (x :: r) = x ++ t ∧ (t = [] ∧ r = [] ∨ ∃ y s, r = y :: s ∧ t = c :: jnL c r) := by
 cases r with
 | nil => exact ⟨[], (List.append_nil x).symm, .inl ⟨rfl, rfl⟩⟩
 | cons y s => exact ⟨_, rfl, .inr ⟨y, s, rfl, rfl⟩⟩
theorem yg {c : Nat} : ∀ {x y s t : List Nat}, c ∉ x → c ∉ y → (s = [] ∨ ∃ s', s = c :: s') → (t = [] ∨ ∃ t', t = c :: t') → x ++ s = y ++ t → x = y ∧ s = t
 | [], [], s, t, _, _, _, _, e => ⟨rfl, e⟩
 | [], b :: y, s, t, _, hy, hs, _, e => by
  rcases hs with rfl | ⟨s', rfl⟩
  ·cases e
  ·have : c = b := by injection e
   exact absurd (this ▸ List.mem_cons_self ..) hy
 | a :: x, [], s, t, hx, _, _, ht, e => by
  rcases ht with rfl | ⟨t', rfl⟩
  ·cases e
  ·have : a = c := by injection e
   exact absurd (this ▸ List.mem_cons_self ..) hx
 | a :: x, b :: y, s, t, hx, hy, hs, ht, e => by
  have e1 : a = b := by injection e
  have e2 : x ++ s = y ++ t := by injection e
  obtain ⟨h1, h2⟩ := yg (fun z => hx (List.mem_cons_of_mem _ z)) (fun z => hy (List.mem_cons_of_mem _ z)) hs ht e2
  exact ⟨by rw [e1, h1], h2⟩
theorem Iw {c : Nat} : ∀ {ps qs : List (List Nat)}, ps ≠ [] → qs ≠ [] → (∀ p ∈ ps, c ∉ p) → (∀ q ∈ qs, c ∉ q) → jnL c ps = jnL c qs → ps = qs
 | [], _, h, _, _, _, _ => absurd rfl h
 | _ :: _, [], _, h, _, _, _ => absurd rfl h
 | p :: ps, q :: qs, _, _, hp, hq, e => by
  obtain ⟨t1, e1, c1⟩ := Bh (c := c) (x := p) (r := ps)
  obtain ⟨t2, e2, c2⟩ := Bh (c := c) (x := q) (r := qs)
  rw [e1, e2] at e
  have k1 : t1 = [] ∨ ∃ s', t1 = c :: s' := by
   rcases c1 with ⟨z, _⟩ | ⟨_, _, _, z⟩
   ·exact .inl z
   ·exact .inr ⟨_, z⟩
  have k2 : t2 = [] ∨ ∃ s', t2 = c :: s' := by
   rcases c2 with ⟨z, _⟩ | ⟨_, _, _, z⟩
   ·exact .inl z
   ·exact .inr ⟨_, z⟩
  obtain ⟨h1, h2⟩ := yg (hp p (List.mem_cons_self ..)) (hq q (List.mem_cons_self ..)) k1 k2 e
  subst h1
  rcases c1 with ⟨z1, z2⟩ | ⟨y1, s1, z1, z2⟩
  ·rcases c2 with ⟨w1, w2⟩ | ⟨y2, s2, w1, w2⟩
   ·rw [z2, w2]
   ·rw [z1, w2] at h2; cases h2
  ·rcases c2 with ⟨w1, w2⟩ | ⟨y2, s2, w1, w2⟩
   ·rw [z2, w1] at h2; cases h2
   ·rw [z2, w2] at h2
    have h3 : jnL c ps = jnL c qs := by injection h2
    rw [Iw (by rw [z1]; exact List.cons_ne_nil _ _) (by rw [w1]; exact List.cons_ne_nil _ _) (fun a ha => hp a (List.mem_cons_of_mem _ ha)) (fun a ha => hq a (List.mem_cons_of_mem _ ha)) h3]
theorem Fz (x : Str) (c : Nat) : Txt.split x ⟨#[c]⟩ ≠ [] := by
 intro e
 have h := StrLaws.join_split x ⟨#[c]⟩
 unfold Txt.split at e
 split at e
 ·cases e
 ·split at e
  ·cases e
  ·rename_i h2
   rw [StrLaws.partsBetween_eq] at e
   revert e
   cases Builtin.Str.occurrences x ⟨#[c]⟩ 0 x.length (x.length + 1) <;> (intro e; cases e)
theorem lY {c : Nat} {ts : List Str} (hne : ts ≠ []) (hf : ∀ t ∈ ts, c ∉ t.cps.toList) : Txt.split (Txt.join ⟨#[c]⟩ ts) ⟨#[c]⟩ = ts := by
 have ej : Txt.join ⟨#[c]⟩ ts = Str.join ⟨#[c]⟩ ts := StrLaws.glued_eq_join _ _
 rw [ej]
 have h1 := StrLaws.join_split (Str.join ⟨#[c]⟩ ts) ⟨#[c]⟩
 have h2 := Fz (Str.join ⟨#[c]⟩ ts) c
 have h3 := StrLaws.split_free (Str.join ⟨#[c]⟩ ts) c
 generalize Txt.split (Str.join ⟨#[c]⟩ ts) ⟨#[c]⟩ = ps at h1 h2 h3
 have h4 := congrArg (fun z : Str => z.cps.toList) h1
 simp only [nA] at h4
 have h5 := Iw (c := c) (by simpa using h2) (by simpa using hne) (fun p hp => by
  obtain ⟨t, ht, rfl⟩ := List.mem_map.mp hp
  exact h3 t ht) (fun p hp => by
  obtain ⟨t, ht, rfl⟩ := List.mem_map.mp hp
  exact hf t ht) h4
 have inj : ∀ {as bs : List Str}, as.map (fun t => t.cps.toList) = bs.map (fun t => t.cps.toList) → as = bs := by
  intro as
  induction as with
  | nil =>
   intro bs e
   cases bs with
   | nil => rfl
   | cons b bs => cases e
  | cons a as ih =>
   intro bs e
   cases bs with
   | nil => cases e
   | cons b bs =>
    rw [List.map_cons, List.map_cons] at e
    have e1 : a.cps.toList = b.cps.toList := by injection e
    have e2 : as.map (fun t => t.cps.toList) = bs.map (fun t => t.cps.toList) := by injection e
    rw [ih e2, Str.ext' (Array.toList_inj.mp e1)]
 exact inj h5
def fY (x : Str) : List Nat := if x.cps.toList.head? = some 45 then x.cps.toList.tail else x.cps.toList
def jF (c : Nat) : Bool := decide (48 ≤ c) && decide (c ≤ 57)
def cB (x : Str) : Bool := decide (1 ≤ (fY x).length) && decide ((fY x).length ≤ 20) && (fY x).all jF && !(decide ((fY x).head? = some 48) && decide (x ≠ "0"))
def qP (x : Str) : Int := if x.cps.toList.head? = some 45 then -((digitsVal (fY x) : Nat) : Int) else ((digitsVal (fY x) : Nat) : Int)
def iZ (x : Str) : V := if cB x = true then .int (qP x) else .non
theorem rQ {l : List Nat} : l.all jF = true ↔ AllDigits l := by
 rw [List.all_eq_true]
 unfold jF AllDigits
 constructor
 ·intro h c hc
  simpa using h c hc
 ·intro h c hc
  simpa using h c hc
theorem qO {x : Str} (h : cB x = true) : PySem.intText? x = some (qP x) ∧ x.length ≤ 21 := by
 unfold cB at h
 simp only [Bool.and_eq_true, decide_eq_true_eq] at h
 obtain ⟨⟨⟨h1, h2⟩, h3⟩, _⟩ := h
 have hd := rQ.mp h3
 have hl : x.cps.toList.length = x.length := by simp [Str.length]
 unfold qP
 by_cases c : x.cps.toList.head? = some 45
 ·have hf : fY x = x.cps.toList.tail := by unfold fY; rw [if_pos c]
  rw [if_pos c]
  cases e : x.cps.toList with
  | nil => rw [e] at c; cases c
  | cons a r =>
   rw [e] at c
   have ha : a = 45 := by simpa using c
   subst ha
   rw [hf, e, List.tail_cons] at h1 h2 hd ⊢
   have hl2 : x.length ≤ 21 := by rw [← hl, e, List.length_cons]; omega
   exact ⟨intText_neg e hd (fun z => by rw [z] at h1; simp at h1) (by omega), hl2⟩
 ·have hf : fY x = x.cps.toList := by unfold fY; rw [if_neg c]
  rw [if_neg c]
  rw [hf] at h1 h2 hd ⊢
  exact ⟨intText_digits hd (fun z => by rw [z] at h1; simp at h1) (by omega), by omega⟩
theorem Bx {m : Nat} (h : 10 ≤ m) : Nat.toDigits 10 m = Nat.toDigits 10 (m / 10) ++ [Nat.digitChar (m % 10)] := by
 have q := Nat.toDigits_append_toDigits (b := 10) (n := m / 10) (d := m % 10) (by decide) (by omega) (by omega)
 rw [Nat.toDigits_of_lt_base (n := m % 10) (by omega), show 10 * (m / 10) + m % 10 = m by omega] at q
 exact q.symm
theorem uh (m : Nat) : ∀ k : Nat, m < 10 ^ (k + 1) → (Nat.toDigits 10 m).length ≤ k + 1 :=
 Nat.strongRecOn m fun m ih k hk => by
  rcases Nat.lt_or_ge m 10 with g | g
  ·rw [show Nat.toDigits 10 m = _ from Nat.toDigits_of_lt_base g]; simp
  ·rw [Bx g, List.length_append]
   cases k with
   | zero => omega
   | succ k =>
    have := ih (m / 10) (by omega) k (by rw [Nat.pow_succ] at hk; omega)
    show _ + 1 ≤ _
    omega
theorem qx (m : Nat) : 0 < m → ∃ c r, Nat.toDigits 10 m = c :: r ∧ c ≠ '0' :=
 Nat.strongRecOn m fun m ih h0 => by
  rcases Nat.lt_or_ge m 10 with g | g
  ·rw [show Nat.toDigits 10 m = _ from Nat.toDigits_of_lt_base g]
   have dg : ∀ d : Nat, d < 10 → 0 < d → Nat.digitChar d ≠ '0' := by decide
   exact ⟨_, [], rfl, dg m g h0⟩
  ·obtain ⟨c, r, e, hc⟩ := ih (m / 10) (by omega) (by omega)
   exact ⟨c, r ++ [Nat.digitChar (m % 10)], by rw [Bx g, e]; rfl, hc⟩
theorem Bw (m : Nat) : AllDigits ((Nat.toDigits 10 m).map Char.toNat) := fun c hc => by
 rcases List.mem_map.mp hc with ⟨d, hd, rfl⟩
 exact digit_range (Nat.isDigit_of_mem_toDigits (b := 10) (n := m) (by decide) (by decide) hd)
theorem Jw (m : Nat) : (Nat.toDigits 10 m).map Char.toNat ≠ [] := List.ne_nil_of_length_pos (by rw [List.length_map]; exact toDigits_len_ge 10 m)
theorem Cr (m : Nat) : (Str.ofString (toString (Int.negSucc m))).cps.toList = 45 :: (Nat.toDigits 10 (m + 1)).map Char.toNat := by
 rw [signs_ofString]
 show (("-" ++ Nat.repr (m + 1)) : String).toList.map Char.toNat = _
 rw [String.toList_append, List.map_append, Nat.toList_repr]
 rfl
theorem gJ {n : Int} (h : n.natAbs < 10 ^ 20) : iZ (Str.ofString (toString n)) = .int n := by
 have key : cB (Str.ofString (toString n)) = true ∧ qP (Str.ofString (toString n)) = n := by
  cases n with
  | ofNat m =>
   have e := PySem.W.KIN.signs_num m
   replace h : m < 10 ^ 20 := h
   have hall := Bw m
   have hne := Jw m
   have hn45 : ¬ ((Nat.toDigits 10 m).map Char.toNat).head? = some 45 := fun z => by
    have := hall 45 (List.mem_of_head? z)
    omega
   have hf : fY (Str.ofString (toString (Int.ofNat m))) = (Nat.toDigits 10 m).map Char.toNat := by
    unfold fY
    rw [show (Str.ofString (toString (Int.ofNat m))).cps.toList = _ from e, if_neg hn45]
   have hz : ¬ (((Nat.toDigits 10 m).map Char.toNat).head? = some 48 ∧ Str.ofString (toString (Int.ofNat m)) ≠ "0") := fun ⟨z1, z2⟩ => by
    rcases Nat.eq_zero_or_pos m with rfl | hm
    ·exact z2 rfl
    ·obtain ⟨c, r, e2, hc⟩ := qx m hm
     rw [e2] at z1
     have : c.toNat = 48 := by simpa using z1
     exact hc (Char.ext (UInt32.toNat_inj.mp this))
   refine ⟨?_, ?_⟩
   ·unfold cB
    rw [hf]
    have hl := uh m 19 h
    have hl1 : 1 ≤ ((Nat.toDigits 10 m).map Char.toNat).length := List.length_pos_iff.mpr hne
    rw [decide_eq_true hl1, decide_eq_true (by rw [List.length_map]; exact hl), rQ.mpr hall]
    simp only [Bool.and_true, Bool.true_and, Bool.not_eq_true', Bool.and_eq_false_iff, decide_eq_false_iff_not]
    by_cases z : ((Nat.toDigits 10 m).map Char.toNat).head? = some 48
    ·exact .inr fun z2 => hz ⟨z, z2⟩
    ·exact .inl z
   ·unfold qP
    rw [hf, show (Str.ofString (toString (Int.ofNat m))).cps.toList = _ from e, if_neg hn45, PySem.W.KIN.val_back]
    rfl
  | negSucc m =>
   have e := Cr m
   replace h : m + 1 < 10 ^ 20 := h
   have hall := Bw (m + 1)
   have hne := Jw (m + 1)
   have hf : fY (Str.ofString (toString (Int.negSucc m))) = (Nat.toDigits 10 (m + 1)).map Char.toNat := by
    unfold fY
    rw [e]
    rfl
   have hz : ¬ ((Nat.toDigits 10 (m + 1)).map Char.toNat).head? = some 48 := fun z1 => by
    obtain ⟨c, r, e2, hc⟩ := qx (m + 1) (by omega)
    rw [e2] at z1
    have : c.toNat = 48 := by simpa using z1
    exact hc (Char.ext (UInt32.toNat_inj.mp this))
   refine ⟨?_, ?_⟩
   ·unfold cB
    rw [hf]
    have hl := uh (m + 1) 19 h
    have hl1 : 1 ≤ ((Nat.toDigits 10 (m + 1)).map Char.toNat).length := List.length_pos_iff.mpr hne
    rw [decide_eq_true hl1, decide_eq_true (by rw [List.length_map]; exact hl), rQ.mpr hall, decide_eq_false hz]
    rfl
   ·unfold qP
    rw [hf, e, if_pos (List.head?_cons ..), PySem.W.KIN.val_back]
    rfl
 unfold iZ
 rw [if_pos key.1, key.2]
def Rc : R2 := fun x y H Q => match x, y with
 | .str i, .str j => Q (.bl (!(Builtin.Str.occurrences j i 0 j.length 1).isEmpty)) H
 | _, _ => False
theorem K5 (i j : Str) (H : Hp) (Q : VK) : Rc (.str i) (.str j) H Q = Q (.bl (!(Builtin.Str.occurrences j i 0 j.length 1).isEmpty)) H := rfl
theorem RQ {X : Cx} : OpR X (compareOp .In) Rc := by
 intro pins s σ H x y v u Q I rx ry h
 unfold Rc at h
 split at h
 ·exact CW pins s σ H _ _ v u Q I rx ry ⟨_, _, rfl, rfl, h⟩
 ·exact h.elim
theorem Tg (c : Nat) : (!(Builtin.Str.occurrences ("0123456789" : Str) ⟨#[c]⟩ 0 ("0123456789" : Str).length 1).isEmpty) = jF c := by
 rw [StrLaws.found_one]
 have e : ("0123456789" : Str).cps.toList = [48, 49, 50, 51, 52, 53, 54, 55, 56, 57] := by decide
 rw [e]
 unfold jF
 rw [← Bool.decide_and]
 refine decide_eq_decide.mpr ?_
 simp only [List.mem_cons, List.not_mem_nil, or_false]
 omega
theorem yH (x : Str) (c : Nat) : Txt.startswith x ⟨#[c]⟩ = decide (x.cps.toList.head? = some c) := by
 have h := StrLaws.subAt_one x c 0
 rw [← List.head?_eq_getElem?] at h
 unfold Txt.startswith
 cases e : Builtin.Str.subAt x ⟨#[c]⟩ 0 with
 | true =>
  rw [Bool.and_true]
  exact decide_eq_decide.mpr ⟨fun z => h.mp ⟨z, e⟩, fun z => (h.mpr z).1⟩
 | false =>
  rw [Bool.and_false]
  exact (decide_eq_false fun z => by have := (h.mpr z).2; rw [e] at this; cases this).symm
def QX : V → Option Int → Option Int → Hp → VK → Prop := fun x lo hi H Q => match x with
 | .str z => z.length ≤ sizeLine ∧ Q (.str (Txt.slice z lo hi)) H
 | _ => False
theorem KH (z : Str) (lo hi : Option Int) (H : Hp) (Q : VK) : QX (.str z) lo hi H Q = (z.length ≤ sizeLine ∧ Q (.str (Txt.slice z lo hi)) H) := rfl
theorem Qz {X : Cx} : SlR X QX := by
 intro pins s σ H x v vl vu lo hi sl Q I rx hs pl pu h
 unfold QX at h
 split at h
 ·rename_i z
  obtain ⟨hz, q⟩ := h
  obtain ⟨t, rfl⟩ := rx
  refine ⟨"str", _, F.slot_str_getitem.lookup, typeIs_str _ _ _, ?_⟩
  have fin : ∀ t' k, EP X pins σ Q (.str (Txt.slice z lo hi) t') { s with toks := k } := fun t' k => ⟨.str _, H, I.tok _, ⟨_, rfl⟩, q⟩
  cases pl with
  | none =>
   cases pu with
   | none => exact wpAny_getItem_str_slice (l := none) (u := none) (st := none) hs rfl (post_val_or_str ⟨Nat.le_trans (Txt.slice_le z _ _) hz, fin⟩)
   | int j uj => exact wpAny_getItem_str_slice (l := none) (u := some (j, uj)) (st := none) hs rfl (post_val_or_str ⟨Nat.le_trans (Txt.slice_le z _ _) hz, fin⟩)
  | int i ui =>
   cases pu with
   | none => exact wpAny_getItem_str_slice (l := some (i, ui)) (u := none) (st := none) hs rfl (post_val_or_str ⟨Nat.le_trans (Txt.slice_le z _ _) hz, fin⟩)
   | int j uj => exact wpAny_getItem_str_slice (l := some (i, ui)) (u := some (j, uj)) (st := none) hs rfl (post_val_or_str ⟨Nat.le_trans (Txt.slice_le z _ _) hz, fin⟩)
 ·exact h.elim
theorem Cq {z : Str} {c : Nat} {r : List Nat} (h : z.cps.toList = c :: r) : (Txt.slice z (some 1) none).cps.toList = r := by
 have hl : z.length = r.length + 1 := by rw [← List.length_cons, ← h]; simp [Str.length]
 rw [slice_from_eq (b := (z.length : Int)) (by decide) (by omega) rfl, h]
 show (((c :: r).drop 1).take _).toArray.toList = r
 rw [List.drop_one, List.tail_cons]
 simp only [List.toList_toArray]
 exact List.take_of_length_le (by omega)
def Q9 : R2 := fun x y H Q => match x, y with
 | .str z, .int i => z.length ≤ sizeLine ∧ ∃ c, atI z.cps.toList i = some c ∧ Q (.str ⟨#[c]⟩) H
 | _, _ => False
theorem KZ (z : Str) (i : Int) (H : Hp) (Q : VK) : Q9 (.str z) (.int i) H Q = (z.length ≤ sizeLine ∧ ∃ c, atI z.cps.toList i = some c ∧ Q (.str ⟨#[c]⟩) H) := rfl
theorem Bj {X : Cx} : IxR X Q9 := by
 intro value slice pins s σ H x y v u Q I rx ry q hs
 unfold Q9 at q
 split at q
 ·obtain ⟨h1, c, h2, h3⟩ := q
  exact SN value slice pins s σ H _ _ v u Q I rx ry ⟨_, _, c, rfl, rfl, h1, h2, h3⟩ hs
 ·exact q.elim
def Gx : List V → Hp → VK → Prop := fun vs H Q => match vs with
 | [.str z] => z.length ≤ sizeLine ∧ Q (.int z.length) H
 | _ => False
theorem Gw (z : Str) (H : Hp) (Q : VK) : Gx [.str z] H Q = (z.length ≤ sizeLine ∧ Q (.int z.length) H) := rfl
theorem Ef {X : Cx} : cM X (.builtin "len") Gx := by
 intro pins s σ H xs us Q I r h
 unfold Gx at h
 split at h
 ·exact v9 pins s σ H _ us Q I r ⟨_, rfl, h.1, h.2⟩
 ·exact h.elim
def rdT := And.intro @Qk (And.intro @IW (And.intro @Gy (And.intro @Nr (And.intro @Cz (And.intro @yX (And.intro @KD (And.intro @KC (And.intro @GK (And.intro @NZ (And.intro @NQ (And.intro @K5 (And.intro @KH (And.intro @KZ @Gw)))))))))))))
def yM : Sp := fun vs H Q _ => ∃ x : Str, vs = [.str x] ∧ x.length ≤ sizeLine ∧ ∀ H', Same H H' → Q (iZ x) H'
theorem Oc {x : Str} : fY x = (if Txt.startswith x ⟨#[45]⟩ = true then Txt.slice x (some 1) none else x).cps.toList := by
 rw [yH]
 unfold fY
 by_cases c : x.cps.toList.head? = some 45
 ·rw [if_pos c, if_pos (by rw [decide_eq_true c])]
  cases e : x.cps.toList with
  | nil => rw [e] at c; cases c
  | cons a r => rw [Cq e]; rfl
 ·rw [if_neg c, if_neg (by rw [decide_eq_false c]; decide)]
theorem Dj (x : Str) : dN (iZ x) = true := by
 unfold iZ
 split <;> rfl
theorem Di (ts : List Str) : (ts.map iZ).all dN = true := by
 rw [List.all_map, List.all_eq_true]
 exact fun t _ => Dj t
def Aa : Sp := fun vs H Q _ => ∃ (a : Addr) (ts : List Str), vs = [.ref a] ∧ H a = some (.lst (ts.map V.str)) ∧ ts.length ≤ 1000000 ∧ (∀ t ∈ ts, t.length ≤ sizeLine) ∧
 (∀ H', Same H H' → (∃ t ∈ ts, cB t = false) → Q .non H') ∧ ∀ (p : Addr) H', H p = none → Same H H' → (∀ t ∈ ts, cB t = true) → H' p = some (.lst ((ts.map qP).map V.int)) → Q (.ref p) H'
theorem Ay (ts : List Str) : inV .non (ts.map iZ) = true ↔ ∃ t ∈ ts, cB t = false := by
 unfold inV
 rw [List.any_map, List.any_eq_true]
 have key : ∀ t, ((fun y => eqV y V.non) ∘ iZ) t = true ↔ cB t = false := fun t => by
  show eqV (iZ t) V.non = true ↔ _
  unfold iZ
  cases cB t with
  | true => rw [if_pos rfl]; exact ⟨fun z => (nomatch z), fun z => (nomatch z)⟩
  | false => rw [if_neg (by decide)]; exact ⟨fun _ => rfl, fun _ => rfl⟩
 exact ⟨fun ⟨t, h1, h2⟩ => ⟨t, h1, (key t).mp h2⟩, fun ⟨t, h1, h2⟩ => ⟨t, h1, (key t).mpr h2⟩⟩
theorem Dh {ts : List Str} (h : ∀ t ∈ ts, cB t = true) : ts.map iZ = (ts.map qP).map V.int := by
 rw [List.map_map]
 refine List.map_congr_left fun t ht => ?_
 unfold iZ
 rw [if_pos (h t ht)]
 rfl
abbrev tsI (i : Int) : Str := Str.ofString (toString i)
def SmI (i : Int) : Prop := i.natAbs < 10 ^ 20
theorem dG {i : Int} (h : SmI i) : (tsI i).length ≤ 21 := by
 have hb := gJ h
 have ho : cB (tsI i) = true := by
  unfold iZ at hb
  split at hb
  ·assumption
  ·cases hb
 exact (qO ho).2
theorem vd {i : Int} (h : SmI i) : cB (tsI i) = true ∧ qP (tsI i) = i := by
 have hb := gJ h
 unfold iZ at hb
 split at hb
 ·rename_i c
  exact ⟨c, V.int.inj hb⟩
 ·cases hb
theorem qj {i : Int} (h : SmI i) : i.natAbs.log2 < 1920 := by
 by_cases z : i.natAbs = 0
 ·rw [z]; decide
 ·have : i.natAbs < 2 ^ 70 := Nat.lt_of_lt_of_le h (by decide)
  have := (Nat.log2_lt z).mpr this
  omega
theorem Bb {L : Nat} : ∀ {ts : List Str}, (∀ t ∈ ts, t.length ≤ L) → (ts.map (·.length)).sum ≤ ts.length * L
 | [], _ => by simp
 | t :: ts, h => by
  have h1 := h t (List.mem_cons_self ..)
  have h2 := Bb fun a ha => h a (List.mem_cons_of_mem _ ha)
  rw [List.map_cons, List.sum_cons, List.length_cons]
  have e : (ts.length + 1) * L = ts.length * L + L := Nat.succ_mul ..
  omega
theorem xX {L n : Nat} {sep : Str} {ts : List Str} (h : ∀ t ∈ ts, t.length ≤ L) (hn : ts.length ≤ n) : (ts.map (·.length)).sum + ts.length * sep.length ≤ n * (L + sep.length) := by
 have h1 := Bb h
 have h2 := Nat.mul_le_mul_right (L + sep.length) hn
 rw [Nat.mul_add] at h2
 omega
theorem oV {L n : Nat} {sep : Str} {ts : List Str} (h : ∀ t ∈ ts, t.length ≤ L) (hn : ts.length ≤ n) (hb : n * (L + sep.length) ≤ 10000000) : JoinOk sep ts = true := by
 unfold JoinOk Builtin.Str.tooLong
 rw [StrLaws.joinTotal, Bool.not_eq_true', decide_eq_false_iff_not]
 have := xX (sep := sep) h hn
 rw [sizeLine_eq]
 omega
theorem join_le {L n : Nat} {sep : Str} {ts : List Str} (h : ∀ t ∈ ts, t.length ≤ L) (hn : ts.length ≤ n) : (Txt.join sep ts).length ≤ n * (L + sep.length) := by
 show (Builtin.Str.glued sep ts).length ≤ _
 rw [StrLaws.glued_eq_join]
 exact Nat.le_trans (StrLaws.join_length_le sep ts) (xX h hn)
theorem zZ : ((" " : Str)) = ⟨#[32]⟩ := by decide +kernel
theorem UW : (("\n" : Str)) = ⟨#[10]⟩ := by decide +kernel
theorem Iv {c a : Nat} : ∀ {ps : List (List Nat)}, a ∈ jnL c ps → a = c ∨ ∃ p ∈ ps, a ∈ p
 | [], h => (nomatch h)
 | [p], h => .inr ⟨p, List.mem_singleton_self p, h⟩
 | p :: q :: r, h => by
  replace h : a ∈ p ++ c :: jnL c (q :: r) := h
  rcases List.mem_append.mp h with hp | h
  ·exact .inr ⟨p, List.mem_cons_self .., hp⟩
  ·rcases List.mem_cons.mp h with h | h
   ·exact .inl h
   ·rcases Iv h with h | ⟨s, hs, h⟩
    ·exact .inl h
    ·exact .inr ⟨s, List.mem_cons_of_mem _ hs, h⟩
def xg : R2 := fun x y H Q => match x, y with
 | .str a, .str b => a.length + b.length ≤ sizeLine ∧ Q (.str (a ++ b)) H
 | x, y => uy x y H Q
theorem Lh (a b : Str) (H : Hp) (Q : VK) : xg (.str a) (.str b) H Q = (a.length + b.length ≤ sizeLine ∧ Q (.str (a ++ b)) H) := rfl
theorem Lj (a b : Int) (H : Hp) (Q : VK) : xg (.int a) (.int b) H Q = Q (.int (a + b)) H := rfl
theorem Li (p q : Addr) (H : Hp) (Q : VK) : xg (.ref p) (.ref q) H Q = adq (H p) (H q) H Q := rfl
theorem ql {X : Cx} : OpR X (binaryOp .Add) xg := by
 intro pins s σ H x y v u Q I rx ry h
 unfold xg at h
 split at h
 ·exact zf pins s σ H _ _ v u Q I rx ry ⟨_, _, rfl, rfl, h.1, h.2⟩
 ·exact bT pins s σ H _ _ v u Q I rx ry h
def T8 : V → Option Int → Option Int → Hp → VK → Prop := fun x lo hi H Q => match x with
 | .str z => z.length ≤ sizeLine ∧ Q (.str (Txt.slice z lo hi)) H
 | x => KJ x lo hi H Q
theorem QM (z : Str) (lo hi : Option Int) (H : Hp) (Q : VK) : T8 (.str z) lo hi H Q = (z.length ≤ sizeLine ∧ Q (.str (Txt.slice z lo hi)) H) := rfl
theorem QV (p : Addr) (lo hi : Option Int) (H : Hp) (Q : VK) : T8 (.ref p) lo hi H Q = slq (H p) lo hi H Q := rfl
def K1 : R2 := fun x y H Q => match x, y with
 | .str z, .int i => z.length ≤ sizeLine ∧ ∃ c, atI z.cps.toList i = some c ∧ Q (.str ⟨#[c]⟩) H
 | x, y => wZ x y H Q
theorem Ra (z : Str) (i : Int) (H : Hp) (Q : VK) : K1 (.str z) (.int i) H Q = (z.length ≤ sizeLine ∧ ∃ c, atI z.cps.toList i = some c ∧ Q (.str ⟨#[c]⟩) H) := rfl
theorem Rb (p : Addr) (i : Int) (H : Hp) (Q : VK) : K1 (.ref p) (.int i) H Q = ixq (H p) i H Q := rfl
theorem SQ {X : Cx} : IxR X K1 := by
 intro value slice pins s σ H x y v u Q I rx ry q hs
 unfold K1 at q
 split at q
 ·exact Bj value slice pins s σ H _ _ v u Q I rx ry q hs
 ·exact dI value slice pins s σ H _ _ v u Q I rx ry q hs
def Pr : List V → Hp → VK → Prop := fun vs H Q => match vs with
 | [.str z] => z.length ≤ sizeLine ∧ Q (.int z.length) H
 | vs => Al vs H Q
theorem KR (z : Str) (H : Hp) (Q : VK) : Pr [.str z] H Q = (z.length ≤ sizeLine ∧ Q (.int z.length) H) := rfl
theorem KY (p : Addr) (H : Hp) (Q : VK) : Pr [.ref p] H Q = lnq (H p) H Q := rfl
def T9 : R2 := fun x y H Q => match x, y with
 | .str i, .str j => Q (.bl (!(!(Builtin.Str.occurrences j i 0 j.length 1).isEmpty))) H
 | _, _ => False
theorem Gq (i j : Str) (H : Hp) (Q : VK) : T9 (.str i) (.str j) H Q = Q (.bl (!(!(Builtin.Str.occurrences j i 0 j.length 1).isEmpty))) H := rfl
def rdX := And.intro @rdT (And.intro @Lh (And.intro @Lj (And.intro @Li (And.intro @QM (And.intro @QV (And.intro @Ra (And.intro @Rb (And.intro @KR (And.intro @KY @Gq)))))))))
end L2
set_option maxHeartbeats 4100000
namespace SRT
open PySem PyProof.Rows
def Ris (xs : Array Nat) : Prop := xs.toList.Pairwise (· < ·)
def TOk (b : Bool) (t : SetTable) : Prop := Ris t.place ∧ t.dummies = #[] ∧ t.led = b
end SRT
namespace SRT
open PySem PyProof.Rows
section
variable {prog : Program} {w : World} {K : Type} [DecidableEq K]
def SetT (knd : KeyKind prog w K) (b : Bool) (h : Heap) (a : Addr) (S : K → Bool) (n : Nat) : Prop :=
 ∃ o es ep t, h.get? a = some o ∧ o.ExactSet ∧ o.data = .set es ep t ∧ (ElemsOf knd es.toList ∧ (∀ k, S k = true ↔ ∃ e ∈ es.toList, knd.is k e.2 = true) ∧ es.size < scanBound) ∧ t.fits es.size = true ∧ es.size = n ∧ TOk b t
variable {knd : KeyKind prog w K} {A : Around} {E : Value → Shared → Prop} {s : Shared} {b : Bool}
end
end SRT
namespace SRT
open PySem PyProof.Rows
section
variable {prog : Program} {w : World} {A : Around} {R : Result → Shared → Prop} {I : Addr} {fp wr : List Addr} {G : Array GenState → Array GenState → Prop} {n : Nat} {P : Nat → Value → Prop} {St : Nat → Shared → Prop} {b : Bool}
end
section
variable {prog : Program} {w : World} {A : Around} {E : Value → Shared → Prop} {s : Shared}
end
end SRT
namespace SRT
open PySem PyProof.Rows
section
variable {prog : Program} {w : World} {A : Around} {E : Value → Shared → Prop}
end
def IterAt (h : Heap) (I : Addr) (first : Value) (i : Nat) (S : Addr) (n ep : Nat) : Prop :=
 h.get? I = some { cls := .type "set_iterator", dict := none, data := .fields #[first, .int i 0, .ref S, .int n 0, .int ep 0], slots := #[] }
section
variable {prog : Program} {w : World} {A : Around} {E : Value → Shared → Prop} {s : Shared} {S : Addr} {es : Array (Int × Value)} {ep : Nat} {t : SetTable}
end
end SRT
namespace SRT
open PySem PyProof.Rows
section
variable {prog : Program} {w : World} {A : Around} {E : Value → Shared → Prop} {s : Shared} {S I : Addr} {es : Array (Int × Value)} {ep : Nat} {t : SetTable}
end
end SRT
namespace SRT
open PySem PyProof.Rows
section
variable {prog : Program} {w : World} {A : Around} {E : Value → Shared → Prop} {s : Shared} {S I T : Addr} {es : Array (Int × Value)} {ep : Nat} {t : SetTable}
end
end SRT
namespace SRT
open PySem PyProof.Rows
section
variable {prog : Program} {w : World} {A : Around} {E : Value → Shared → Prop} {s : Shared} {S : Addr} {es : Array (Int × Value)} {ep : Nat} {t : SetTable}
end
end SRT
set_option maxHeartbeats 4000000
namespace L2
open PySem PySem.Spec PyProof.Rows
section
variable {X : Cx} {pins : List (Addr × Obj)} {s : Shared} {σ : St} {H : Hp}
end
theorem ug {ok : Addr → Prop} {H : Hp} {x : V} {it : It1} (t : aO ok H x (itD it)) : ∃ p, x = .ref p ∧ ok p ∧ lq H p it := by
 cases it with
 | one a =>
  cases t with
  | tup o e z ts => cases ts with | cons t1 ts => cases t1; cases ts with | cons t2 ts => cases t2; cases ts; exact ⟨_, rfl, o, ⟨e⟩⟩
 | rng a b =>
  cases t with
  | tup o e z ts => cases ts with | cons t1 ts => cases t1; cases ts with | cons t2 ts => cases t2; cases ts with | cons t3 ts => cases t3; cases ts; exact ⟨_, rfl, o, ⟨e⟩⟩
 | bits m v =>
  cases t with
  | tup o e z ts => cases ts with | cons t1 ts => cases t1; cases ts with | cons t2 ts => cases t2; cases ts with | cons t3 ts => cases t3; cases ts; exact ⟨_, rfl, o, ⟨e⟩⟩
theorem n6 {ok : Addr → Prop} {H : Hp} {x : V} {its : List It1} (t : aO ok H x (fB its)) : ∃ q us, x = .ref q ∧ ok q ∧ H q = some (.lst us) ∧ us.length ≤ 1000000 ∧ aF ok H us (its.map itD) := by
 cases t with
 | lst o e z ts => exact ⟨_, _, rfl, o, e, z, ts⟩
theorem jN {ok : Addr → Prop} {H : Hp} {x : V} {w s : Int} {css : List (List It1)} (t : aO ok H x (fQ w s css)) :
  ∃ p c vs, x = .ref p ∧ ok p ∧ H p = some (.tup [.int w, .int s, .ref c]) ∧ ok c ∧ H c = some (.lst vs) ∧ vs.length ≤ 1000000 ∧ aF ok H vs (css.map fB) := by
 cases t with
 | tup o e z ts => cases ts with | cons t1 ts => cases t1; cases ts with | cons t2 ts => cases t2; cases ts with | cons t3 ts => cases ts; cases t3 with | lst o2 e2 z2 ts2 => exact ⟨_, _, _, rfl, o, e, o2, e2, z2, ts2⟩
open Classical in
noncomputable def pickD (w n : Int) (d : PyData) : Bool := decide (∃ it, d = itD it ∧ Ru w n it = true)
section
variable {prog : Program} {w : World} {A : Around} {R : Result → Shared → Prop} {s : Shared}
end
end L2
set_option maxHeartbeats 8000000
namespace L2
open PySem PySem.Spec PyProof.Rows
section
variable {X : Cx} {NX N : List Str} {kX : List (Str × NameKind)} {mp : List (Option Nat)} {scope : Scope}
end
end L2
set_option maxHeartbeats 4000000
namespace L2
open PySem PySem.Spec PyProof.Rows
section
variable {mp : List (Option Nat)} {wi wi2 : TI} {g g2 : TG} {te : TE} {σ τ1 : St} {H : Hp} {Q : VK} {R : It → Hp → Prop} {K : PySem.W.Frag} {a : Addr} {xs : List V}
end
section
variable {X : Cx}
end
section
variable {X : Cx} {o e : Expr} {p pos : Pos} {to ti : TE}
end
theorem gq {k : Nat} : ∀ {ds : List PyData}, (∀ d ∈ ds, d.depth ≤ k) → PyData.depthAll ds ≤ k
 | [], _ => by rw [PyData.depthAll.eq_1]; exact Nat.zero_le _
 | d :: ds, h => by
  have h1 := h d (List.mem_cons_self ..)
  have h2 := gq (ds := ds) fun x hx => h x (List.mem_cons_of_mem _ hx)
  rw [PyData.depthAll.eq_2]
  omega
theorem Jx (it : It1) : (itD it).depth ≤ 1 := by
 cases it <;> exact Nat.le_refl 1
theorem v5 (w s : Int) (css : List (List It1)) : (fQ w s css).depth ≤ 4 := by
 have h1 : ∀ d ∈ css.map fB, d.depth ≤ 2 := fun d hd => by
  obtain ⟨its, _, rfl⟩ := List.mem_map.mp hd
  unfold fB
  rw [PyData.depth.eq_1]
  have := gq (k := 1) (ds := its.map itD) fun d hd => by
   obtain ⟨it, _, rfl⟩ := List.mem_map.mp hd
   exact Jx it
  omega
 have h2 : (PyData.list (css.map fB)).depth ≤ 3 := by
  rw [PyData.depth.eq_1]
  have := gq h1
  omega
 unfold fQ
 rw [PyData.depth.eq_2]
 have := gq (k := 3) (ds := [.int w, .int s, .list (css.map fB)]) fun d hd => by
  simp only [List.mem_cons, List.not_mem_nil, or_false] at hd
  rcases hd with rfl | rfl | rfl
  ·exact Nat.zero_le _
  ·exact Nat.zero_le _
  ·exact h2
 omega
def kw1 (n : Int) (u : Tok) : List (Str × Value) := [("start", .int n u)]
theorem DW (t : Addr) (items : Array Value) (n : Int) (u : Tok) (hn : Builtin.SmallTypes.fitsIndex n = true) : Meets (Builtin.«enumerate.__new__» { pos := [Value.type "enumerate", Value.ref t], kw := kw1 n u }) fun _ R s =>
  s.heap.IsList t items ∧ R (.ok (.ret (.ref (s.heap.objs.size + 1)))) { s with heap := (s.heap.push { cls := .type "list_iterator", data := .fields #[.ref t, .int 0 0] }).push { cls := .type "enumerate", data := .fields #[.none, .bool false, .ref s.heap.objs.size, rawInt n, .none, .none] } } := by
 refine Meets.of_wp fun prog w A R s h => ?_
 obtain ⟨ht, hR⟩ := h
 unfold Builtin.«enumerate.__new__» Builtin.SmallTypes.newClass kw1
 refine wpAny_bind (wpAny_bind (wpAny_pure (wpAny_ite_false rfl (wpAny_bind (wpAny_of_eq sub_enumerate (wpAny_ite_false rfl (wpAny_pure (wpAny_ite_true rfl (wpAny_bind ?_)))))))))
 unfold Builtin.SmallTypes.calledThroughType
 refine wpAny_bind (wpAny_stack_any fun st => wpAny_pure ?_)
 have fin : wpAny (model prog w) A.in1 (do
   let it ← pyIter (Value.ref t)
   let r ← Builtin.SmallTypes.newRecord (Value.type "enumerate") (Builtin.SmallTypes.ownedTupleFields ++ [it, rawInt n, Value.none, Value.none])
   ret r) (fun fin s' => ∃ v, fin = Fin.done (Flow.ret v) ∧ R (Except.ok (Flow.ret v)) s') (fun e s' => R (Except.error e) s') s := by
  refine wpAny_bind (wpAny_pyIter_list ht ?_)
  show wpAny _ _ (newObj (.type "enumerate") (.fields #[.none, .bool false, .ref s.heap.objs.size, rawInt n, .none, .none]) >>= fun r => ret r) _ _ _
  refine wpAny_bind (wpAny_newObj_type ?_)
  refine wpAny_pure ⟨_, rfl, ?_⟩
  have e : (s.heap.push { cls := Value.type "list_iterator", data := Data.fields #[Value.ref t, Value.int 0 0] }).objs.size = s.heap.objs.size + 1 := Heap.size_push ..
  rw [e]
  exact hR
 have hf : decide ((!Builtin.SmallTypes.fitsIndex n) = true) = false := by rw [hn]; rfl
 dsimp only
 split
 ·split
  ·exact wpAny_bind (wpAny_pure (wpAny_bind (wpAny_of_eq (a := Value.int n u) rfl (wpAny_bind (wpAny_of_eq (a := some n) rfl (wpAny_ite_false hf fin))))))
  ·exact wpAny_bind (wpAny_pure (wpAny_bind (wpAny_of_eq (a := Value.int n u) rfl (wpAny_bind (wpAny_of_eq (a := some n) rfl (wpAny_ite_false hf fin))))))
 ·split
  ·exact wpAny_bind (wpAny_pure (wpAny_bind (wpAny_of_eq (a := Value.int n u) rfl (wpAny_bind (wpAny_of_eq (a := some n) rfl (wpAny_ite_false hf fin))))))
  ·exact wpAny_bind (wpAny_pure (wpAny_bind (wpAny_of_eq (a := Value.int n u) rfl (wpAny_bind (wpAny_of_eq (a := some n) rfl (wpAny_ite_false hf fin))))))
theorem DX {prog : Program} {w : World} {A : Around} {it : Addr} {fp : List Addr} {n : Nat} {P : Nat → Value → Prop} {St : Nat → Heap → Prop} (k : Nat) (D : Draws prog w A it fp n P St) : Draws prog w A it fp (n + k) (fun i v => P (i - k) v) fun i h => k ≤ i ∧ St (i - k) h where
 live := fun i h st => D.live _ _ st.2
 frame := fun i h h' st q => ⟨st.1, D.frame _ _ _ st.2 q⟩
 item := fun i s Q E hi st hQ => D.item (i - k) s Q E (by have := st.1; omega) st.2 fun x h' tk p q r => hQ x h' tk p ⟨by have := st.1; omega, by
  have e : i + 1 - k = i - k + 1 := by have := st.1; omega
  rw [e]
  exact q⟩ r
 done := fun s Q E st hE => D.done s Q E (Nat.add_sub_cancel n k ▸ st.2) hE
def Itn (K : PySem.W.Frag) (k : Nat) (a : Addr) : It :=
 ⟨fun i H => ∃ xs x, SqL K H a xs ∧ xs[i]? = some x,
  fun i H v H' => ∃ p x, v = .ref p ∧ H p = none ∧ H' = upd H p (.tup [.int ((i + k : Nat) : Int), x]) ∧ ∀ xs, SqL K H a xs → xs[i]? = some x,
  fun i H => ∃ xs, SqL K H a xs ∧ xs.length = i⟩
theorem yG {P : Program} {w : World} {K : PySem.W.Frag} {es : List Expr} {kk k : Nat} {tpos : Pos} {e it l : Addr} (hne : e ≠ it) :
  Turn P w K (.Tuple es kk tpos) (Itn K k l) [e, it] e (fun i h => (∃ old, IsEnum h e it ((i + k : Nat) : Int) old) ∧ h.IsListIter it l i) where
 mem := by simp
 obj := fun i h st b hb => by
  obtain ⟨⟨old, he⟩, ⟨o1, e1, c1, d1⟩⟩ := st
  simp only [List.mem_cons, List.not_mem_nil, or_false] at hb
  rcases hb with rfl | rfl
  ·exact ⟨_, he, fun v q => by cases q⟩
  ·exact ⟨o1, e1, fun v q => by rw [d1] at q; cases q⟩
 keep := fun i h h' st k => by
  obtain ⟨⟨old, he⟩, h1⟩ := st
  exact ⟨⟨old, k e (by simp) _ he⟩, h1.at fun o q => k it (by simp) o q⟩
 item := by
  intro X hP hw hK hc i pins s σ H E I hf st hg
  subst hP hw hK
  obtain ⟨xs, x, q1, hx⟩ := hg
  obtain ⟨its1, rv1, p1, hz1⟩ := I.list q1
  obtain ⟨u1, hu1, ru1⟩ := rv1.get hx
  obtain ⟨⟨old, he⟩, h1⟩ := st
  have hL := p1.isList
  have hel : e ≠ l := fun z => by
   obtain ⟨ol, g1, g2, _⟩ := hL
   rw [← z, he] at g1
   cases g1
   injection g2 with g2
   exact absurd g2 (by decide)
  have hil : l ≠ it := fun z => by
   obtain ⟨ol, g1, g2, _⟩ := hL
   obtain ⟨oi, g3, g4, _⟩ := h1
   rw [z, g3] at g1
   cases g1
   rw [g4] at g2
   injection g2 with g2
   exact absurd g2 (by decide)
  have hsz1 : i < its1.toArray.size := by
   obtain ⟨z, _⟩ := List.getElem?_eq_some_iff.mp hu1
   simpa using z
  refine wpAny_pyNext_enum_itemD (DX k (Draws.list (A := X.A.in1) (I.ok.hd hc) it l hil its1.toArray)) he ⟨by omega, by rw [Nat.add_sub_cancel]; exact ⟨h1, hL⟩⟩ (by omega) hne (by simp [hne, hel]) fun x1 h' tk hP a1 a2 a3 a4 hk => ?_
  have ex : x1 = u1 := by
   have hP' : its1[i]? = some x1 := by simpa using hP
   rw [hu1] at hP'
   exact (Option.some.inj hP').symm
  subst ex
  obtain ⟨_, a2, _⟩ := a2
  have e2 : i + k + 1 - k = i + 1 := by omega
  rw [e2] at a2
  have new : cu X.prog X.w (upd H s.heap.objs.size (.tup [.int ((i + k : Nat) : Int), x])) h' s.heap.objs.size (.tup [.int ((i + k : Nat) : Int), x]) := ⟨by show 2 ≤ sizeLine; decide, [.int ((i + k : Nat) : Int) tk, x1], .cons ⟨_, rfl⟩ (.cons ru1 .nil), _, a3, rfl, _, rfl⟩
  have I1 : Inv X pins σ (upd H s.heap.objs.size (.tup [.int ((i + k : Nat) : Int), x])) { s with heap := h', toks := tk + 1 } := I.Ew (ch := [e, it]) hf
   (fun b o hb q => hk b o (fun z => hb (by simp [z])) (fun z => hb (by simp [z])) q) (Nat.le_refl _) new
  have hsz : ∀ b, b ∈ [e, it] → b ≠ s.heap.objs.size := fun b hb => by
   have lt : ∃ o, s.heap.get? b = some o := by
    simp only [List.mem_cons, List.not_mem_nil, or_false] at hb
    rcases hb with rfl | rfl
    ·exact ⟨_, he⟩
    ·obtain ⟨o, q, _⟩ := h1; exact ⟨o, q⟩
   obtain ⟨o, q⟩ := lt
   exact Nat.ne_of_lt (Heap.lt_size q)
  refine ⟨_, rfl, wpAny_letOwnedTupleGo_enum (s := { s with heap := h', toks := tk + 1 }) a1 fun h'' z2 sb => ?_⟩
  have fz := hf e (by simp)
  have I2 : Inv X pins σ (upd H s.heap.objs.size (.tup [.int ((i + k : Nat) : Int), x])) { s with heap := h'', toks := tk + 1 } := Inv.turned (s := { s with heap := h', toks := tk + 1 }) (it := e) I1 (fun b o hb q => (sb.2 b hb).trans q) (by rw [aH (hsz e (by simp))]; exact fz.1) fz.2.1 fz.2.2.2.1 fz.2.2.2.2.1 fz.2.2.2.2.2
  have e3 : ((i + k : Nat) : Int) + 1 = ((i + 1 + k : Nat) : Int) := by omega
  refine ⟨.ref s.heap.objs.size, _, I2, rfl, ⟨_, x, rfl, I.fresh, rfl, fun xs' q => by rw [I.nu q q1]; exact hx⟩,
   ⟨⟨_, e3 ▸ z2⟩, a2.extBut sb.extBut hne.symm⟩, fun b hb => by rw [aH (hsz b hb)]; exact (hf b hb).1⟩
 done := by
  intro X hP hw hK hc i pins s σ H E I hf st hg
  subst hP hw hK
  obtain ⟨xs, q1, hx⟩ := hg
  obtain ⟨its1, rv1, p1, hz1⟩ := I.list q1
  obtain ⟨⟨old, he⟩, h1⟩ := st
  have hL := p1.isList
  have hil : l ≠ it := fun z => by
   obtain ⟨ol, g1, g2, _⟩ := hL
   obtain ⟨oi, g3, g4, _⟩ := h1
   rw [z, g3] at g1
   cases g1
   rw [g4] at g2
   injection g2 with g2
   exact absurd g2 (by decide)
  have hl1 := rv1.length
  have hsi : its1.toArray.size = i := by rw [List.size_toArray]; omega
  exact wpAny_pyNext_enum_endD (Draws.list (A := X.A.in1) (I.ok.hd hc) it l hil its1.toArray) he (by rw [hsi]; exact ⟨h1, hL⟩) fun h' hk => ⟨rfl, I.Ey (t' := s.toks) (ch := [e, it]) hf (fun b o hb q => hk b o (fun z => hb (by simp [z])) q)⟩
 self := fun _ _ _ _ _ st h => by
  obtain ⟨⟨old, he⟩, _⟩ := st
  exact wpAny_pyIter_enum he h
section
variable {prog : Program} {w : World} {A : Around} {E : Value → Shared → Prop} {s : Shared}
theorem HS {T nid : String} {self : Value} {rest : List Value} {kw : List (Str × Value)} (hl : typeLookup (.type T) "__init__" = pure (some (.builtin "object.__init__")))
  (hm : Bind.madeBy (.type T) = pure (some nid)) (hne : (some nid != some "object.__new__") = true) :
  Meets (Builtin.«object.__init__» ⟨self :: rest, kw⟩) (fun _ R s => s.TypeIs self T ∧ R (.ok (.ret .none)) s) := by
 refine Meets.of_wp fun prog w A R s hs => ?_
 obtain ⟨hT, hq⟩ := hs
 cases rest <;> cases kw <;> repeat (any_goals (first | assumption | wp_step))
 all_goals exact ⟨_, rfl, hq⟩
theorem JG {T newId : String} {Bn : Builtin} {us : List Value} {kw : List (Str × Value)} {S : PySem.Spec} {Q : Value → Shared → Prop} (ft : TypeCalled T newId "object.__init__")
  (hne : (some newId != some "object.__new__") = true) (hct : checkTypeCall T ⟨us, kw⟩ = pure ()) (hcn : checkBuiltinCall newId ⟨.type T :: us, kw⟩ = pure ())
  (hok : ∀ obj, argsOk "object.__init__" ⟨obj :: us, kw⟩) (en : entryFor table newId = some Bn) (g : Meets (Bn ⟨.type T :: us, kw⟩) S)
  (h : S A.in1 (wants (fun obj s₁ => s₁.TypeIs obj T ∧ Q obj s₁) E) s) : wpAny (model prog w) A (call (.type T) us kw) Q E s := by
 obtain ⟨c, tl, hmro⟩ := ft.mro
 have hmade := ft.made
 have hsub := ft.sub
 refine wpAny_call (codeAny_of_tree ?_)
 show wpAny (model prog w) _ (callAny (.type T) _) _ _ _
 refine wpAny_pure (And.intro (Code.quiet_builtin _ (by decide +kernel)) (codeAny_builtin F.entry_type_call ?_))
 rw [Around.under_plain (weight_type_call_type T us kw) (units_type_call_type T us kw)]
 have h1 := ft.notType
 have h2 := ft.canCreate
 repeat (any_goals (first | assumption | wp_step))
 refine codeAny_mono (codeAny_call_builtin ft.plain en (wpAny_of_eq hcn (g prog w A.in1 _ s h))) fun z s1 hz => ?_
 rcases z with e | fl
 ·exact hz
 ·cases fl with
  | ret o =>
   obtain ⟨hT, hq⟩ := hz
   have hli := ft.init.lookup
   have hbi := ft.init.bind o
   repeat (any_goals (first | assumption | wp_step))
   refine codeAny_mono (codeAny_call_builtin ft.init.plain F.entry_object_init (ft.init.check _ _ _ _ _ _ _ _ hT (hok o) (HS ft.init.lookup ft.made hne prog w A.in1 (wants (fun r s2 => r = .none ∧ Q o s2) E) s1 ⟨hT, rfl, hq⟩))) fun z2 s2 hz2 => ?_
   rcases z2 with e | fl2
   ·exact hz2
   ·cases fl2 with
    | ret r =>
     obtain ⟨rfl, hq2⟩ := hz2
     repeat (any_goals (first | assumption | wp_step))
    | _ => exact hz2.elim
  | _ => exact hz.elim
theorem JH {l : Addr} {items : Array Value} {n : Int} {u : Tok} (hn : Builtin.SmallTypes.fitsIndex n = true) {Q : Value → Shared → Prop} (hL : s.heap.IsList l items)
  (h : ∀ h', IsEnum h' (s.heap.objs.size + 1) s.heap.objs.size n .none → h'.IsListIter s.heap.objs.size l 0 → (∀ b o, s.heap.get? b = some o → h'.get? b = some o) → Q (.ref (s.heap.objs.size + 1)) { s with heap := h' }) :
  wpAny (model prog w) A (call (.type "enumerate") [.ref l] (kw1 n u)) Q E s := by
 refine JG F.called_enumerate (by decide) ?_ ?_ ?_ F.entry_enumerate_new (DW l items n u hn) ⟨hL, ?_⟩
 ·kernel_rfl
 ·kernel_rfl
 ·intro o
  unfold argsOk
  rw [signature?_of (n := "__tini__".toList) (o := "tcejbo".toList) (by kernel_rfl) F.owner_object]
  kernel_rfl
 ·have hz : (s.heap.push { cls := Value.type "list_iterator", data := Data.fields #[Value.ref l, Value.int 0 0] }).objs.size = s.heap.objs.size + 1 := Heap.size_push ..
  have b1 : ((s.heap.push { cls := Value.type "list_iterator", data := Data.fields #[Value.ref l, Value.int 0 0] }).push { cls := Value.type "enumerate", data := Data.fields #[Value.none, Value.bool false, Value.ref s.heap.objs.size, rawInt n, Value.none, Value.none] }).get? (s.heap.objs.size + 1) = some { cls := Value.type "enumerate", data := Data.fields #[Value.none, Value.bool false, Value.ref s.heap.objs.size, rawInt n, Value.none, Value.none] } := by
   rw [← hz]
   exact Heap.get?_push_size _ rfl
  exact ⟨⟨_, b1, rfl⟩, h _ b1 ⟨_, Heap.get?_push_of_some _ (Heap.get?_push_size _ rfl), rfl, rfl⟩ fun b o z => Heap.get?_push_of_some _ (Heap.get?_push_of_some _ z)⟩
end
theorem Jz {M : Model} {A : Around} {E : Value → Shared → Prop} {s : Shared} {env : Env} {pos : Pos} {T : String} {e : Expr} {es : List Expr} {kws : List Keyword} {Q : Value → Shared → Prop}
  (h : wpAny M A (spliced (backTo pos (starEach (e :: es) env))) (fun vs s1 => wpAny M A (evalAll ((backToKw pos (keywordEach kws env)).map (·.2)))
   (fun ws s2 => wpAny M A (call (.type T) vs (((backToKw pos (keywordEach kws env)).filterMap (·.1)).zip ws)) Q E s2) E s1) E s)
  (he : backTo pos (starEach (e :: es) env) = (false, eval e env) :: backTo pos (starEach es env)) (hp : (backTo pos (starEach (e :: es) env)).any (·.1) = false)
  (ha : (backToKw pos (keywordEach kws env)).all (·.1.isSome) = true) (hk : (backToKw pos (keywordEach kws env)).any (·.1.isNone) = false) :
  wpAny M A (callWith pos (.type T) [] (backTo pos (starEach (e :: es) env)) (backToKw pos (keywordEach kws env))) Q E s := by
 unfold callWith
 have h1 : wpAny M A (evalArgs (.type T) true (backTo pos (starEach (e :: es) env)) (backToKw pos (keywordEach kws env))) (fun a s2 => wpAny M A (call (.type T) a.pos a.kw) Q E s2) E s := by
  rw [he] at h ⊢
  exact evalArgs_kwB ha h
 refine wpAny_bind (wpAny_holding (wpAny_mono h1 (fun a s1 h2 => wpAny_bind (wpAny_standAt ?_)) fun _ _ x => x))
 simp only [hp, hk, Bool.or_false]
 exact wpAny_bind (wpAny_pure (wpAny_bind (wpAny_mono h2 (fun r s2 hr => wpAny_bind (wpAny_holding (wpAny_point (wpAny_pure hr)))) fun _ _ x => x)))
def enq (K : PySem.W.Frag) (ob : Option HO) (k : Nat) (a : Addr) (H : Hp) (R : It → Hp → Prop) : Prop := match ob with
 | some (.lst _) => R (Itn K k a) H
 | _ => False
def enK (K : PySem.W.Frag) (vs zs : List V) (H : Hp) (R : It → Hp → Prop) : Prop := match vs, zs with
 | [.ref a], [.int n] => 0 ≤ n ∧ n < 2 ^ 63 ∧ enq K (H a) n.toNat a H R
 | _, _ => False
def zB (K : PySem.W.Frag) (ta tk : TA) : TI := fun σ H R => ta σ H fun vs H1 => tk σ H1 fun zs H2 => enK K vs zs H2 R
theorem DG (K : PySem.W.Frag) (ta tk : TA) (σ : St) (H : Hp) (R : It → Hp → Prop) : zB K ta tk σ H R = ta σ H fun vs H1 => tk σ H1 fun zs H2 => enK K vs zs H2 R := rfl
theorem Ol (K : PySem.W.Frag) (a : Addr) (n : Int) (H : Hp) (R : It → Hp → Prop) : enK K [.ref a] [.int n] H R = (0 ≤ n ∧ n < 2 ^ 63 ∧ enq K (H a) n.toNat a H R) := rfl
theorem Oj (K : PySem.W.Frag) (xs : List V) (k : Nat) (a : Addr) (H : Hp) (R : It → Hp → Prop) : enq K (some (.lst xs)) k a H R = R (Itn K k a) H := rfl
section
variable {X : Cx}
theorem Hf {es : List Expr} {kk : Nat} {tpos : Pos} {a e : Expr} {ta tk : TA} {p pos kp : Pos} (hg : Gl X "enumerate") (hm : X.mg "enumerate" = none) (ha : PA X [a] ta) (hk : PK X [⟨some "start", e, kp⟩] tk) (hs : starEach [a] X.env = [(false, eval a X.env)] := by rfl) :
  PI X (.Tuple es kk tpos) (.Call (.Name "enumerate" p) [a] [⟨some "start", e, kp⟩] pos) (zB X.K ta tk) := by
 intro pins s σ H R I h
 refine wpAny_Call_Name_kw (oU I hg hm PyProof.Rows.Boot.«enumerate» (Jz (thA (ha pos pins s σ H _ I h) fun us s1 vs H1 I1 r1 q1 => thn (hk pos pins s1 σ H1 _ I1 q1) fun ws s2 ⟨zs, H2, I2, r2, q2⟩ => ?_) (by rw [hs]; rfl) (by rw [hs]; rfl) rfl rfl))
 show wpAny _ _ (call (.type "enumerate") us ((["start"] : List Str).zip ws)) _ _ _
 replace q2 : enK X.K vs zs H2 R := q2
 unfold enK at q2
 split at q2
 ·rename_i l1 n zz
  obtain ⟨h0, hn, q2⟩ := q2
  cases r1 with
  | cons r rr =>
   cases rr
   cases r
   cases r2 with
   | cons r rr =>
    cases rr
    obtain ⟨u, rfl⟩ := r
    unfold enq at q2
    split at q2
    ·rename_i xs e
     obtain ⟨its1, rv1, p1, hz1⟩ := I2.list (SqL.of e)
     have hfi : Builtin.SmallTypes.fitsIndex n = true := by
      unfold Builtin.SmallTypes.fitsIndex
      simp only [Bool.and_eq_true, decide_eq_true_eq]
      omega
     refine JH (u := u) hfi p1.isList fun h' b1 b2 hk => ?_
     refine wpAny_pyIter_enum (s := { s2 with heap := h' }) b1 ?_
     have I3 : Inv X pins σ H2 { s2 with heap := h' } := I2.kept (t' := s2.toks) hk
     have en : n = ((0 + n.toNat : Nat) : Int) := by omega
     refine ⟨_, _, _, _, H2, rfl, I3, yG (Nat.ne_of_gt (Nat.lt_succ_self _)), ⟨⟨_, en ▸ b1⟩, b2⟩, fun b hb => ?_, q2⟩
     have hle : s2.heap.objs.size ≤ b := by
      simp only [List.mem_cons, List.not_mem_nil, or_false] at hb
      rcases hb with rfl | rfl <;> simp
     exact I2.DQ hle (I2.hok.fresh hle)
    ·exact q2.elim
 ·exact q2.elim
theorem GZ {es : List Expr} {kk : Nat} {tpos : Pos} {a e : Expr} {ta tk : TA} {p pos kp : Pos} (hg : Gl X "enumerate") (hm : X.mg "enumerate" = none) (ha : QA X [a] ta) (hk : PK X [⟨some "start", e, kp⟩] tk) (hs : starEach [a] X.env = [(false, eval a X.env)] := by rfl) :
  QI X (.Tuple es kk tpos) (.Call (.Name "enumerate" p) [a] [⟨some "start", e, kp⟩] pos) (zB X.K ta tk) := ⟨Hf hg hm ha.h hk hs⟩
end
open PySem PySem.Spec PyProof.Rows Builtin Builtin.Str
def iD (z y : Str) : List Str := match occurrences z y 0 z.length 1 with
 | i :: _ => [strSub z 0 i, y, strSub z (i + y.length) z.length]
 | [] => [z, Str.empty, Str.empty]
def Gp : V → List V → Hp → VK → Prop := fun x vs H Q => match x, vs with
 | .str z, [.str y] => (y.length == 0) = false ∧ z.length ≤ sizeLine ∧ ∀ p, H p = none → Q (.ref p) (upd H p (.tup ((iD z y).map V.str)))
 | _, _ => False
theorem Gn (z y : Str) (H : Hp) (Q : VK) : Gp (.str z) [.str y] H Q = ((y.length == 0) = false ∧ z.length ≤ sizeLine ∧ ∀ p, H p = none → Q (.ref p) (upd H p (.tup ((iD z y).map V.str)))) := rfl
def PB (z y : Str) : Int := match occurrences z y 0 z.length 1 with
 | i :: _ => (i : Int)
 | [] => -1
def Uc : V → List V → Hp → VK → Prop := fun x vs H Q => match x, vs with
 | .str z, [.str y] => Q (.int (PB z y)) H
 | _, _ => False
theorem GR (z y : Str) (H : Hp) (Q : VK) : Uc (.str z) [.str y] H Q = Q (.int (PB z y)) H := rfl
section
variable {X : Cx}
theorem Az : MtR X "str.partition" Gp := by
 intro pins s σ H x xs v us Q I rx rv h
 unfold Gp at h
 split at h
 ·rename_i z y
  obtain ⟨hy, hz, q⟩ := h
  obtain ⟨t, rfl⟩ := rx
  obtain ⟨u, rfl, ru⟩ := rv.one
  obtain ⟨tu, rfl⟩ := ru
  have fin : ∀ (l : List Value) (k : Nat), Vals ((iD z y).map V.str) l → EP X pins σ Q (.ref s.heap.objs.size) { s with toks := k, heap := s.heap.push { cls := .type "tuple", data := .seq l.toArray } } := by
   intro l k hl
   refine ⟨.ref _, _, I.laid (a := s.heap.objs.size) (o := .tup ((iD z y).map V.str)) (t' := k) (fun b u e => Heap.get?_push_of_some _ e) (Nat.le_refl _) ?_, rfl, q _ (I.hok.fresh (Nat.le_refl _))⟩
   refine ⟨?_, _, hl, _, Heap.get?_push_size _ rfl, rfl, _, rfl⟩
   rw [List.length_map]
   unfold iD
   split <;> (show 3 ≤ sizeLine; decide)
  refine call_meets F.slot_str_partition (typeIs_str _ _ _) F.entry_str_partition (F.args_str_partition_2 _ _) (meets_str_partition z y t tu hy hz) ?_
  unfold iD at fin
  revert fin
  cases e : occurrences z y 0 z.length 1 with
  | nil => exact fun fin => fin _ _ (.cons ⟨_, rfl⟩ (.cons ⟨_, rfl⟩ (.cons ⟨_, rfl⟩ .nil)))
  | cons i r => exact fun fin => fin _ _ (.cons ⟨_, rfl⟩ (.cons ⟨_, rfl⟩ (.cons ⟨_, rfl⟩ .nil)))
 ·exact h.elim
end
section
variable {prog : Program} {w : World} {A : Around} {E : Value → Shared → Prop}
theorem PL {it l : Addr} {items : Array Value} (hne : l ≠ it) : ∀ (n i : Nat) (s : Shared) (Q : List Value → Shared → Prop), s.heap.IsListIter it l i → s.heap.IsList l items → i + n ≤ items.size →
  (∀ g, g.IsListIter it l (i + n) → Heap.SameBut it s.heap g → Q ((items.toList.drop i).take n) { s with heap := g }) → wpAny (model prog w) A (draw (.ref it) n) Q E s
 | 0, i, s, Q, h1, _, _, hQ => wpAny_pure (by simpa using hQ s.heap h1 (Heap.SameBut.refl ..))
 | n + 1, i, s, Q, h1, h2, hle, hQ => by
  have lt : i < items.size := by omega
  refine wpAny_bind (m := pyNext (.ref it)) (wpAny_pyNext_list_item h1 h2 (x := items[i]) (by simp [lt]) fun g1 k1 s1 => ?_)
  refine wpAny_bind (wpAny_holding (PL hne n (i + 1) _ _ k1 (h2.extBut s1.extBut hne) (by omega) fun g2 k2 s2 => wpAny_pure ?_))
  have hd : items.toList.drop i = items[i] :: items.toList.drop (i + 1) := by simp [List.drop_eq_getElem_cons, lt]
  have e : i + (n + 1) = i + 1 + n := by omega
  have q := hQ g2 (e ▸ k2) (s1.trans s2)
  rw [hd, List.take_succ_cons] at q
  exact q
theorem Vd {s : Shared} {l : Addr} {items : Array Value} {Q : List Value → Shared → Prop} (hh : A.handled = none) (hl : s.heap.IsList l items)
  (hQ : ∀ g, Heap.ExtBut s.heap.objs.size s.heap g → Q items.toList { s with heap := g }) : wpAny (model prog w) A (unpackItems (.ref l) items.size none) Q E s := by
 have lt : l ≠ s.heap.objs.size := by
  obtain ⟨o, ho, _⟩ := hl
  exact Nat.ne_of_lt (Heap.lt_size ho)
 have hT : s.TypeIs (.ref l) "list" := by
  obtain ⟨o, ho, hc, _⟩ := hl
  exact ⟨o, ho, hc⟩
 unfold unpackItems notIterableAtAll
 refine wpAny_bind (wpAny_bind (wpAny_specialOf hT F.slot_list_iter.lookup (wpAny_pure ?_)))
 simp only [Bool.false_eq_true, if_false]
 refine wpAny_bind ?_
 refine wpAny_holding (wpAny_pyIter_list hl ?_)
 have hp := hl.extBut (h' := s.heap.push { cls := .type "list_iterator", data := .fields #[.ref l, .int 0 0] }) (fun b o _ e => Heap.get?_push_of_some _ e) lt
 refine wpAny_bind (wpAny_holding (PL lt items.size 0 _ _ ⟨_, Heap.get?_push_size _ rfl, rfl, rfl⟩ hp (by omega) fun g1 k1 s1 => ?_))
 have ha : List.take items.size (List.drop 0 items.toList) = items.toList := by
  rw [List.drop_zero]
  exact List.take_of_length_le (Nat.le_of_eq (by simp))
 rw [ha, if_neg (by simp)]
 refine wpAny_bind (wpAny_holding (wpAny_pyNext_list_end hh k1 (hp.extBut s1.extBut lt) (by simp) fun g2 x2 => ?_))
 simp only [if_false, Option.isSome_none, Bool.false_eq_true]
 exact wpAny_pure (hQ g2 fun b o hb e => x2 b o hb (s1.extBut b o hb (Heap.get?_push_of_some _ e)))
end
def gxq (o : Option HO) (n : Nat) (t : TGs) (σ : St) (H : Hp) (Q : St → Hp → Prop) : Prop := match o with
 | some (.tup xs) => xs.length = n ∧ t xs σ H Q
 | some (.lst xs) => xs.length = n ∧ t xs σ H Q
 | _ => False
def Bs (n : Nat) (t : TGs) : TG := fun v σ H Q => match v with
 | .ref a => gxq (H a) n t σ H Q
 | _ => False
theorem DN (n : Nat) (t : TGs) (a : Addr) (σ : St) (H : Hp) (Q : St → Hp → Prop) : Bs n t (.ref a) σ H Q = gxq (H a) n t σ H Q := rfl
theorem N5 (xs : List V) (n : Nat) (t : TGs) (σ : St) (H : Hp) (Q : St → Hp → Prop) : gxq (some (.tup xs)) n t σ H Q = (xs.length = n ∧ t xs σ H Q) := rfl
theorem N6 (xs : List V) (n : Nat) (t : TGs) (σ : St) (H : Hp) (Q : St → Hp → Prop) : gxq (some (.lst xs)) n t σ H Q = (xs.length = n ∧ t xs σ H Q) := rfl
section
variable {X : Cx} {es : List Expr} {k : Nat} {t : TGs} {n : Nat} {pos : Pos}
theorem Mt (hc : X.calm = true) (h : PGs X es t) (hn : (assignEach es X.env).length = n := by rfl) (hst : (assignEach es X.env).findIdx? (·.1) = none := by rfl) : PG X (.Tuple es k pos) (Bs n t) := by
 intro pins s σ H v u Q I r hw
 unfold Bs at hw
 split at hw
 ·rename_i a
  unfold gxq at hw
  split at hw
  ·rename_i xs e
   exact Hi hc h hn hst pins s σ H _ u Q I r ⟨a, xs, rfl, SqT.of e, hw.1, hw.2⟩
  ·rename_i xs e
   cases r
   obtain ⟨its, rv, hp, hz⟩ := I.list (SqL.of e)
   rw [assign_Tuple]
   refine wpAny_bind (wpAny_standAt ?_)
   unfold unpack
   have hs : (assignEach es X.env).length = its.toArray.size := by simp [hn, ← hw.1, rv.length]
   rw [hs, hst]
   refine wpAny_bind (wpAny_holding (Vd (I.ok.hd hc) hp.isList fun h' hx => ?_))
   have I1 : Inv X pins σ H { s with heap := h' } := I.kept (t' := s.toks) fun b o e => hx b o (Nat.ne_of_lt (Heap.lt_size e)) e
   exact h pins _ σ H xs _ Q I1 (by simpa using rv) hw.2
  ·exact hw.elim
 ·exact hw.elim
end
abbrev TF := St → Hp → Str → (Str → Hp → Prop) → Prop
structure QF (X : Cx) (es : List Expr) (t : TF) : Prop where
 h : ∀ (pins : List (Addr × Obj)) (s : Shared) (σ : St) (H : Hp) (acc : Str) (R : Str → Hp → Prop) (Q : Str → Shared → Prop), Inv X pins σ H s → acc.length + 400 * es.length ≤ sizeLine → t σ H acc R →
  (∀ out s' H', Inv X pins σ H' s' → out.length ≤ sizeLine → R out H' → Q out s') → Joins (model X.prog X.w) X.A X.xe (evalEach es X.env) acc Q s
def tfN : TF := fun _ H acc R => R acc H
def tfS (x : Str) (t : TF) : TF := fun σ H acc R => t σ H (acc ++ x) R
def ftV (v : V) (k : Str → Prop) : Prop := match v with
 | .int i => (-(2 ^ 70) < i ∧ i < 2 ^ 70) ∧ k (toString i)
 | _ => False
def tfV (te : TE) (t : TF) : TF := fun σ H acc R => te σ H fun v H1 => ftV v fun z => t σ H1 (acc ++ z) R
def tFT (t : TF) : TE := fun σ H Q => t σ H Str.empty fun z H1 => Q (.str z) H1
theorem Qj (σ : St) (H : Hp) (acc : Str) (R : Str → Hp → Prop) : tfN σ H acc R = R acc H := rfl
theorem Qi (x : Str) (t : TF) (σ : St) (H : Hp) (acc : Str) (R : Str → Hp → Prop) : tfS x t σ H acc R = t σ H (acc ++ x) R := rfl
theorem Qh (te : TE) (t : TF) (σ : St) (H : Hp) (acc : Str) (R : Str → Hp → Prop) : tfV te t σ H acc R = te σ H fun v H1 => ftV v fun z => t σ H1 (acc ++ z) R := rfl
theorem Ob (i : Int) (k : Str → Prop) : ftV (.int i) k = ((-(2 ^ 70) < i ∧ i < 2 ^ 70) ∧ k (toString i)) := rfl
theorem Qs (t : TF) (σ : St) (H : Hp) (Q : VK) : tFT t σ H Q = t σ H Str.empty fun z H1 => Q (.str z) H1 := rfl
section
variable {X : Cx} {e : Expr} {es : List Expr} {t : TF} {te : TE} {x : Str} {pos : Pos}
theorem zb : QF X [] tfN := ⟨fun pins s σ H acc R Q I hl h k => k acc s H I (Nat.le_trans (Nat.le_add_right _ _) hl) h⟩
theorem vH {kd} (hr : QF X es t) (hx : x.length ≤ 400 := by decide) : QF X (.Constant (.str x) kd pos :: es) (tfS x t) := by
 refine ⟨fun pins s σ H acc R Q I hl h k => ?_⟩
 show wpAny (model X.prog X.w) X.A (eval (.Constant (.str x) kd pos) X.env) _ X.xe s
 rw [List.length_cons] at hl
 refine Calls.Constant_str ⟨x, _, rfl, ?_, hr.h pins _ σ H (acc ++ x) R Q (I.tok _) ?_ h k⟩
 ·rw [strLen_append]; omega
 ·rw [strLen_append]; omega
theorem oE (he : QE X e te) (hr : QF X es t) : QF X (.FormattedValue e (-1) none pos :: es) (tfV te t) := by
 refine ⟨fun pins s σ H acc R Q I hl h k => ?_⟩
 show wpAny (model X.prog X.w) X.A (eval (.FormattedValue e (-1) none pos) X.env) _ X.xe s
 refine wpAny_FormattedValue_plain (thE (he.h pins s σ H _ I h) fun u s1 v H1 I1 rv q => ?_)
 cases v with
 | int i =>
  obtain ⟨hb, q⟩ := q
  obtain ⟨tk, rfl⟩ := (show ∃ tk, u = Value.int i tk from rv)
  have hlg : i.natAbs.log2 < 1920 := by
   have hn : i.natAbs < 2 ^ 70 := by omega
   by_cases z : i.natAbs = 0
   ·rw [z]; decide
   ·have := (Nat.log2_lt z).mpr hn
    omega
  have h4 := Bq (i := i) (by omega)
  rw [List.length_cons] at hl
  refine wpAny_formatField_int hlg ⟨_, _, rfl, ?_, hr.h pins _ σ H1 _ R Q (I1.tok _) ?_ q k⟩
  ·rw [strLen_append]; omega
  ·rw [strLen_append]; omega
 | _ => exact q.elim
theorem G5 {v₁ v₂ : Expr} {rest : List Expr} (h : QF X (v₁ :: v₂ :: rest) t) (hl : (v₁ :: v₂ :: rest).length ≤ 100 := by decide) : QE X (.JoinedStr (v₁ :: v₂ :: rest) pos) (tFT t) := by
 refine ⟨fun pins s σ H Q I ht => ?_⟩
 refine wpAny_JoinedStr (h.h pins s σ H Str.empty _ _ I ?_ ht fun out s' H' I' ho q => ⟨ho, .str out, H', I'.tok _, ⟨_, rfl⟩, q⟩)
 show 0 + 400 * _ ≤ _
 rw [sizeLine_eq]
 omega
end
theorem Lw {X : Cx} {es : List Expr} {k : Nat} {t : TGs} {n : Nat} {pos : Pos} (hc : X.calm = true) (h : QGs X es t) (hn : (assignEach es X.env).length = n := by rfl) (hst : (assignEach es X.env).findIdx? (·.1) = none := by rfl) : QG X (.Tuple es k pos) (Bs n t) := ⟨Mt hc h.h hn hst⟩
theorem Om (x : Str) : Str.empty ++ x = x := by
 show (⟨#[] ++ x.cps⟩ : Str) = x
 simp
def rdF := And.intro @rdX (And.intro @Qj (And.intro @Qi (And.intro @Qh (And.intro @Ob (And.intro @Qs (And.intro @DG (And.intro @Ol (And.intro @Oj (And.intro @Gn (And.intro @GR (And.intro @DN (And.intro @N5 (And.intro @N6 @Om)))))))))))))
theorem qF (x : Str) (i j : Nat) : (strSub x i j).cps.toList = (x.cps.toList.take j).drop i := by
 simp [strSub, Array.toList_extract, List.extract, List.drop_take]
theorem qC {x y : Str} (h : x.cps.toList = y.cps.toList) : x = y := by
 cases x with
 | mk a => cases y with
  | mk b =>
   have e : a = b := Array.toList_inj.mp h
   rw [e]
theorem d8 (x y : Str) : (x ++ y).cps.toList = x.cps.toList ++ y.cps.toList := by
 show (x.cps ++ y.cps).toList = _
 simp
theorem Ah {c m j : Nat} {a b : List Nat} (ha : c ∉ a) (hb : c ∉ b) (h : (a ++ List.replicate m c ++ b)[j]? = some c) : a.length ≤ j ∧ j < a.length + m := by
 refine ⟨Nat.le_of_not_lt fun lt => ?_, Nat.lt_of_not_le fun le => ?_⟩
 ·rw [List.append_assoc, List.getElem?_append_left lt] at h
  exact ha (List.mem_of_getElem? h)
 ·rw [List.getElem?_append_right (by simp; omega)] at h
  exact hb (List.mem_of_getElem? h)
theorem JB {x y : Str} {c m i : Nat} {a b : List Nat} (hm : 1 ≤ m) (hy : y.cps.toList = List.replicate m c) (hx : x.cps.toList = a ++ List.replicate m c ++ b) (ha : c ∉ a) (hb : c ∉ b) (h : subAt x y i = true) : i = a.length := by
 have hl : y.length = m := by
  show y.cps.size = m
  rw [← Array.length_toList, hy, List.length_replicate]
 rw [StrLaws.subAt_eq, beq_iff_eq, hy, hl] at h
 have g : ∀ k, k < m → (a ++ List.replicate m c ++ b)[i + k]? = some c := by
  intro k hk
  have e : (List.take m (x.cps.toList.drop i))[k]? = some c := by
   rw [h, List.getElem?_replicate, if_pos hk]
  rw [List.getElem?_take, if_pos hk, List.getElem?_drop, hx] at e
  exact e
 have g0 := Ah ha hb (g 0 (by omega))
 have g1 := Ah ha hb (g (m - 1) (by omega))
 omega
theorem BP {x y A B : Str} {c m : Nat} (hm : 1 ≤ m) (hy : y.cps.toList = List.replicate m c) (hx : x = A ++ y ++ B) (ha : c ∉ A.cps.toList) (hb : c ∉ B.cps.toList) : iD x y = [A, y, B] := by
 have hxl : x.cps.toList = A.cps.toList ++ List.replicate m c ++ B.cps.toList := by rw [hx, d8, d8, hy]
 have hl : y.length = m := by
  show y.cps.size = m
  rw [← Array.length_toList, hy, List.length_replicate]
 have hxn : x.length = A.cps.toList.length + m + B.cps.toList.length := by
  show x.cps.size = _
  rw [← Array.length_toList, hxl]
  simp
  omega
 have at0 : subAt x y A.cps.toList.length = true := by
  rw [StrLaws.subAt_eq, beq_iff_eq, hl, hxl, hy, List.append_assoc, List.drop_left, List.take_append_of_le_length (by simp), List.take_of_length_le (by simp)]
 have hf := (StrLaws.found_iff x y).mpr ⟨A.cps.toList.length, by rw [hl, hxn]; omega, at0⟩
 unfold iD
 split
 ·rename_i i r e
  have hi : i = A.cps.toList.length := JB hm hy hxl ha hb (StrLaws.occ_spec x y 0 x.length 1 i (by rw [e]; exact List.mem_cons_self)).2
  have e1 : strSub x 0 i = A := qC (by rw [qF, hxl, hi, List.drop_zero, List.append_assoc, List.take_left])
  have e2 : strSub x (i + y.length) x.length = B := qC (by
   have hz : (x.cps.toList).take x.length = x.cps.toList := List.take_of_length_le (by rw [Array.length_toList]; exact Nat.le_refl _)
   rw [qF, hz, hl, hi, hxl]
   exact List.drop_left' (by simp))
  rw [e1, e2]
 ·rename_i e
  rw [e] at hf
  exact absurd hf (by simp)
theorem rW {x y : Str} {c : Nat} {r : List Nat} (hy : y.cps.toList = c :: r) (hx : c ∉ x.cps.toList) : iD x y = [x, Str.empty, Str.empty] := by
 unfold iD
 split
 ·rename_i i q e
  have h := (StrLaws.occ_spec x y 0 x.length 1 i (by rw [e]; exact List.mem_cons_self)).2
  rw [StrLaws.subAt_eq, beq_iff_eq, hy] at h
  exact absurd (List.mem_of_mem_drop (List.mem_of_mem_take (h ▸ List.mem_cons_self))) hx
 ·rfl
def itW : It1 → Str
 | .one a => tsI a
 | .rng a b => tsI a ++ ".." ++ tsI b
 | .bits m v => tsI m ++ "&" ++ tsI v
def fj (its : List It1) : List Str := "case" :: its.map itW
def b8 (its : List It1) : Str := Txt.join " " (fj its)
def cF (w s : Int) : Str := "choice " ++ tsI w ++ " " ++ tsI s
def fP (w s : Int) (css : List (List It1)) : Str := Txt.join "\n" (cF w s :: css.map b8)
def wF : It1 → Prop
 | .one a => SmI a
 | .rng a b => SmI a ∧ SmI b
 | .bits m v => SmI m ∧ SmI v
theorem Uh {w : Int} (hw : w ≤ 40) : (2 : Int) ^ w.toNat ≤ 2 ^ 40 := by
 have h : w.toNat ≤ 40 := by omega
 exact_mod_cast Nat.pow_le_pow_right (n := 2) (by decide) h
theorem Ue {w : Int} (hw : w ≤ 40) : 2 ^ w.toNat ≤ 2 ^ 40 := Nat.pow_le_pow_right (by decide) (by omega)
theorem TV {w s : Int} (hw : w ≤ 40) (hs : s = 0 ∨ s = 1) : -(2 ^ 40) ≤ wl w s ∧ wl w s ≤ 0 := by
 have h2 := Uh (w := w - 1) (by omega)
 have h3 := two_pow_pos (w - 1).toNat
 unfold wl
 rcases hs with rfl | rfl <;> omega
theorem oW {w s a : Int} (hw : w ≤ 40) (hs : s = 0 ∨ s = 1) (h : fX w s a) : SmI a := by
 have h1 := TV hw hs
 have h2 := Uh hw
 obtain ⟨h3, h4⟩ := h
 have h5 : a.natAbs ≤ 2 ^ 40 := by omega
 exact Nat.lt_of_le_of_lt h5 (by decide)
theorem Pz {w s : Int} {it : It1} (hw : w ≤ 40) (hs : s = 0 ∨ s = 1) (h : it.Ok w s) : wF it := by
 cases it with
 | one a => exact oW hw hs h
 | rng a b => exact ⟨oW hw hs h.1, oW hw hs h.2.1⟩
 | bits m v =>
  have h2 := Ue hw
  have h3 : (2 : Nat) ^ 40 < 10 ^ 20 := by decide
  exact ⟨show (m : Int).natAbs < _ by have := h.1; omega, show (v : Int).natAbs < _ by have := h.2.1; omega⟩
theorem cJ (c : Nat) (hc : c = 32 ∨ c = 10 ∨ c = 46 ∨ c = 38) (i : Int) : c ∉ (tsI i).cps.toList := by
 rcases hc with rfl | rfl | rfl | rfl
 ·exact int_text_free' 32 (by decide) i
 ·exact int_text_free' 10 (by decide) i
 ·exact int_text_free' 46 (by decide) i
 ·exact int_text_free' 38 (by decide) i
theorem IV (it : It1) : 32 ∉ (itW it).cps.toList ∧ 10 ∉ (itW it).cps.toList := by
 have d1 : ∀ c, c ∈ (".." : Str).cps.toList → c = 46 := by decide +kernel
 have d2 : ∀ c, c ∈ ("&" : Str).cps.toList → c = 38 := by decide +kernel
 have f : ∀ c, c = 32 ∨ c = 10 → c ∉ (itW it).cps.toList := by
  intro c hc z
  have hc' : c = 32 ∨ c = 10 ∨ c = 46 ∨ c = 38 := by omega
  cases it with
  | one a => exact cJ c hc' a z
  | rng a b =>
   rw [itW, d8, d8] at z
   rcases List.mem_append.mp z with z | z
   ·rcases List.mem_append.mp z with z | z
    ·exact cJ c hc' a z
    ·have := d1 c z; omega
   ·exact cJ c hc' b z
  | bits a b =>
   rw [itW, d8, d8] at z
   rcases List.mem_append.mp z with z | z
   ·rcases List.mem_append.mp z with z | z
    ·exact cJ c hc' a z
    ·have := d2 c z; omega
   ·exact cJ c hc' b z
 exact ⟨f 32 (.inl rfl), f 10 (.inr rfl)⟩
theorem pO (its : List It1) : ∀ t ∈ fj its, 32 ∉ t.cps.toList ∧ 10 ∉ t.cps.toList := by
 intro t ht
 rcases List.mem_cons.mp ht with rfl | ht
 ·exact ⟨by decide +kernel, by decide +kernel⟩
 ·obtain ⟨i, _, rfl⟩ := List.mem_map.mp ht
  exact IV i
theorem yj (its : List It1) : Txt.split (b8 its) " " = fj its := by
 unfold b8
 rw [zZ]
 exact lY (List.cons_ne_nil _ _) fun t ht => (pO its t ht).1
theorem uK {ts : List Str} (h : ∀ t ∈ ts, 10 ∉ t.cps.toList) : 10 ∉ (Txt.join " " ts).cps.toList := by
 rw [zZ]
 show 10 ∉ (Builtin.Str.glued ⟨#[32]⟩ ts).cps.toList
 rw [StrLaws.glued_eq_join, nA]
 intro z
 rcases Iv z with z | ⟨p, hp, z⟩
 ·cases z
 ·obtain ⟨t, ht, rfl⟩ := List.mem_map.mp hp
  exact h t ht z
theorem rF (w s : Int) : cF w s = Txt.join " " [("choice" : Str), tsI w, tsI s] := by
 refine qC ?_
 have e : (Txt.join " " ["choice", tsI w, tsI s]).cps.toList = jnL 32 [("choice" : Str).cps.toList, (tsI w).cps.toList, (tsI s).cps.toList] := by
  rw [zZ]
  show (Builtin.Str.glued ⟨#[32]⟩ _).cps.toList = _
  rw [StrLaws.glued_eq_join, nA]
  rfl
 have c1 : ("choice " : Str).cps.toList = ("choice" : Str).cps.toList ++ [32] := by decide +kernel
 have c2 : (" " : Str).cps.toList = [32] := by decide +kernel
 rw [e]
 unfold cF
 rw [d8, d8, d8, c1, c2]
 show _ = _ ++ 32 :: (_ ++ 32 :: _)
 simp
 rfl
theorem xW (w s : Int) : Txt.split (cF w s) " " = [("choice" : Str), tsI w, tsI s] := by
 rw [rF, zZ]
 refine lY (List.cons_ne_nil _ _) fun t ht => ?_
 simp only [List.mem_cons, List.not_mem_nil, or_false] at ht
 rcases ht with rfl | rfl | rfl
 ·decide +kernel
 ·exact cJ 32 (by decide) w
 ·exact cJ 32 (by decide) s
theorem tX (w s : Int) (css : List (List It1)) : Txt.split (fP w s css) "\n" = cF w s :: css.map b8 := by
 unfold fP
 rw [UW]
 refine lY (List.cons_ne_nil _ _) fun t ht => ?_
 rcases List.mem_cons.mp ht with rfl | ht
 ·rw [rF]
  refine uK fun t ht => ?_
  simp only [List.mem_cons, List.not_mem_nil, or_false] at ht
  rcases ht with rfl | rfl | rfl
  ·decide +kernel
  ·exact cJ 10 (by decide) w
  ·exact cJ 10 (by decide) s
 ·obtain ⟨its, _, rfl⟩ := List.mem_map.mp ht
  exact uK fun t ht => (pO its t ht).2
theorem rT : (".." : Str).cps.toList = List.replicate 2 46 := by decide +kernel
theorem wC : ("&" : Str).cps.toList = List.replicate 1 38 := by decide +kernel
theorem Jt (a : Int) : iD (tsI a) ".." = [tsI a, Str.empty, Str.empty] := rW rT (cJ 46 (by decide) a)
theorem O2 (a : Int) : iD (tsI a) "&" = [tsI a, Str.empty, Str.empty] := rW wC (cJ 38 (by decide) a)
theorem Js (a b : Int) : iD (tsI a ++ ".." ++ tsI b) ".." = [tsI a, "..", tsI b] := BP (by decide) rT rfl (cJ 46 (by decide) a) (cJ 46 (by decide) b)
theorem O1 (a b : Int) : iD (tsI a ++ "&" ++ tsI b) "&" = [tsI a, "&", tsI b] := BP (by decide) wC rfl (cJ 38 (by decide) a) (cJ 38 (by decide) b)
theorem DY (a b : Int) : iD (tsI a ++ "&" ++ tsI b) ".." = [tsI a ++ "&" ++ tsI b, Str.empty, Str.empty] := by
 refine rW rT fun z => ?_
 rw [d8, d8] at z
 rcases List.mem_append.mp z with z | z
 ·rcases List.mem_append.mp z with z | z
  ·exact cJ 46 (by decide) a z
  ·rw [wC] at z
   exact absurd z (by decide)
 ·exact cJ 46 (by decide) b z
theorem Bm {it : It1} (h : wF it) : (itW it).length ≤ 44 := by
 have d1 : (".." : Str).length = 2 := by decide +kernel
 have d2 : ("&" : Str).length = 1 := by decide +kernel
 cases it with
 | one a => exact Nat.le_trans (dG h) (by decide)
 | rng a b =>
  have h1 := dG h.1
  have h2 := dG h.2
  show (tsI a ++ ".." ++ tsI b).length ≤ 44
  rw [@strLen_append, @strLen_append]
  omega
 | bits a b =>
  have h1 := dG h.1
  have h2 := dG h.2
  show (tsI a ++ "&" ++ tsI b).length ≤ 44
  rw [@strLen_append, @strLen_append]
  omega
theorem sy {its : List It1} (h : ∀ it ∈ its, wF it) : ∀ t ∈ fj its, t.length ≤ 44 := by
 intro t ht
 rcases List.mem_cons.mp ht with rfl | ht
 ·decide +kernel
 ·obtain ⟨i, hi, rfl⟩ := List.mem_map.mp ht
  exact Bm (h i hi)
theorem su {its : List It1} (h : ∀ it ∈ its, wF it) (hl : its.length ≤ 6) : JoinOk " " (fj its) = true :=
 oV (L := 44) (n := 7) (sy h) (by simp [fj]; omega) (by decide)
theorem uP {its : List It1} (h : ∀ it ∈ its, wF it) (hl : its.length ≤ 6) : (b8 its).length ≤ 315 :=
 join_le (sep := " ") (L := 44) (n := 7) (sy h) (by simp [fj]; omega)
theorem uI {w s : Int} (hw : SmI w) (hs : SmI s) : (cF w s).length ≤ 315 := by
 have d1 : ("choice " : Str).length = 7 := by decide +kernel
 have d2 : (" " : Str).length = 1 := by decide +kernel
 have h1 := dG hw
 have h2 := dG hs
 unfold cF
 rw [strLen_append, strLen_append, strLen_append]
 omega
def sW (w s : Int) (css : List (List It1)) : Prop := 1 ≤ w ∧ w ≤ 40 ∧ (s = 0 ∨ s = 1) ∧ (∀ its ∈ css, its.length ≤ 6 ∧ ∀ it ∈ its, it.Ok w s) ∧ css.length ≤ 12
theorem sW.sm {w s : Int} {css : List (List It1)} (h : sW w s css) : SmI w ∧ SmI s ∧ ∀ its ∈ css, its.length ≤ 6 ∧ ∀ it ∈ its, wF it := by
 obtain ⟨h1, h2, h3, h4, h5⟩ := h
 refine ⟨?_, ?_, fun its hi => ⟨(h4 its hi).1, fun it hit => Pz h2 h3 ((h4 its hi).2 it hit)⟩⟩
 ·show w.natAbs < 10 ^ 20
  have : w.natAbs ≤ 40 := by omega
  exact Nat.lt_of_le_of_lt this (by decide)
 ·show s.natAbs < 10 ^ 20
  have : s.natAbs ≤ 40 := by omega
  exact Nat.lt_of_le_of_lt this (by decide)
theorem sW.rows {w s : Int} {css : List (List It1)} (h : sW w s css) : ∀ t ∈ cF w s :: css.map b8, t.length ≤ 315 := by
 obtain ⟨h1, h2, h3⟩ := h.sm
 intro t ht
 rcases List.mem_cons.mp ht with rfl | ht
 ·exact uI h1 h2
 ·obtain ⟨its, hi, rfl⟩ := List.mem_map.mp ht
  exact uP (h3 its hi).2 (h3 its hi).1
theorem sW.fits {w s : Int} {css : List (List It1)} (h : sW w s css) : JoinOk "\n" (cF w s :: css.map b8) = true :=
 oV (L := 315) (n := 13) h.rows (by have := h.2.2.2.2; simp; omega) (by decide)
theorem sW.len {w s : Int} {css : List (List It1)} (h : sW w s css) : (fP w s css).length ≤ 4108 :=
 join_le (sep := "\n") (L := 315) (n := 13) h.rows (by have := h.2.2.2.2; simp; omega)
def Af : Sp := fun vs H Q _ => ∃ (t : Addr) (it : It1), vs = [.ref t] ∧ lq H t it ∧ wF it ∧ ∀ H', Same H H' → Q (.str (itW it)) H'
def Ag : Sp := fun vs H Q _ => ∃ (x : V) (w s : Int) (ok : Addr → Prop) (css : List (List It1)), vs = [x] ∧ sW w s css ∧ aO ok H x (fQ w s css) ∧ ∀ H', Same H H' → Q (.str (fP w s css)) H'
def Pg : Sp := fun vs H Q _ => ∃ it : It1, vs = [.str (itW it)] ∧ wF it ∧ ∀ (t : Addr) H', H t = none → Same H H' → lq H' t it → Q (.ref t) H'
def Pb : Sp := fun vs H Q _ => ∃ w s : Int, vs = [.str (cF w s)] ∧ 1 ≤ w ∧ w ≤ 40 ∧ (s = 0 ∨ s = 1) ∧ ∀ (p : Addr) H', H p = none → Same H H' → H' p = some (.tup [.int w, .int s]) → Q (.ref p) H'
def Ph : Sp := fun vs H Q _ => ∃ (w s : Int) (its : List It1) (ok : Addr → Prop), vs = [.int w, .int s, .str (b8 its)] ∧ 1 ≤ w ∧ w ≤ 40 ∧ (s = 0 ∨ s = 1) ∧ its.length ≤ 6 ∧ (∀ it ∈ its, it.Ok w s) ∧ sV ok H ∧
 ∀ (p : Addr) H', H p = none → Same H H' → aO ok H' (.ref p) (fB its) → Q (.ref p) H'
def Pj : Sp := fun vs H Q _ => ∃ (w s : Int) (css : List (List It1)) (ok : Addr → Prop), vs = [.str (fP w s css)] ∧ sW w s css ∧ sV ok H ∧
 ∀ (p c : Addr) (ls : List Addr) H', Same H H' → H' p = some (.tup [.int w, .int s, .ref c]) → H' c = some (.lst (ls.map V.ref)) → c ∉ ls → H c = none → (∀ q ∈ ls, H q = none) → ls.length = css.length → aO ok H' (.ref p) (fQ w s css) → Q (.ref p) H'
def trS (x : V) (H : Hp) (Q : Bool → Hp → Prop) : Prop := match x with
 | .str y => y.length ≤ sizeLine ∧ Q ((y.length : Int) != 0) H
 | _ => False
def O8 (te : TE) : TT := fun σ H Q => te σ H fun x H1 => trS x H1 Q
theorem Fe (te : TE) (σ : St) (H : Hp) (Q : Bool → Hp → Prop) : O8 te σ H Q = te σ H fun x H1 => trS x H1 Q := rfl
theorem J5 (y : Str) (H : Hp) (Q : Bool → Hp → Prop) : trS (.str y) H Q = (y.length ≤ sizeLine ∧ Q ((y.length : Int) != 0) H) := rfl
theorem Aq {X : Cx} {a : Expr} {ta : TE} (h : QE X a ta) (he : ∀ whole, isTrue a X.env whole = (do let v ← whole; standAt a.pos; holding [v] (truthy v)) := by intro _; rfl) : QT X a (O8 ta) := by
 refine ⟨fun pins s σ H Q I hw => ?_⟩
 refine isTrue_plain (thE (h.h pins s σ H _ I hw) fun v s1 x H1 I1 r1 q1 => ?_) (he _)
 cases x with
 | str y => exact Qg pins s1 σ H1 _ v Q I1 r1 ⟨_, ⟨q1.1, rfl⟩, q1.2⟩
 | _ => exact q1.elim
def rdG := And.intro @rdF (And.intro @Fe @J5)
end L2
local macro_rules | `(tactic| push_cast) => `(tactic| simp only [L2.rd0, L2.rd1, L2.rd2, L2.rd3, L2.rd4, L2.rd5, L2.rd6, L2.rd7, L2.rd8, L2.rd9, reduceIte, reduceCtorEq, Nat.reduceAdd, Nat.reduceSub])
local macro_rules | `(tactic| push_cast [$ls,*]) => `(tactic| simp only [L2.rd0, L2.rd1, L2.rd2, L2.rd3, L2.rd4, L2.rd5, L2.rd6, L2.rd7, L2.rd8, L2.rd9, reduceIte, reduceCtorEq, Nat.reduceAdd, Nat.reduceSub, $ls,*])
namespace K45
open PySem L2 PyProof.Rows
def top (i : Nat) : Stmt := PySem.Challenge.pw_caseways_k45_choices_written.main.body.getD i (.Pass ⟨0, 0, 0, 0⟩)
abbrev BLs : List Str := ["abs", "all", "bool", "enumerate", "int", "isinstance", "len", "list", "max", "min", "range", "repr", "str", "tuple", "zip"]
theorem Ik : ("abs" : Str) ∈ BLs := by decide +kernel
theorem vP : ("all" : Str) ∈ BLs := by decide +kernel
theorem qm : ("bool" : Str) ∈ BLs := by decide +kernel
theorem vO : ("enumerate" : Str) ∈ BLs := by decide +kernel
theorem rE : ("int" : Str) ∈ BLs := by decide +kernel
theorem aV : ("isinstance" : Str) ∈ BLs := by decide +kernel
theorem kE : ("len" : Str) ∈ BLs := by decide +kernel
theorem vN : ("list" : Str) ∈ BLs := by decide +kernel
theorem Sh : ("max" : Str) ∈ BLs := by decide +kernel
theorem zy : ("min" : Str) ∈ BLs := by decide +kernel
theorem kj : ("range" : Str) ∈ BLs := by decide +kernel
theorem Ba : ("repr" : Str) ∈ BLs := by decide +kernel
theorem mD : ("str" : Str) ∈ BLs := by decide +kernel
theorem nq : ("tuple" : Str) ∈ BLs := by decide +kernel
theorem Sg : ("zip" : Str) ∈ BLs := by decide +kernel
abbrev dh : Stmt := top 23
theorem Cv : bh ["_law_script", "_law_k"] ["_law_script", "_law_k"] (aj dh) := ⟨rfl, rfl, rfl, by decide +kernel, rfl, by decide +kernel, by decide +kernel⟩
theorem rB : Nm ["_law_script", "_law_k"] (aj dh) 0 "_law_script" := .of (by decide +kernel)
theorem rA : Nm ["_law_script", "_law_k"] (aj dh) 1 "_law_k" := .of (by decide +kernel)
theorem vZ : (aj dh).names.lookup ("len" : Str) = some .globalImplicit := by decide +kernel
theorem Em : Bn "_law_cell_at" := ⟨by decide +kernel, by decide +kernel⟩
abbrev eN : Stmt := top 24
theorem Ai : bh ["_law_script", "_law_k", "_law_cell"] ["_law_script", "_law_k"] (aj eN) := ⟨rfl, rfl, rfl, by decide +kernel, rfl, by decide +kernel, by decide +kernel⟩
theorem HX : Nm ["_law_script", "_law_k", "_law_cell"] (aj eN) 0 "_law_script" := .of (by decide +kernel)
theorem qT : Nm ["_law_script", "_law_k", "_law_cell"] (aj eN) 1 "_law_k" := .of (by decide +kernel)
theorem m7 : Nm ["_law_script", "_law_k", "_law_cell"] (aj eN) 2 "_law_cell" := .of (by decide +kernel)
theorem rJ : (aj eN).names.lookup ("_law_cell_at" : Str) = some .globalImplicit := by decide +kernel
theorem rH : (aj eN).names.lookup ("abs" : Str) = some .globalImplicit := by decide +kernel
theorem zF : (aj eN).names.lookup ("int" : Str) = some .globalImplicit := by decide +kernel
theorem Ou : Bn "_law_tape" := ⟨by decide +kernel, by decide +kernel⟩
abbrev eO : Stmt := top 25
theorem mW : bh ["_law_tape_here", "_law_many", "_law_found", "_law_prime", "_law_once"] ["_law_tape_here", "_law_many"] (aj eO) := ⟨rfl, rfl, rfl, by decide +kernel, rfl, by decide +kernel, by decide +kernel⟩
theorem cG : Nm ["_law_tape_here", "_law_many", "_law_found", "_law_prime", "_law_once"] (aj eO) 0 "_law_tape_here" := .of (by decide +kernel)
theorem jV : Nm ["_law_tape_here", "_law_many", "_law_found", "_law_prime", "_law_once"] (aj eO) 1 "_law_many" := .of (by decide +kernel)
theorem jU : Nm ["_law_tape_here", "_law_many", "_law_found", "_law_prime", "_law_once"] (aj eO) 2 "_law_found" := .of (by decide +kernel)
theorem xH : Nm ["_law_tape_here", "_law_many", "_law_found", "_law_prime", "_law_once"] (aj eO) 3 "_law_prime" := .of (by decide +kernel)
theorem qU : Nm ["_law_tape_here", "_law_many", "_law_found", "_law_prime", "_law_once"] (aj eO) 4 "_law_once" := .of (by decide +kernel)
theorem vV : (aj eO).names.lookup ("_law_take" : Str) = some .globalImplicit := by decide +kernel
theorem cj : Bn "_law_take" := ⟨by decide +kernel, by decide +kernel⟩
section
variable {P : Program} {w : World} {K : PySem.W.Frag} {mg : Str → Option Value} {base : Heap} {f : Addr} {fd : FuncData} {bs : List Str}
theorem Nb (hB : ∀ x : Str, x ∈ BLs → mg x = none) (F : Fun K "_law_cell_at" "_law_cell_at" dh f fd) : cX P w K mg base CX0 1 f fd ["_law_script", "_law_k"] (FW K) := by
 refine F.okq Cv (fun vs H Q E h => ?_) (fun cdv A outer s H vs Q E hr h => ?_)
 ·obtain ⟨a, ns, k, rfl, _⟩ := h
  rfl
 ·obtain ⟨a, ns, k, rfl, hS, h0, q⟩ := h
  refine ⟨_, (aG (aM (jE (bA pG (au rA) (bW gw vZ (hB "len" kE) PySem.boot_len lg (ak (au rB) aq)) (aU _)) (bR Bk (au rB) (au rA) (fun _ _ => rfl)) ao))), ?_⟩
  push_cast
  refine ⟨_, .inl hS, ?_⟩
  split
  ·rename_i c
   rw [List.length_map] at c
   have hk : k.toNat < ns.length := by omega
   have ek : k = ((k.toNat : Nat) : Int) := by omega
   have z : atI (ns.map V.int) ((k.toNat : Nat) : Int) = some (.int ns[k.toNat]) := d7 (by rw [List.getElem?_map, List.getElem?_eq_getElem hk]; rfl)
   rw [← ek] at z
   unfold Ua
   exact ⟨a, _, k, _, rfl, rfl, hS, z, q _⟩
  ·exact q _
theorem M5 (hB : ∀ x : Str, x ∈ BLs → mg x = none) (CZCellAt : Cal P w K mg base "_law_cell_at" 1 ["_law_script", "_law_k"] (FW K)) (F : Fun K "_law_tape" "_law_tape" eN f fd) : cX P w K mg base CX0 2 f fd ["_law_script", "_law_k"] (FN K) := by
 refine F.okq Ai (fun vs H Q E h => ?_) (fun cdv A outer s H vs Q E hr h => ?_)
 ·obtain ⟨a, ns, k, rfl, _⟩ := h
  rfl
 ·obtain ⟨a, ns, k, rfl, hS, h0, h1, q⟩ := h
  refine ⟨_, (aA (bV m7 Ai.nd (aX CZCellAt (hr.mono (by decide)) rJ Em (ak (au HX) (ak (au qT) aq))))
   (aG (aM (iB (ak (aL fM (bW yp rH (hB "abs" Ik) PyProof.Rows.Boot.«abs» JK (ak (au m7) aq)) (qN sI zF (hB "int" rE) boot_int sO (ak (gG Uz (bW yp rH (hB "abs" Ik) PyProof.Rows.Boot.«abs» JK (ak (au m7) aq)) (aL Hu ao ao) (aU _)) aq))) (ak (aL gH (aL fM (aL bT (aL bT (aL gH (au m7) ao) (aL fM (aL fM ao (au qT)) (au qT))) ao) ao) ao) (ak ao aq))))))), ?_⟩
  push_cast
  refine ⟨a, ns, k, rfl, hS, h0, fun v => ?_⟩
  push_cast
  refine ⟨⟨by decide, by decide, by decide⟩, ?_, by decide, .inl (by decide), .inr (by omega), .inr (by decide), by decide, bx (by decide), fun p hp => q p _ hp (aB hp) ⟨_, _, _, aD, ?_, ?_, ?_, Int.le_refl _, Int.le_refl _⟩⟩
  ·right
   generalize (if v < 0 then -v else v) = u
   split <;> decide
  ·refine Int.mul_nonneg ?_ ?_
   ·split <;> omega
   ·generalize (if v < 0 then -v else v) = u
    split <;> decide
  ·exact Int.emod_nonneg _ (by decide)
  ·exact Int.emod_lt_of_pos _ (by decide)
theorem Aw {n : Nat} (hB : ∀ x : Str, x ∈ BLs → mg x = none) (hn : n ≤ 10) (CZTake : Cal P w K mg base "_law_take" n ["_law_tape_here", "_law_many"] (d9 n)) (F : Fun K "_law_take" "_law_take" eO f fd) : cX P w K mg base CX0 (n + 1) f fd ["_law_tape_here", "_law_many"] (d9 (n + 1)) := by
 refine F.okq mW (fun vs H Q E h => ?_) (fun cdv A outer s H vs Q E hr h => ?_)
 ·obtain ⟨p, m, B, rfl, _⟩ := h
  rfl
 ·obtain ⟨p, m, B, rfl, ⟨a, b, c, hp, ha, hb0, hb1, hc0, hc1⟩, hB0, hm0, hm1, hn1, hn2, q⟩ := h
  refine ⟨_, (aA (cD (bA Pu (bR dI (au cG) ao (fun _ _ => rfl)) ao (aU _)) (aA (bV jU mW.nd (aL gH (bR dI (au cG) ao (fun _ _ => rfl)) (au jV)))
   (aA (iz (aL xr (bR dI (au cG) ao (fun _ _ => rfl)) (au jV)) (vG (au cG) ao Gb))
   (aG (aM (au jU))))) bI)
   (aA (iz (aL bT (bR dI (au cG) ao (fun _ _ => rfl)) ao) (vG (au cG) ao Gb))
   (aA (bV xH mW.nd (bR dI (iB (ak ao (ak ao (ak ao (ak ao (ak ao (ak ao (ak ao aq)))))))) (aL gH (bR dI (au cG) ao (fun _ _ => rfl)) ao) (fun _ _ => rfl)))
   (aA (bV qU mW.nd (aL gH (aL fM (aL bT (bR dI (au cG) ao (fun _ _ => rfl)) (aL fM ao (bR dI (au cG) ao (fun _ _ => rfl)))) (aL bT ao (bR dI (au cG) ao (fun _ _ => rfl)))) (au xH)))
   (aA (iz (aL gH (aL bT (aL fM (au qU) (aL bT (aL gH (au qU) ao) ao)) (bR dI (au cG) ao (fun _ _ => rfl))) ao) (vG (au cG) ao Gb))
   (aA (bV jU mW.nd (aL xr (aL gH (aL fM (bR dI (au cG) ao (fun _ _ => rfl)) (aL bT (aL gH (bR dI (au cG) ao (fun _ _ => rfl)) ao) ao)) ao) ao))
   (aG (aM (jE (bA pG (au jV) (aL Hu ao ao) (aU _)) (aL gH (au jU) (au jV)) (aL gH (aL bT (aL fM (au jU) ao) (aX CZTake (hr.mono (by omega)) vV cj (ak (au cG) (ak ao aq)))) (au jV))))))))))), ?_⟩
  push_cast [hp]
  split
  ·refine ⟨hm0, ⟨hm0, hm1⟩, ?_⟩
   refine q _ _ (Int.emod_nonneg _ (by omega)) (Int.emod_lt_of_pos _ hm0) cT.upd ⟨_, _, _, aD, Int.ediv_nonneg ha (by omega), hb0, hb1, hc0, by omega⟩
  ·refine ⟨bx (by decide), fun p1 hp1 => ?_⟩
   have np : p ≠ p1 := fun z => by rw [← z, aD] at hp1; cases hp1
   push_cast [hp, aH np, ne_eq, np, not_false_eq_true]
   obtain ⟨v, hv, v0⟩ := Rr (c + 1)
   have m1 : ∀ x : Int, 0 ≤ x % 40009 ∧ x % 40009 < 40009 := fun x => ⟨Int.emod_nonneg _ (by decide), Int.emod_lt_of_pos _ (by decide)⟩
   have m2 : ∀ x : Int, 0 ≤ x % 1009 ∧ x % 1009 < 1009 := fun x => ⟨Int.emod_nonneg _ (by decide), Int.emod_lt_of_pos _ (by decide)⟩
   have m3 : ∀ x : Int, 0 ≤ x % 2147483629 ∧ x % 2147483629 < 2147483629 := fun x => ⟨Int.emod_nonneg _ (by decide), Int.emod_lt_of_pos _ (by decide)⟩
   refine ⟨by decide, _, hv, .inl (by decide), .inr (by omega), v, rfl, v0, by decide, .inr ?_, by decide, by decide, .inr ?_, by decide, by decide, by decide, ?_⟩
   ·have := m1 ((b + 39373 * (c + 1)) * (48271 + (c + 1)) % v)
    omega
   ·have := m2 (((b + 39373 * (c + 1)) * (48271 + (c + 1)) % v * ((b + 39373 * (c + 1)) * (48271 + (c + 1)) % v % 40009 + 7) + (c + 1)) % 2147483629)
    omega
   ·have e3 := m3 ((b + 39373 * (c + 1)) * (48271 + (c + 1)) % v * ((b + 39373 * (c + 1)) * (48271 + (c + 1)) % v % 40009 + 7) + (c + 1))
    generalize ((b + 39373 * (c + 1)) * (48271 + (c + 1)) % v * ((b + 39373 * (c + 1)) * (48271 + (c + 1)) % v % 40009 + 7) + (c + 1)) % 2147483629 = y at e3 ⊢
    have sx : cT p H (upd (upd (upd H p (HO.lst [V.int a, V.int b, V.int (c + 1)])) p1 (HO.lst [V.int 2147483587, V.int 2147483579, V.int 2147483563, V.int 2147483549, V.int 2147483543, V.int 2147483497, V.int 2147483489])) p (HO.lst [V.int a, V.int y, V.int (c + 1)])) :=
     (cT.upd.trans (aB hp1).x).trans cT.upd
    have tp : bB (upd (upd (upd H p (HO.lst [V.int a, V.int b, V.int (c + 1)])) p1 (HO.lst [V.int 2147483587, V.int 2147483579, V.int 2147483563, V.int 2147483549, V.int 2147483543, V.int 2147483497, V.int 2147483489])) p (HO.lst [V.int a, V.int y, V.int (c + 1)])) p (B + 1) :=
     ⟨a, y, c + 1, aD, ha, e3.1, e3.2, by omega, by omega⟩
    generalize upd (upd (upd H p (HO.lst [V.int a, V.int b, V.int (c + 1)])) p1 (HO.lst [V.int 2147483587, V.int 2147483579, V.int 2147483563, V.int 2147483549, V.int 2147483543, V.int 2147483497, V.int 2147483489])) p (HO.lst [V.int a, V.int y, V.int (c + 1)]) = H2 at sx tp ⊢
    split
    ·refine ⟨hm0, q _ _ (Int.emod_nonneg _ (by omega)) (Int.emod_lt_of_pos _ hm0) sx ?_⟩
     obtain ⟨a', b', c', z1, z2, z3, z4, z5, z6⟩ := tp
     exact ⟨a', b', c', z1, z2, z3, z4, z5, by omega⟩
    ·rename_i hm
     have hm' : 1000000 ≤ m := by
      rw [show (10 : Int) ^ Int.toNat 6 = 1000000 from by decide] at hm
      omega
     have hn3 := hn2 hm'
     refine ⟨.inr (by decide), p, 99991, B + 1, rfl, tp, by omega, by decide, by decide, by omega, fun z => absurd z (by decide), fun r H3 r0 r1 s3 t3 => ?_⟩
     push_cast
     refine ⟨hm0, q _ _ (Int.emod_nonneg _ (by omega)) (Int.emod_lt_of_pos _ hm0) (sx.trans s3) ?_⟩
     obtain ⟨a', b', c', z1, z2, z3, z4, z5, z6⟩ := t3
     exact ⟨a', b', c', z1, z2, z3, z4, z5, by omega⟩
theorem Ci : cX P w K mg base CX0 0 f fd ["_law_tape_here", "_law_many"] (d9 0) := by
 have no : ∀ vs H Q E, ¬ d9 0 vs H Q E := fun vs H Q E h => by
  obtain ⟨p, m, B, _, _, _, _, _, h1, _⟩ := h
  omega
 exact ⟨fun vs H Q E h => absurd h (no vs H Q E), fun A outer s H args us vs Q E _ _ _ _ h => absurd h (no vs H Q E)⟩
abbrev cR : Stmt := top 32
theorem Kw : bh ["_law_found", "_law_due"] ["_law_found", "_law_due"] (aj cR) := ⟨rfl, rfl, rfl, by decide +kernel, rfl, by decide +kernel, by decide +kernel⟩
theorem dB : Nm ["_law_found", "_law_due"] (aj cR) 0 "_law_found" := .of (by decide +kernel)
theorem cY : Nm ["_law_found", "_law_due"] (aj cR) 1 "_law_due" := .of (by decide +kernel)
theorem zJ : (aj cR).names.lookup ("all" : Str) = some .globalImplicit := by decide +kernel
theorem kJ : (aj cR).names.lookup ("bool" : Str) = some .globalImplicit := by decide +kernel
theorem zH : (aj cR).names.lookup ("int" : Str) = some .globalImplicit := by decide +kernel
theorem aQ : (aj cR).names.lookup ("isinstance" : Str) = some .globalImplicit := by decide +kernel
theorem rK : (aj cR).names.lookup ("len" : Str) = some .globalImplicit := by decide +kernel
theorem kI : (aj cR).names.lookup ("list" : Str) = some .globalImplicit := by decide +kernel
theorem mJ : (aj cR).names.lookup ("str" : Str) = some .globalImplicit := by decide +kernel
theorem jB : (aj cR).names.lookup ("tuple" : Str) = some .globalImplicit := by decide +kernel
theorem zG : (aj cR).names.lookup ("zip" : Str) = some .globalImplicit := by decide +kernel
theorem wk : Bn "_law_same" := ⟨by decide +kernel, by decide +kernel⟩
theorem M6 {n : Nat} (hB : ∀ x : Str, x ∈ BLs → mg x = none) (CZSame : Cal P w K mg base "_law_same" n ["_law_found", "_law_due"] (lz n)) (F : Fun K "_law_same" "_law_same" cR f fd) : cX P w K mg base CX0 (n + 1) f fd ["_law_found", "_law_due"] (lz (n + 1)) := by
 refine F.okq Kw (fun vs H Q E h => ?_) (fun cdv A outer s H vs Q E hr h => ?_)
 ·obtain ⟨x, y, ok, d, rfl, _⟩ := h
  rfl
 ·obtain ⟨x, y, ok, d, rfl, tx, ty, hd, q⟩ := h
  refine ⟨_, (aA (cD (dR (bW Eh aQ (hB "isinstance" aV) boot_isinstance aW (ak (au cY) (ak (eU (ak (gb "list" kI (hB "list" vN) boot_list wg) (ak (gb "tuple" jB (hB "tuple" nq) boot_tuple nQ) aq))) aq)))) (aA (cD (qL (jO (bA (iG hr.bL) (bW cg aQ (hB "isinstance" aV) boot_isinstance aW (ak (au dB) (ak (gb "list" kI (hB "list" vN) boot_list wg) aq))) (bW cg aQ (hB "isinstance" aV) boot_isinstance aW (ak (au cY) (ak (gb "list" kI (hB "list" vN) boot_list wg) aq))) (aU _)) (jn (bA (iG hr.bL) (bW cg aQ (hB "isinstance" aV) boot_isinstance aW (ak (au dB) (ak (gb "tuple" jB (hB "tuple" nq) boot_tuple nQ) aq))) (bW cg aQ (hB "isinstance" aV) boot_isinstance aW (ak (au cY) (ak (gb "tuple" jB (hB "tuple" nq) boot_tuple nQ) aq))) (aU _))))) (aG (aM pF)) bI)
   (aA (cD (bA (iG hr.bL) (bW gZ rK (hB "len" kE) PySem.boot_len lg (ak (au dB) aq)) (bW gZ rK (hB "len" kE) PySem.boot_len lg (ak (au cY) aq)) (aU _)) (aG (aM pF)) bI)
   (aG (aM (bW (lH rfl) zJ (hB "all" vP) PyProof.Rows.Boot.«all» wj (ak (jt (NX := ["_law_found", "_law_due"]) (kX := (aj cR).names) ["_law_one", "_law_other"] [none, none] rfl rfl ⟨rfl, by decide +kernel, by decide +kernel, by decide +kernel, by decide +kernel⟩ rfl (Ls zG (hB "zip" Sg) (ak (au dB) (ak (au cY) aq))) (fun _ _ _ _ _ => (jP (n := 2) rfl (bG (fL 0 (show List.Nodup (["_law_one", "_law_other"] : List Str) from by decide +kernel) rfl (Or.inl rfl)) (bG (fL 1 (show List.Nodup (["_law_one", "_law_other"] : List Str) from by decide +kernel) rfl (Or.inl rfl)) gm)))) (fun _ _ _ _ _ => jx) (fun _ _ _ _ _ => (aX CZSame (hr.mono (by omega)) rfl wk (ak (pU 0) (ak (pU 1) aq))))) aq)))))) bI)
   (aA (cD (qL (jO (bA vL (au cY) gF (aU _)) (jn (dR (bW cg aQ (hB "isinstance" aV) boot_isinstance aW (ak (au cY) (ak (gb "str" mJ (hB "str" mD) boot_str mL) aq))))))) (aG (aM (jw (gG (cO hr.bL) (au dB) (au cY) (aU _)) (mq (gG (cO hr.bL) (bW cg aQ (hB "isinstance" aV) boot_isinstance aW (ak (au dB) (ak (gb "str" mJ (hB "str" mD) boot_str mL) aq))) (bW cg aQ (hB "isinstance" aV) boot_isinstance aW (ak (au cY) (ak (gb "str" mJ (hB "str" mD) boot_str mL) aq))) (aU _)))))) bI)
   (aA (cD (dR (bW cg aQ (hB "isinstance" aV) boot_isinstance aW (ak (au cY) (ak (gb "bool" kJ (hB "bool" qm) boot_bool qt) aq)))) (aG (aM (jw (bW cg aQ (hB "isinstance" aV) boot_isinstance aW (ak (au dB) (ak (gb "bool" kJ (hB "bool" qm) boot_bool qt) aq))) (mq (gG (cO hr.bL) (au dB) (au cY) (aU _)))))) bI)
   (aG (aM (jw (bW cg aQ (hB "isinstance" aV) boot_isinstance aW (ak (au dB) (ak (gb "int" zH (hB "int" rE) boot_int sO) aq))) (jw (G4 (bW cg aQ (hB "isinstance" aV) boot_isinstance aW (ak (au dB) (ak (gb "bool" kJ (hB "bool" qm) boot_bool qt) aq)))) (mq (gG (cO hr.bL) (au dB) (au cY) (aU _)))))))))), ?_⟩
  cases tx with
  | non => cases ty; push_cast; exact ⟨bx (by decide), fun t ht => q _ (aB ht)⟩
  | bl b => cases ty; push_cast; exact ⟨bx (by decide), fun t ht => q _ (aB ht)⟩
  | int i => cases ty; push_cast; exact ⟨bx (by decide), fun t ht => q _ (aB ht)⟩
  | str x => cases ty; push_cast; exact ⟨bx (by decide), fun t ht => q _ (aB ht)⟩
  | lst o1 e1 z1 ts1 =>
   rename_i p1 xs1 ds
   cases ty with
   | lst o2 e2 z2 ts2 =>
    rename_i p2 xs2
    have l1 := ts1.length
    have l2 := ts2.length
    push_cast [e1, e2]
    refine ⟨bx (by decide), fun t ht => ?_⟩
    have s1 := aB (o := HO.tup [V.ty "list", V.ty "tuple"]) ht
    have e1 := s1 _ _ e1
    have e2 := s1 _ _ e2
    generalize upd H t (HO.tup [V.ty "list", V.ty "tuple"]) = H1 at s1 e1 e2 ⊢
    push_cast [e1, e2]
    rw [decide_eq_true (show (xs1.length : Int) = (xs2.length : Int) by omega), Bool.not_true, if_neg (by decide)]
    refine gY fun R hR => ?_
    push_cast [e1, e2]
    obtain ⟨Pc, hPc⟩ : ∃ Pv : Nat → List V → L2.St → Hp → Prop, Pv = fun (i : Nat) acc τ H' => ∃ (o0 o1 : Option V), Same H1 H' ∧ acc = (List.replicate i true).map V.bl ∧ τ = [o0, o1] := ⟨_, rfl⟩
    refine Ot hR (xs := xs1) (ys := xs2) (bx z1) (by omega) Pc (by rw [hPc]; exact ⟨_, _, Same.refl _, rfl, rfl⟩) ?_ ?_ ?_ ?_
    ·intro i acc τ H2 pc
     rw [hPc] at pc
     obtain ⟨_, _, _, rfl, _⟩ := pc
     simp
    ·intro i acc τ H2 pc
     rw [hPc] at pc
     obtain ⟨_, _, s2, _, _⟩ := pc
     exact ⟨s2 _ _ e1, s2 _ _ e2⟩
    ·intro i x y acc τ H2 r hx hy pc hr2
     rw [hPc] at pc
     obtain ⟨o0, o1, s2, rfl, rfl⟩ := pc
     obtain ⟨dx, hdx, tx⟩ := ts1.get hx
     obtain ⟨dy, hdy, ty⟩ := ts2.get hy
     rw [hdx] at hdy
     cases hdy
     have s3 := aB (o := HO.tup [x, y]) hr2
     have s13 := (s1.trans s2).trans s3
     push_cast
     refine ⟨x, y, ok, dx, rfl, tx.same s13, ty.same s13, by have := (uN (List.mem_of_getElem? hdx)).1; omega, fun H4 s4 => ?_⟩
     rw [hPc]
     refine ⟨_, _, (s2.trans s3).trans s4, ?_, rfl⟩
     rw [List.replicate_succ', List.map_append]
     rfl
    ·intro acc τ H2 d2 pc hd2
     rw [hPc] at pc
     obtain ⟨o0, o1, s2, rfl, rfl⟩ := pc
     have s3 := s1.trans (s2.trans (aB (o := HO.lst ((List.replicate xs1.length true).map V.bl)) hd2))
     have e3 : upd H2 d2 (HO.lst ((List.replicate xs1.length true).map V.bl)) d2 = _ := aD
     generalize upd H2 d2 (HO.lst ((List.replicate xs1.length true).map V.bl)) = H3 at s3 e3 ⊢
     push_cast [e3]
     refine ⟨_, rfl, ?_⟩
     rw [show (List.replicate xs1.length true).all id = true by simp]
     exact q _ s3
  | tup o1 e1 z1 ts1 =>
   rename_i p1 xs1 ds
   cases ty with
   | tup o2 e2 z2 ts2 =>
    rename_i p2 xs2
    have l1 := ts1.length
    have l2 := ts2.length
    push_cast [e1, e2]
    refine ⟨bx (by decide), fun t ht => ?_⟩
    have s1 := aB (o := HO.tup [V.ty "list", V.ty "tuple"]) ht
    have e1 := s1 _ _ e1
    have e2 := s1 _ _ e2
    generalize upd H t (HO.tup [V.ty "list", V.ty "tuple"]) = H1 at s1 e1 e2 ⊢
    push_cast [e1, e2]
    rw [decide_eq_true (show (xs1.length : Int) = (xs2.length : Int) by omega), Bool.not_true, if_neg (by decide)]
    refine gY fun R hR => ?_
    push_cast [e1, e2]
    obtain ⟨Pc, hPc⟩ : ∃ Pv : Nat → List V → L2.St → Hp → Prop, Pv = fun (i : Nat) acc τ H' => ∃ (o0 o1 : Option V), Same H1 H' ∧ acc = (List.replicate i true).map V.bl ∧ τ = [o0, o1] := ⟨_, rfl⟩
    refine Oq hR (xs := xs1) (ys := xs2) (bx z1) (by omega) Pc (by rw [hPc]; exact ⟨_, _, Same.refl _, rfl, rfl⟩) ?_ ?_ ?_ ?_
    ·intro i acc τ H2 pc
     rw [hPc] at pc
     obtain ⟨_, _, _, rfl, _⟩ := pc
     simp
    ·intro i acc τ H2 pc
     rw [hPc] at pc
     obtain ⟨_, _, s2, _, _⟩ := pc
     exact ⟨s2 _ _ e1, s2 _ _ e2⟩
    ·intro i x y acc τ H2 r hx hy pc hr2
     rw [hPc] at pc
     obtain ⟨o0, o1, s2, rfl, rfl⟩ := pc
     obtain ⟨dx, hdx, tx⟩ := ts1.get hx
     obtain ⟨dy, hdy, ty⟩ := ts2.get hy
     rw [hdx] at hdy
     cases hdy
     have s3 := aB (o := HO.tup [x, y]) hr2
     have s13 := (s1.trans s2).trans s3
     push_cast
     refine ⟨x, y, ok, dx, rfl, tx.same s13, ty.same s13, by have := (uN (List.mem_of_getElem? hdx)).2; omega, fun H4 s4 => ?_⟩
     rw [hPc]
     refine ⟨_, _, (s2.trans s3).trans s4, ?_, rfl⟩
     rw [List.replicate_succ', List.map_append]
     rfl
    ·intro acc τ H2 d2 pc hd2
     rw [hPc] at pc
     obtain ⟨o0, o1, s2, rfl, rfl⟩ := pc
     have s3 := s1.trans (s2.trans (aB (o := HO.lst ((List.replicate xs1.length true).map V.bl)) hd2))
     have e3 : upd H2 d2 (HO.lst ((List.replicate xs1.length true).map V.bl)) d2 = _ := aD
     generalize upd H2 d2 (HO.lst ((List.replicate xs1.length true).map V.bl)) = H3 at s3 e3 ⊢
     push_cast [e3]
     refine ⟨_, rfl, ?_⟩
     rw [show (List.replicate xs1.length true).all id = true by simp]
     exact q _ s3
theorem same_none : cX P w K mg base CX0 0 f fd ["_law_found", "_law_due"] (lz 0) := by
 have no : ∀ vs H Q E, ¬ lz 0 vs H Q E := fun vs H Q E h => by
  obtain ⟨x, y, ok, d, _, _, _, h1, _⟩ := h
  omega
 exact ⟨fun vs H Q E h => absurd h (no vs H Q E), fun A outer s H args us vs Q E _ _ _ _ h => absurd h (no vs H Q E)⟩
abbrev fV : Stmt := top 26
theorem vg : bh ["_law_tape_here", "_law_great", "_law_width"] ["_law_tape_here"] (aj fV) := ⟨rfl, rfl, rfl, by decide +kernel, rfl, by decide +kernel, by decide +kernel⟩
theorem m8 : Nm ["_law_tape_here", "_law_great", "_law_width"] (aj fV) 0 "_law_tape_here" := .of (by decide +kernel)
theorem xO : Nm ["_law_tape_here", "_law_great", "_law_width"] (aj fV) 1 "_law_great" := .of (by decide +kernel)
theorem xM : Nm ["_law_tape_here", "_law_great", "_law_width"] (aj fV) 2 "_law_width" := .of (by decide +kernel)
theorem gn : (aj fV).names.lookup ("_law_take" : Str) = some .globalImplicit := by decide +kernel
theorem Ow : Bn "_law_kind" := ⟨by decide +kernel, by decide +kernel⟩
abbrev fH : Stmt := top 27
theorem Gg : bh ["_law_width", "_law_sign"] ["_law_width", "_law_sign"] (aj fH) := ⟨rfl, rfl, rfl, by decide +kernel, rfl, by decide +kernel, by decide +kernel⟩
theorem Dm : Nm ["_law_width", "_law_sign"] (aj fH) 0 "_law_width" := .of (by decide +kernel)
theorem Dl : Nm ["_law_width", "_law_sign"] (aj fH) 1 "_law_sign" := .of (by decide +kernel)
theorem yq : Bn "_law_least" := ⟨by decide +kernel, by decide +kernel⟩
abbrev bN : Stmt := top 28
theorem oh : bh ["_law_tape_here", "_law_width", "_law_sign", "_law_other", "_law_least_here", "_law_many", "_law_way", "_law_far"] ["_law_tape_here", "_law_width", "_law_sign", "_law_other"] (aj bN) := ⟨rfl, rfl, rfl, by decide +kernel, rfl, by decide +kernel, by decide +kernel⟩
theorem mC : Nm ["_law_tape_here", "_law_width", "_law_sign", "_law_other", "_law_least_here", "_law_many", "_law_way", "_law_far"] (aj bN) 0 "_law_tape_here" := .of (by decide +kernel)
theorem qX : Nm ["_law_tape_here", "_law_width", "_law_sign", "_law_other", "_law_least_here", "_law_many", "_law_way", "_law_far"] (aj bN) 1 "_law_width" := .of (by decide +kernel)
theorem zp : Nm ["_law_tape_here", "_law_width", "_law_sign", "_law_other", "_law_least_here", "_law_many", "_law_way", "_law_far"] (aj bN) 2 "_law_sign" := .of (by decide +kernel)
theorem qW : Nm ["_law_tape_here", "_law_width", "_law_sign", "_law_other", "_law_least_here", "_law_many", "_law_way", "_law_far"] (aj bN) 3 "_law_other" := .of (by decide +kernel)
theorem gO : Nm ["_law_tape_here", "_law_width", "_law_sign", "_law_other", "_law_least_here", "_law_many", "_law_way", "_law_far"] (aj bN) 4 "_law_least_here" := .of (by decide +kernel)
theorem jz : Nm ["_law_tape_here", "_law_width", "_law_sign", "_law_other", "_law_least_here", "_law_many", "_law_way", "_law_far"] (aj bN) 5 "_law_many" := .of (by decide +kernel)
theorem mz : Nm ["_law_tape_here", "_law_width", "_law_sign", "_law_other", "_law_least_here", "_law_many", "_law_way", "_law_far"] (aj bN) 6 "_law_way" := .of (by decide +kernel)
theorem jy : Nm ["_law_tape_here", "_law_width", "_law_sign", "_law_other", "_law_least_here", "_law_many", "_law_way", "_law_far"] (aj bN) 7 "_law_far" := .of (by decide +kernel)
theorem pX : (aj bN).names.lookup ("_law_least" : Str) = some .globalImplicit := by decide +kernel
theorem gW : (aj bN).names.lookup ("_law_take" : Str) = some .globalImplicit := by decide +kernel
theorem vW : (aj bN).names.lookup ("min" : Str) = some .globalImplicit := by decide +kernel
theorem uT : Bn "_law_number" := ⟨by decide +kernel, by decide +kernel⟩
theorem M8 (hB : ∀ x : Str, x ∈ BLs → mg x = none) (CZTake : Cal P w K mg base "_law_take" 2 ["_law_tape_here", "_law_many"] (d9 2)) (F : Fun K "_law_kind" "_law_kind" fV f fd) : cX P w K mg base CX0 3 f fd ["_law_tape_here"] FQ := by
 refine F.okq vg (fun vs H Q E h => ?_) (fun cdv A outer s H vs Q E hr h => ?_)
 ·obtain ⟨p, B, rfl, _⟩ := h
  rfl
 ·obtain ⟨p, B, rfl, tp, hB0, hB1, q⟩ := h
  refine ⟨_, (aA (bV xO vg.nd (gG (cO hr.bL) (aX CZTake (hr.mono (by decide)) gn cj (ak (au m8) (ak ao aq))) ao (aU _)))
   (aA (bV xM vg.nd (jE (dR (au xO)) (aL bT ao (aX CZTake (hr.mono (by decide)) gn cj (ak (au m8) (ak ao aq)))) (aL bT ao (aX CZTake (hr.mono (by decide)) gn cj (ak (au m8) (ak ao aq))))))
   (aG (aM (eU (ak (au xM) (ak (aX CZTake (hr.mono (by decide)) gn cj (ak (au m8) (ak ao aq))) aq))))))), ?_⟩
  have fin : ∀ (gr : Bool) (w : Int) (H1 : Hp), 1 ≤ w → w ≤ 40 → cT p H H1 → bB H1 p (B + 4) →
    Cj (J6 (gA (jl 2) (gA (mR (d9 2) [] E0 (gA (jl 0) (gA (tC (V.int 2)) sY))) sY))) { nx := fun x H' => Q V.non H', rt := Q } [some (.ref p), some (.bl gr), some (.int w)] H1 := by
   intro gr w H1 h1 h2 s1 t1
   push_cast
   refine ⟨p, 2, B + 4, rfl, t1, by show B + 4 + 2 ≤ 1000100; omega, by decide, by decide, by decide, fun z => absurd z (by decide), fun r H2 r0 r1 s2 t2 => ?_⟩
   push_cast
   refine ⟨bx (by decide), fun t ht => q w r t _ h1 h2 (by omega) ((s1.trans s2).trans (aB ht).x) ((t2.same (aB ht)).le (by show B + 4 + 2 ≤ B + 10; omega)) aD⟩
  refine aP fun k hk => ?_
  push_cast
  refine ⟨p, 8, B, rfl, tp, by show B + 2 ≤ 1000100; omega, by decide, by decide, by decide, fun z => absurd z (by decide), fun r1 H1 r10 r11 s1 t1 => ?_⟩
  push_cast
  subst hk
  refine aP fun k hk => ?_
  push_cast
  have u1 : bB H1 p (B + 2) := t1
  split
  ·refine ⟨p, 33, B + 2, rfl, u1, by show B + 2 + 2 ≤ 1000100; omega, by decide, by decide, by decide, fun z => absurd z (by decide), fun r2 H2 r20 r21 s2 t2 => ?_⟩
   push_cast
   subst hk
   exact fin _ _ _ (by omega) (by omega) (s1.trans s2) (t2.le (by show B + 2 + 2 ≤ B + 4; omega))
  ·refine ⟨p, 7, B + 2, rfl, u1, by show B + 2 + 2 ≤ 1000100; omega, by decide, by decide, by decide, fun z => absurd z (by decide), fun r2 H2 r20 r21 s2 t2 => ?_⟩
   push_cast
   subst hk
   exact fin _ _ _ (by omega) (by omega) (s1.trans s2) (t2.le (by show B + 2 + 2 ≤ B + 4; omega))
theorem Hz (F : Fun K "_law_least" "_law_least" fH f fd) : cX P w K mg base CX0 1 f fd ["_law_width", "_law_sign"] qH := by
 refine F.okq Gg (fun vs H Q E h => ?_) (fun cdv A outer s H vs Q E hr h => ?_)
 ·obtain ⟨w, s, rfl, _⟩ := h
  rfl
 ·obtain ⟨w, s, rfl, h1, h2, hs, q⟩ := h
  refine ⟨_, (aG (aM (aL fC ao (aL fM (aL fW ao (aL fC (au Dm) ao)) (au Dl))))), ?_⟩
  unfold wl at q
  push_cast
  refine ⟨⟨by omega, by omega, by decide⟩, .inr (by omega), ?_⟩
  rw [Int.one_mul]
  exact q
theorem RZ (hB : ∀ x : Str, x ∈ BLs → mg x = none) (CZTake : Cal P w K mg base "_law_take" 2 ["_law_tape_here", "_law_many"] (d9 2)) (CZLeast : Cal P w K mg base "_law_least" 1 ["_law_width", "_law_sign"] qH) (F : Fun K "_law_number" "_law_number" bN f fd) : cX P w K mg base CX0 3 f fd ["_law_tape_here", "_law_width", "_law_sign", "_law_other"] Pa := by
 refine F.okq oh (fun vs H Q E h => ?_) (fun cdv A outer s H vs Q E hr h => ?_)
 ·obtain ⟨p, w, s, o, B, rfl, _⟩ := h
  rfl
 ·obtain ⟨p, w, s, o, B, rfl, tp, hB0, hB1, hw1, hw2, hs, q⟩ := h
  refine ⟨_, (aA (vD (i := 4) (j := 5) rfl oh.nd rfl rfl (by decide) rfl rfl (ak (aX CZLeast (hr.mono (by decide)) pX yq (ak (au qX) (ak (au zp) aq))) (ak (aL fW ao (au qX)) aq)) (by rfl))
   (aA (vD (i := 6) (j := 7) rfl oh.nd rfl rfl (by decide) rfl rfl (ak (aX CZTake (hr.mono (by decide)) gW cj (ak (au mC) (ak ao aq))) (ak (aX CZTake (hr.mono (by decide)) gW cj (ak (au mC) (ak (bW (pB rfl) vW (hB "min" zy) boot_min zP (ak (au jz) (ak ao aq))) aq))) aq)) (by rfl))
   (aA (cD (bA (cO hr.bL) (au mz) ao (aU _)) (aG (aM (aL bT (au gO) (au jy)))) bI)
   (aA (cD (bA (cO hr.bL) (au mz) ao (aU _)) (aG (aM (aL fC (aL fC (aL bT (au gO) (au jz)) ao) (au jy)))) bI)
   (aA (cD (qL (GX (bA (cO hr.bL) (au mz) ao (aU _)) (Ao (xj gh pG (au gO) (aL bT (au qW) (au jy)) (aL bT (au gO) (au jz)))))) (aG (aM (aL bT (au qW) (au jy)))) bI)
   (aG (aM (aL bT (au gO) (aX CZTake (hr.mono (by decide)) gW cj (ak (au mC) (ak (au jz) aq))))))))))), ?_⟩
  have p1 := two_pow_pos w.toNat
  have p2 := iY (k := w.toNat) (by omega)
  have p3 : (2 : Int) ≤ 2 ^ w.toNat := by
   have e := oX hw1
   have := two_pow_pos (w - 1).toNat
   omega
  have b1 := nY hw1 hw2 hs
  refine aP fun k hk => ?_
  push_cast
  refine ⟨w, s, rfl, hw1, hw2, hs, ?_⟩
  push_cast
  refine ⟨⟨by omega, by omega, by decide⟩, ?_⟩
  subst hk
  rw [Int.one_mul]
  refine aP fun k hk => ?_
  push_cast
  refine ⟨p, 5, B, rfl, tp, by show B + 2 ≤ 1000100; omega, by decide, by decide, by decide, fun z => absurd z (by decide), fun r1 H1 r10 r11 s1 t1 => ?_⟩
  push_cast
  have m6 : (0 : Int) < (if (6 : Int) < (2 : Int) ^ w.toNat then (6 : Int) else (2 : Int) ^ w.toNat) ∧ (if (6 : Int) < (2 : Int) ^ w.toNat then (6 : Int) else (2 : Int) ^ w.toNat) ≤ (2 : Int) ^ w.toNat := by
   split <;> omega
  refine ⟨p, (if (6 : Int) < (2 : Int) ^ w.toNat then (6 : Int) else (2 : Int) ^ w.toNat), B + 2, rfl, t1, by show B + 2 + 2 ≤ 1000100; omega, m6.1, by omega, by decide, fun _ => by decide, fun r2 H2 r20 r21 s2 t2 => ?_⟩
  push_cast
  subst hk
  have s12 := s1.trans s2
  have t12 : bB H2 p (B + 10) := t2.le (by show B + 2 + 2 ≤ B + 10; omega)
  have fin : Cj (tOp uy (jl 4) (mR (d9 2) [] E0 (gA (jl 0) (gA (jl 5) sY)))) { nx := fun x H' => Q V.non H', rt := Q } [some (.ref p), some (.int w), some (.int s), some (.int o), some (.int (wl w s)), some (.int (2 ^ w.toNat)), some (.int r1), some (.int r2)] H2 := by
   push_cast
   refine ⟨p, 2 ^ w.toNat, B + 2 + 2, rfl, t2, by show B + 2 + 2 + 2 ≤ 1000100; omega, p1, by omega, by decide, fun _ => by decide, fun r3 H3 r30 r31 s3 t3 => ?_⟩
   push_cast
   exact q _ _ (by omega) (by omega) (s12.trans s3) (t3.le (by show B + 2 + 2 + 2 ≤ B + 10; omega))
  refine aP fun k hk => ?_
  push_cast
  split
  ·exact q _ _ (by omega) (by omega) s12 t12
  subst hk
  refine aP fun k hk => ?_
  push_cast
  split
  ·exact q _ _ (by omega) (by omega) s12 t12
  subst hk
  refine aP fun k hk => ?_
  push_cast
  split
  ·split
   ·split
    ·exact q _ _ (by omega) (by omega) s12 t12
    ·subst hk
     exact fin
   ·subst hk
    exact fin
  ·subst hk
   exact fin
abbrev dO : Stmt := top 29
theorem mX : bh ["_law_tape_here", "_law_width", "_law_way", "_law_top", "_law_mask_here", "_law_turn"] ["_law_tape_here", "_law_width"] (aj dO) := ⟨rfl, rfl, rfl, by decide +kernel, rfl, by decide +kernel, by decide +kernel⟩
theorem jd : Nm ["_law_tape_here", "_law_width", "_law_way", "_law_top", "_law_mask_here", "_law_turn"] (aj dO) 0 "_law_tape_here" := .of (by decide +kernel)
theorem jc : Nm ["_law_tape_here", "_law_width", "_law_way", "_law_top", "_law_mask_here", "_law_turn"] (aj dO) 1 "_law_width" := .of (by decide +kernel)
theorem xK : Nm ["_law_tape_here", "_law_width", "_law_way", "_law_top", "_law_mask_here", "_law_turn"] (aj dO) 2 "_law_way" := .of (by decide +kernel)
theorem xJ : Nm ["_law_tape_here", "_law_width", "_law_way", "_law_top", "_law_mask_here", "_law_turn"] (aj dO) 3 "_law_top" := .of (by decide +kernel)
theorem jW : Nm ["_law_tape_here", "_law_width", "_law_way", "_law_top", "_law_mask_here", "_law_turn"] (aj dO) 4 "_law_mask_here" := .of (by decide +kernel)
theorem HY : Nm ["_law_tape_here", "_law_width", "_law_way", "_law_top", "_law_mask_here", "_law_turn"] (aj dO) 5 "_law_turn" := .of (by decide +kernel)
theorem dJ : (aj dO).names.lookup ("_law_take" : Str) = some .globalImplicit := by decide +kernel
theorem vX : (aj dO).names.lookup ("range" : Str) = some .globalImplicit := by decide +kernel
theorem Ov : Bn "_law_mask" := ⟨by decide +kernel, by decide +kernel⟩
abbrev cH : Stmt := top 30
theorem lA : bh ["_law_tape_here", "_law_width", "_law_sign", "_law_other", "_law_way", "_law_one", "_law_two", "_law_mask_here", "_law_value"] ["_law_tape_here", "_law_width", "_law_sign", "_law_other"] (aj cH) := ⟨rfl, rfl, rfl, by decide +kernel, rfl, by decide +kernel, by decide +kernel⟩
theorem je : Nm ["_law_tape_here", "_law_width", "_law_sign", "_law_other", "_law_way", "_law_one", "_law_two", "_law_mask_here", "_law_value"] (aj cH) 0 "_law_tape_here" := .of (by decide +kernel)
theorem m9 : Nm ["_law_tape_here", "_law_width", "_law_sign", "_law_other", "_law_way", "_law_one", "_law_two", "_law_mask_here", "_law_value"] (aj cH) 1 "_law_width" := .of (by decide +kernel)
theorem xP : Nm ["_law_tape_here", "_law_width", "_law_sign", "_law_other", "_law_way", "_law_one", "_law_two", "_law_mask_here", "_law_value"] (aj cH) 2 "_law_sign" := .of (by decide +kernel)
theorem Ia : Nm ["_law_tape_here", "_law_width", "_law_sign", "_law_other", "_law_way", "_law_one", "_law_two", "_law_mask_here", "_law_value"] (aj cH) 3 "_law_other" := .of (by decide +kernel)
theorem rz : Nm ["_law_tape_here", "_law_width", "_law_sign", "_law_other", "_law_way", "_law_one", "_law_two", "_law_mask_here", "_law_value"] (aj cH) 4 "_law_way" := .of (by decide +kernel)
theorem jX : Nm ["_law_tape_here", "_law_width", "_law_sign", "_law_other", "_law_way", "_law_one", "_law_two", "_law_mask_here", "_law_value"] (aj cH) 5 "_law_one" := .of (by decide +kernel)
theorem rm : Nm ["_law_tape_here", "_law_width", "_law_sign", "_law_other", "_law_way", "_law_one", "_law_two", "_law_mask_here", "_law_value"] (aj cH) 6 "_law_two" := .of (by decide +kernel)
theorem qZ : Nm ["_law_tape_here", "_law_width", "_law_sign", "_law_other", "_law_way", "_law_one", "_law_two", "_law_mask_here", "_law_value"] (aj cH) 7 "_law_mask_here" := .of (by decide +kernel)
theorem qY : Nm ["_law_tape_here", "_law_width", "_law_sign", "_law_other", "_law_way", "_law_one", "_law_two", "_law_mask_here", "_law_value"] (aj cH) 8 "_law_value" := .of (by decide +kernel)
theorem vY : (aj cH).names.lookup ("_law_mask" : Str) = some .globalImplicit := by decide +kernel
theorem kO : (aj cH).names.lookup ("_law_number" : Str) = some .globalImplicit := by decide +kernel
theorem jC : (aj cH).names.lookup ("_law_take" : Str) = some .globalImplicit := by decide +kernel
theorem zL : (aj cH).names.lookup ("max" : Str) = some .globalImplicit := by decide +kernel
theorem zK : (aj cH).names.lookup ("min" : Str) = some .globalImplicit := by decide +kernel
theorem Ox : Bn "_law_item" := ⟨by decide +kernel, by decide +kernel⟩
theorem Ax (hB : ∀ x : Str, x ∈ BLs → mg x = none) (CZTake : Cal P w K mg base "_law_take" 2 ["_law_tape_here", "_law_many"] (d9 2)) (F : Fun K "_law_mask" "_law_mask" dO f fd) : cX P w K mg base CX0 3 f fd ["_law_tape_here", "_law_width"] FP := by
 refine F.okq mX (fun vs H Q E h => ?_) (fun cdv A outer s H vs Q E hr h => ?_)
 ·obtain ⟨p, w, B, rfl, _⟩ := h
  rfl
 ·obtain ⟨p, w, B, rfl, tp, hB0, hB1, hw1, hw2, q⟩ := h
  refine ⟨_, (aA (cD (bA pG (au jc) ao (aU _)) (aG (aM (aX CZTake (hr.mono (by decide)) dJ cj (ak (au jd) (ak (aL fW ao (au jc)) aq))))) bI)
   (aA (vD (i := 2) (j := 3) rfl mX.nd rfl rfl (by decide) rfl rfl (ak (aX CZTake (hr.mono (by decide)) dJ cj (ak (au jd) (ak ao aq))) (ak (aL bT ao (aX CZTake (hr.mono (by decide)) dJ cj (ak (au jd) (ak ao aq)))) aq)) (by rfl))
   (aA (cD (bA (cO hr.bL) (au xK) ao (aU _)) (aG (aM (aL fW (aX CZTake (hr.mono (by decide)) dJ cj (ak (au jd) (ak ao aq))) (aL fC (au jc) ao)))) bI)
   (aA (bV jW mX.nd (jE (bA (cO hr.bL) (au xK) ao (aU _)) (aL fW (aL fC (aL fW ao (au xJ)) ao) (aL fC (au jc) (au xJ))) (aL fC (aL fW ao (au jc)) ao)))
   (aA (jq PassesOwn.never rfl (iV vX (hB "range" kj) (ak (aX CZTake (hr.mono (by decide)) dJ cj (ak (au jd) (ak ao aq))) aq)) (cP HY mX.nd)
   (aG (bV jW mX.nd (aL fC (au jW) (aL Hv (au jW) (aL fW ao (aX CZTake (hr.mono (by decide)) dJ cj (ak (au jd) (ak (au jc) aq)))))))))
   (aG (aM (au jW)))))))), ?_⟩
  have p1 := two_pow_pos w.toNat
  have p2 := iY (k := w.toNat) (by omega)
  refine aP fun k hk => ?_
  push_cast [Int.one_mul]
  split
  ·rename_i c
   refine ⟨⟨by omega, by omega, by decide⟩, p, 2 ^ w.toNat, B, rfl, tp, by show B + 2 ≤ 1000100; omega, p1, by omega, by decide, fun _ => by decide, fun r H1 r0 r1 s1 t1 => ?_⟩
   obtain ⟨n, rfl⟩ := Int.eq_ofNat_of_zero_le r0
   exact q n H1 (Il r1) (fun z => by omega) s1 (t1.le (by show B + 2 ≤ B + 20; omega))
  rename_i c
  subst hk
  refine aP fun k hk => ?_
  push_cast
  refine ⟨p, 3, B, rfl, tp, by show B + 2 ≤ 1000100; omega, by decide, by decide, by decide, fun z => absurd z (by decide), fun r1 H1 r10 r11 s1 t1 => ?_⟩
  push_cast
  refine ⟨p, 4, B + 2, rfl, t1, by show B + 2 + 2 ≤ 1000100; omega, by decide, by decide, by decide, fun z => absurd z (by decide), fun r2 H2 r20 r21 s2 t2 => ?_⟩
  push_cast
  subst hk
  have s12 := s1.trans s2
  refine aP fun k hk => ?_
  push_cast
  split
  ·refine ⟨p, 16, B + 2 + 2, rfl, t2, by show B + 2 + 2 + 2 ≤ 1000100; omega, by decide, by decide, by decide, fun z => absurd z (by decide), fun r3 H3 r30 r31 s3 t3 => ?_⟩
   obtain ⟨n, rfl⟩ := Int.eq_ofNat_of_zero_le r30
   push_cast
   refine ⟨⟨by omega, by omega, by omega⟩, ?_⟩
   obtain ⟨m, e, hm⟩ := Ni (W := w.toNat) (r := n) (by omega) (by omega)
   rw [show (w - 4).toNat = w.toNat - 4 by omega, e]
   exact q m H3 hm.1 (fun _ => hm.frees) (s12.trans s3) (t3.le (by show B + 2 + 2 + 2 ≤ B + 20; omega))
  subst hk
  have go : ∀ (b m : Nat), qg w.toNat b m 0 → Fg
     (J8 (pK (gA (mR (d9 2) [] E0 (gA (jl 0) (gA (tC (V.int 4)) sY))) sY)) (jh 5)
      (sZ (tOp (rI0 fun i j => V.int (i - j)) (jl 4)
        (tOp (rI0 fun i j => V.int (Builtin.bitAnd i j)) (jl 4)
         (tOp (rI O6 fun i j => V.int (i * 2 ^ j.toNat)) (tC (V.int 1))
          (mR (d9 2) [] E0 (gA (jl 0) (gA (jl 1) sY)))))) (jh 4)))
     (Cj (jl 4)) { nx := fun x H' => Q V.non H', rt := Q } [some (V.ref p), some (V.int w), some (V.int r1), some (V.int (5 + r2)), some (V.int m), none] H2 := by
   intro b m hm
   refine aP fun k hk => ?_
   refine nH fun R hR => ?_
   push_cast [pK]
   refine ⟨p, 4, B + 2 + 2, rfl, t2, by show B + 2 + 2 + 2 ≤ 1000100; omega, by decide, by decide, by decide, fun z => absurd z (by decide), fun r3 H3 r30 r31 s3 t3 => ?_⟩
   push_cast
   have u3 : bB H3 p (B + 6) := t3.le (by show B + 2 + 2 + 2 ≤ B + 6; omega)
   obtain ⟨Pv, hPv⟩ : ∃ Pv : Nat → L2.St → Hp → Prop, Pv = fun (i : Nat) σ H' => ∃ (m : Nat) (o5 : Option V), cT p H H' ∧ bB H' p (B + 6 + 2 * (i : Int)) ∧ qg w.toNat b m i ∧ σ = [some (V.ref p), some (V.int w), some (V.int r1), some (V.int (5 + r2)), some (V.int m), o5] := ⟨_, rfl⟩
   refine ⟨by omega, by omega, yd hR Pv (by rw [hPv]; exact ⟨m, none, s12.trans s3, by simpa using u3, hm, rfl⟩) ?_ ?_⟩
   ·intro i σ H4 hi pv
    rw [hPv] at pv
    obtain ⟨m4, o5, s4, t4, hm4, rfl⟩ := pv
    push_cast
    refine ⟨p, w, B + 6 + 2 * (i : Int), rfl, t4, by show B + 6 + 2 * (i : Int) + 2 ≤ 1000100; omega, by omega, by omega, by decide, fun _ => by decide, fun r5 H5 r50 r51 s5 t5 => ?_⟩
    push_cast [Int.one_mul]
    obtain ⟨m5, e5, hm5⟩ := R9 hm4 r5.toNat
    refine ⟨⟨by omega, by omega, by decide⟩, ?_⟩
    rw [e5, hPv]
    exact ⟨m5, _, s4.trans s5, t5.le (by show B + 6 + 2 * (i : Int) + 2 ≤ B + 6 + 2 * ((i + 1 : Nat) : Int); omega), hm5, rfl⟩
   ·intro σ H4 pv
    rw [hPv] at pv
    obtain ⟨m4, o5, s4, t4, hm4, rfl⟩ := pv
    show k _ _
    subst hk
    push_cast
    have hm9 := hm4.le (j := 4) (by omega)
    exact q m4 H4 hm9.1 (fun _ => hm9.frees) s4 (t4.le (by omega))
  refine aP fun k hk => ?_
  push_cast [Int.one_mul]
  split
  ·refine ⟨⟨by omega, by omega, by decide⟩, ⟨by omega, by omega, ?_⟩, ?_⟩
   ·have a1 := iY (k := (5 + r2).toNat) (by omega)
    have a2 := two_pow_pos (5 + r2).toNat
    omega
   obtain ⟨m, e, hm⟩ := R8 (W := w.toNat) (T := (5 + r2).toNat) (by omega)
   rw [show (w - (5 + r2)).toNat = w.toNat - (5 + r2).toNat by omega, e]
   subst hk
   exact go _ m hm
  ·refine ⟨⟨by omega, by omega, by decide⟩, ?_⟩
   obtain ⟨m, e, hm⟩ := Sd w.toNat
   rw [e]
   subst hk
   exact go _ m hm
theorem M9 (hB : ∀ x : Str, x ∈ BLs → mg x = none) (CZTake : Cal P w K mg base "_law_take" 2 ["_law_tape_here", "_law_many"] (d9 2)) (CZNumber : Cal P w K mg base "_law_number" 3 ["_law_tape_here", "_law_width", "_law_sign", "_law_other"] Pa) (CZMask : Cal P w K mg base "_law_mask" 3 ["_law_tape_here", "_law_width"] FP) (F : Fun K "_law_item" "_law_item" cH f fd) : cX P w K mg base CX0 4 f fd ["_law_tape_here", "_law_width", "_law_sign", "_law_other"] FT := by
 refine F.okq lA (fun vs H Q E h => ?_) (fun cdv A outer s H vs Q E hr h => ?_)
 ·obtain ⟨p, w, s, o, B, rfl, _⟩ := h
  rfl
 ·obtain ⟨p, w, s, o, B, rfl, tp, hB0, hB1, hw1, hw2, hs, q⟩ := h
  refine ⟨_, (aA (bV rz lA.nd (aX CZTake (hr.mono (by decide)) jC cj (ak (au je) (ak ao aq))))
   (aA (bV jX lA.nd (aX CZNumber (hr.mono (by decide)) kO uT (ak (au je) (ak (au m9) (ak (au xP) (ak (au Ia) aq))))))
   (aA (cD (bA pG (au rz) ao (aU _)) (aG (aM (eU (ak aZ (ak (au jX) aq))))) bI)
   (aA (bV rm lA.nd (aX CZNumber (hr.mono (by decide)) kO uT (ak (au je) (ak (au m9) (ak (au xP) (ak (au jX) aq))))))
   (aA (cD (bA pG (au rz) ao (aU _)) (aG (aM (eU (ak aZ (ak (bW (pB rfl) zK (hB "min" zy) boot_min zP (ak (au jX) (ak (au rm) aq))) (ak (bW (Ec rfl) zL (hB "max" Sh) boot_max Tp (ak (au jX) (ak (au rm) aq))) aq)))))) bI)
   (aA (bV qZ lA.nd (aX CZMask (hr.mono (by decide)) vY Ov (ak (au je) (ak (au m9) aq))))
   (aA (bV qY lA.nd (aX CZTake (hr.mono (by decide)) jC cj (ak (au je) (ak (aL fW ao (au m9)) aq))))
   (aG (aM (eU (ak aZ (ak (au qZ) (ak (jE (bA Pu (aX CZTake (hr.mono (by decide)) jC cj (ak (au je) (ak ao aq))) ao (aU _)) (aL Hv (au qY) (au qZ)) (au qY)) aq))))))))))))), ?_⟩
  have p1 := two_pow_pos w.toNat
  have p2 := iY (k := w.toNat) (by omega)
  refine aP fun k hk => ?_
  push_cast
  refine ⟨p, 5, B, rfl, tp, by show B + 2 ≤ 1000100; omega, by decide, by decide, by decide, fun z => absurd z (by decide), fun r1 H1 r10 r11 s1 t1 => ?_⟩
  push_cast
  subst hk
  refine aP fun k hk => ?_
  push_cast
  have u1 : bB H1 p (B + 2) := t1
  refine ⟨p, w, s, o, B + 2, rfl, u1, by omega, by omega, hw1, hw2, hs, fun a H2 a0 a1 s2 t2 => ?_⟩
  push_cast
  subst hk
  have s12 := s1.trans s2
  refine aP fun k hk => ?_
  push_cast
  split
  ·refine ⟨bx (by decide), fun t ht => q (.one a) t _ ⟨a0, a1⟩ (s12.trans (aB ht).x) ((t2.same (aB ht)).le (by omega)) ⟨aD⟩⟩
  subst hk
  refine aP fun k hk => ?_
  push_cast
  refine ⟨p, w, s, a, B + 2 + 10, rfl, t2, by omega, by omega, hw1, hw2, hs, fun b H3 b0 b1 s3 t3 => ?_⟩
  push_cast
  subst hk
  have s123 := s12.trans s3
  refine aP fun k hk => ?_
  push_cast
  split
  ·refine ⟨bx (by decide), fun t ht => q (.rng (if b < a then b else a) (if b > a then b else a)) t _ ⟨?_, ?_, ?_⟩ (s123.trans (aB ht).x) ((t3.same (aB ht)).le (by omega)) ⟨aD⟩⟩
   ·unfold fX; split <;> omega
   ·unfold fX; split <;> omega
   ·split <;> split <;> omega
  subst hk
  refine aP fun k hk => ?_
  push_cast
  refine ⟨p, w, B + 2 + 10 + 10, rfl, t3, by omega, by omega, hw1, hw2, fun m H4 hm hf s4 t4 => ?_⟩
  push_cast
  subst hk
  refine aP fun k hk => ?_
  push_cast [Int.one_mul]
  refine ⟨⟨by omega, by omega, by decide⟩, p, 2 ^ w.toNat, B + 2 + 10 + 10 + 20, rfl, t4, by show B + 2 + 10 + 10 + 20 + 2 ≤ 1000100; omega, p1, by omega, by decide, fun _ => by decide, fun r5 H5 r50 r51 s5 t5 => ?_⟩
  obtain ⟨v, rfl⟩ := Int.eq_ofNat_of_zero_le r50
  have hv := Il r51
  subst hk
  push_cast
  refine ⟨p, 5, B + 2 + 10 + 10 + 20 + 2, rfl, t5, by show B + 2 + 10 + 10 + 20 + 2 + 2 ≤ 1000100; omega, by decide, by decide, by decide, fun z => absurd z (by decide), fun r6 H6 r60 r61 s6 t6 => ?_⟩
  push_cast
  have s456 := ((s123.trans s4).trans s5).trans s6
  split
  ·refine ⟨bx (by decide), fun t ht => ?_⟩
   refine q (.bits m (v &&& m)) t _ ⟨hm, Nat.lt_of_le_of_lt Nat.and_le_right hm, hf⟩ (s456.trans (aB ht).x) ((t6.same (aB ht)).le (by show B + 2 + 10 + 10 + 20 + 2 + 2 ≤ B + 60; omega)) ⟨?_⟩
   rw [aD, sS]
   rfl
  ·refine ⟨bx (by decide), fun t ht => ?_⟩
   exact q (.bits m v) t _ ⟨hm, hv, hf⟩ (s456.trans (aB ht).x) ((t6.same (aB ht)).le (by show B + 2 + 10 + 10 + 20 + 2 + 2 ≤ B + 60; omega)) ⟨aD⟩
abbrev aJ : Stmt := top 31
theorem bH : bh ["_law_tape_here", "_law_width", "_law_sign", "_law_great", "_law_cases", "_law_other", "_law_many", "_law_k", "_law_items", "_law_turn", "_law_item_here"] ["_law_tape_here"] (aj aJ) := ⟨rfl, rfl, rfl, by decide +kernel, rfl, by decide +kernel, by decide +kernel⟩
theorem dw : Nm ["_law_tape_here", "_law_width", "_law_sign", "_law_great", "_law_cases", "_law_other", "_law_many", "_law_k", "_law_items", "_law_turn", "_law_item_here"] (aj aJ) 0 "_law_tape_here" := .of (by decide +kernel)
theorem dm : Nm ["_law_tape_here", "_law_width", "_law_sign", "_law_great", "_law_cases", "_law_other", "_law_many", "_law_k", "_law_items", "_law_turn", "_law_item_here"] (aj aJ) 1 "_law_width" := .of (by decide +kernel)
theorem eY : Nm ["_law_tape_here", "_law_width", "_law_sign", "_law_great", "_law_cases", "_law_other", "_law_many", "_law_k", "_law_items", "_law_turn", "_law_item_here"] (aj aJ) 2 "_law_sign" := .of (by decide +kernel)
theorem gM : Nm ["_law_tape_here", "_law_width", "_law_sign", "_law_great", "_law_cases", "_law_other", "_law_many", "_law_k", "_law_items", "_law_turn", "_law_item_here"] (aj aJ) 3 "_law_great" := .of (by decide +kernel)
theorem jT : Nm ["_law_tape_here", "_law_width", "_law_sign", "_law_great", "_law_cases", "_law_other", "_law_many", "_law_k", "_law_items", "_law_turn", "_law_item_here"] (aj aJ) 4 "_law_cases" := .of (by decide +kernel)
theorem eX : Nm ["_law_tape_here", "_law_width", "_law_sign", "_law_great", "_law_cases", "_law_other", "_law_many", "_law_k", "_law_items", "_law_turn", "_law_item_here"] (aj aJ) 5 "_law_other" := .of (by decide +kernel)
theorem gK : Nm ["_law_tape_here", "_law_width", "_law_sign", "_law_great", "_law_cases", "_law_other", "_law_many", "_law_k", "_law_items", "_law_turn", "_law_item_here"] (aj aJ) 6 "_law_many" := .of (by decide +kernel)
theorem qR : Nm ["_law_tape_here", "_law_width", "_law_sign", "_law_great", "_law_cases", "_law_other", "_law_many", "_law_k", "_law_items", "_law_turn", "_law_item_here"] (aj aJ) 7 "_law_k" := .of (by decide +kernel)
theorem dj : Nm ["_law_tape_here", "_law_width", "_law_sign", "_law_great", "_law_cases", "_law_other", "_law_many", "_law_k", "_law_items", "_law_turn", "_law_item_here"] (aj aJ) 8 "_law_items" := .of (by decide +kernel)
theorem qQ : Nm ["_law_tape_here", "_law_width", "_law_sign", "_law_great", "_law_cases", "_law_other", "_law_many", "_law_k", "_law_items", "_law_turn", "_law_item_here"] (aj aJ) 9 "_law_turn" := .of (by decide +kernel)
theorem dZ : Nm ["_law_tape_here", "_law_width", "_law_sign", "_law_great", "_law_cases", "_law_other", "_law_many", "_law_k", "_law_items", "_law_turn", "_law_item_here"] (aj aJ) 10 "_law_item_here" := .of (by decide +kernel)
theorem mH : (aj aJ).names.lookup ("_law_item" : Str) = some .globalImplicit := by decide +kernel
theorem mG : (aj aJ).names.lookup ("_law_kind" : Str) = some .globalImplicit := by decide +kernel
theorem lJ : (aj aJ).names.lookup ("_law_least" : Str) = some .globalImplicit := by decide +kernel
theorem eG : (aj aJ).names.lookup ("_law_take" : Str) = some .globalImplicit := by decide +kernel
theorem oY : (aj aJ).names.lookup ("int" : Str) = some .globalImplicit := by decide +kernel
theorem gU : (aj aJ).names.lookup ("range" : Str) = some .globalImplicit := by decide +kernel
theorem tY : Bn "_law_wild_choice" := ⟨by decide +kernel, by decide +kernel⟩
theorem M4 (hB : ∀ x : Str, x ∈ BLs → mg x = none) (CZTake : Cal P w K mg base "_law_take" 2 ["_law_tape_here", "_law_many"] (d9 2)) (CZKind : Cal P w K mg base "_law_kind" 3 ["_law_tape_here"] FQ) (CZLeast : Cal P w K mg base "_law_least" 1 ["_law_width", "_law_sign"] qH) (CZItem : Cal P w K mg base "_law_item" 4 ["_law_tape_here", "_law_width", "_law_sign", "_law_other"] FT)
  (F : Fun K "_law_wild_choice" "_law_wild_choice" aJ f fd) : cX P w K mg base CX0 5 f fd ["_law_tape_here"] FJ := by
 refine F.okq bH (fun vs H Q E h => ?_) (fun cdv A outer s H vs Q E hr h => ?_)
 ·obtain ⟨p, B, rfl, _⟩ := h
  rfl
 ·obtain ⟨p, B, rfl, tp, hB0, hB1, q⟩ := h
  refine ⟨_, (aA (iz (aX CZKind (hr.mono (by decide)) mG Ow (ak (au dw) aq)) (jP (n := 2) rfl (bG (cP dm bH.nd) (bG (cP eY bH.nd) gm))))
   (aA (bV gM bH.nd (gG (cO hr.bL) (aX CZTake (hr.mono (by decide)) eG cj (ak (au dw) (ak ao aq))) ao (aU _)))
   (aA (Lq (i := 4) (j := 5) (k := 6) rfl bH.nd rfl rfl rfl (by decide) (by decide) (by decide) rfl rfl rfl (ak (iB aq) (ak (aX CZLeast (hr.mono (by decide)) lJ yq (ak (au dm) (ak (au eY) aq))) (ak ao aq))) (by rfl))
   (aA (jq PassesOwn.never rfl (iV gU (hB "range" kj) (ak (aX CZTake (hr.mono (by decide)) eG cj (ak (au dw) (ak (jE (dR (au gM)) ao ao) aq))) aq)) (cP qR bH.nd)
   (aA (bV dj bH.nd (iB aq))
   (aA (jq PassesOwn.never rfl (iV gU (hB "range" kj) (ak (aX CZTake (hr.mono (by decide)) eG cj (ak (au dw) (ak (jE (dR (au gM)) ao ao) aq))) aq)) (cP qQ bH.nd)
   (aA (bV dZ bH.nd (aX CZItem (hr.mono (by decide)) mH Ox (ak (au dw) (ak (au dm) (ak (au eY) (ak (au eX) aq))))))
   (aA (bV gK bH.nd (aL bT (au gK) (qN sI oY (hB "int" rE) boot_int sO (ak (gG (cO hr.bL) (bR dI (au dZ) ao (fun _ _ => rfl)) aZ (aU _)) aq))))
   (aA (jr (ju (au dj) (jE (qL (jO (bA pG (au dm) ao (aU _)) (jO (bA pG (au gK) ao (aU _)) (jn (bA (iG hr.bL) (bR dI (au dZ) ao (fun _ _ => rfl)) aZ (aU _)))))) (au dZ) (eU (ak aZ (ak (au eX) aq))))))
   (aG (bV eX bH.nd (jE (bA (iG hr.bL) (bR dI (bR dI (au dj) (G3 yD ao) (fun _ _ => rfl)) ao (fun _ _ => rfl)) aZ (aU _)) (bR dI (bR dI (au dj) (G3 yD ao) (fun _ _ => rfl)) ao (fun _ _ => rfl)) (au eX))))))))
   (aG (jr (ju (au jT) (au dj)))))))
   (aG (aM (eU (ak (au dm) (ak (au eY) (ak (au jT) aq)))))))))), ?_⟩
  refine aP fun k hk => ?_
  push_cast
  refine ⟨p, B, rfl, tp, by omega, by omega, fun w s t H1 hw1 hw2 hs s1 tp1 ht => ?_⟩
  push_cast [ht]
  subst hk
  refine aP fun k hk => ?_
  push_cast
  refine ⟨p, 8, B + 10, rfl, tp1, by show B + 10 + 2 ≤ 1000100; omega, by decide, by decide, by decide, fun z => absurd z (by decide), fun r1 H2 r10 r11 s2 tp2 => ?_⟩
  push_cast
  subst hk
  generalize decide (r1 = 0) = great
  refine aP fun k hk => ?_
  push_cast
  refine ⟨bx (by decide), fun c hc => ?_⟩
  refine ⟨w, s, rfl, hw1, hw2, hs, ?_⟩
  push_cast
  subst hk
  obtain ⟨cp, Hc⟩ := rP (s1.trans s2) tp2 hc
  have s3 := lB (o := HO.lst []) (s1.trans s2) Hc
  have tp3 : bB _ p (B + 12) := (tp2.same (aB (o := HO.lst []) hc)).le (by show B + 10 + 2 ≤ B + 12; omega)
  have hc3 : upd H2 c (HO.lst []) c = some (HO.lst []) := aD
  generalize upd H2 c (HO.lst []) = H3 at s3 tp3 hc3 ⊢
  refine aP fun k hk => ?_
  refine nH fun R hR => ?_
  push_cast [pK]
  have g13 : ∀ (x y : Int), (0 < x ∧ x ≤ 13) → (0 < y ∧ y ≤ 13) → (if great = true then x else y) ≤ 13 ∧ 0 < (if great = true then x else y) := fun x y hx hy => by cases great <;> simp <;> omega
  obtain ⟨OC, hOC⟩ : ∃ OC : Addr → Prop, OC = fun a => a ≠ p ∧ a ≠ c := ⟨_, rfl⟩
  have body : ∀ m : Int, 0 < m → m ≤ 13 → d9 2 [V.ref p, V.int m] H3 (fun x H1 => ∃ j, x = V.int j ∧ -(2 ^ 62) ≤ j ∧ j < 2 ^ 62 ∧ R (Itr 0 j.toNat) H1) E0 := by
   intro m hm0 hm1
   refine ⟨p, m, B + 12, rfl, tp3, by show B + 12 + 2 ≤ 1000100; omega, hm0, by omega, by decide, fun z => absurd z (by omega), fun r2 H4 r20 r21 s4 tp4 => ?_⟩
   refine ⟨r2, rfl, by omega, by omega, ?_⟩
   obtain ⟨Pv, hPv⟩ : ∃ Pv : Nat → L2.St → Hp → Prop, Pv = fun (i : Nat) σ H' => ∃ (css : List (List It1)) (vs : List V) (ot mn : Int) (o7 o8 o9 o10 : Option V), cT p H H' ∧ bB H' p (B + 20 + 400 * (i : Int)) ∧ H' c = some (HO.lst vs) ∧ aF OC H' vs (css.map fB) ∧
    css.length = i ∧ (∀ its ∈ css, its.length ≤ 6 ∧ ∀ it ∈ its, it.Ok w s) ∧ fX w s ot ∧
    σ = [some (V.ref p), some (V.int w), some (V.int s), some (V.bl great), some (V.ref c), some (V.int ot), some (V.int mn), o7, o8, o9, o10] := ⟨_, rfl⟩
   have hc4 := s4 _ _ cp hc3
   refine yd hR Pv (by rw [hPv]; exact ⟨[], [], _, _, _, _, _, _, s3.trans s4, tp4.le (by show B + 12 + 2 ≤ B + 20 + 400 * ((0 : Nat) : Int); omega), hc4, .nil, rfl, by simp, vR, rfl⟩) ?_ ?_
   ·intro i σ H5 hi pv
    rw [hPv] at pv
    obtain ⟨css, vs, ot, mn, o7, o8, o9, o10, s5, tp5, hc5, ts5, hcl, hok, hot, rfl⟩ := pv
    refine aP fun k2 hk2 => ?_
    push_cast
    refine ⟨bx (by decide), fun q0 hq0 => ?_⟩
    obtain ⟨qp, Hq⟩ := rP s5 tp5 hq0
    have qc : q0 ≠ c := (aK hc5 hq0).symm
    obtain ⟨OQ, hOQ⟩ : ∃ OQ : Addr → Prop, OQ = fun a => (a ≠ p ∧ a ≠ c) ∧ a ≠ q0 := ⟨_, rfl⟩
    have ts6 : aF OQ (upd H5 q0 (HO.lst [])) vs (css.map fB) := ts5.keep fun a o h e => by
     rw [hOC] at h
     rw [hOQ]
     exact ⟨⟨h, aK e hq0⟩, aB hq0 _ _ e⟩
    have s6 := lB (o := HO.lst []) s5 Hq
    have tp6 := tp5.same (aB (o := HO.lst []) hq0)
    have hc6 := aB (o := HO.lst []) hq0 _ _ hc5
    have hq6 : upd H5 q0 (HO.lst []) q0 = some (HO.lst []) := aD
    generalize upd H5 q0 (HO.lst []) = H6 at s6 tp6 hc6 hq6 ts6 ⊢
    subst hk2
    refine aP fun k2 hk2 => ?_
    refine nH fun R2 hR2 => ?_
    push_cast [pK]
    have body2 : ∀ m : Int, 0 < m → m ≤ 7 → d9 2 [V.ref p, V.int m] H6 (fun x H1 => ∃ j, x = V.int j ∧ -(2 ^ 62) ≤ j ∧ j < 2 ^ 62 ∧ R2 (Itr 0 j.toNat) H1) E0 := by
     intro m hm0 hm1
     refine ⟨p, m, B + 20 + 400 * (i : Int), rfl, tp6, by show B + 20 + 400 * (i : Int) + 2 ≤ 1000100; omega, hm0, by omega, by decide, fun z => absurd z (by omega), fun r3 H7 r30 r31 s7 tp7 => ?_⟩
     refine ⟨r3, rfl, by omega, by omega, ?_⟩
     obtain ⟨Pv2, hPv2⟩ : ∃ Pv : Nat → L2.St → Hp → Prop, Pv = fun (j : Nat) σ H' => ∃ (its : List It1) (us : List V) (ot mn : Int) (o9 o10 : Option V), cT p H H' ∧ bB H' p (B + 20 + 400 * (i : Int) + 2 + 60 * (j : Int)) ∧ H' c = some (HO.lst vs) ∧ H' q0 = some (HO.lst us) ∧ aF OQ H' vs (css.map fB) ∧
      aF OQ H' us (its.map itD) ∧ its.length = j ∧ (∀ it ∈ its, it.Ok w s) ∧ fX w s ot ∧
      σ = [some (V.ref p), some (V.int w), some (V.int s), some (V.bl great), some (V.ref c), some (V.int ot), some (V.int mn), some (V.int (0 + (i : Int))), some (V.ref q0), o9, o10] := ⟨_, rfl⟩
     have kq : ∀ {H H' : Hp}, cT p H H' → ∀ a o, OQ a → H a = some o → OQ a ∧ H' a = some o := fun {H H'} sx a o h e => by
      refine ⟨h, sx a o ?_ e⟩
      rw [hOQ] at h
      exact h.1.1
     refine yd hR2 Pv2 (by rw [hPv2]; exact ⟨[], [], ot, mn, _, _, s6.trans s7, tp7.le (by show B + 20 + 400 * (i : Int) + 2 ≤ B + 20 + 400 * (i : Int) + 2 + 60 * ((0 : Nat) : Int); omega), s7 _ _ cp hc6, s7 _ _ qp hq6, ts6.keep (kq s7), .nil, rfl, by simp, hot, rfl⟩) ?_ ?_
     ·intro j σ H8 hj pv
      rw [hPv2] at pv
      obtain ⟨its, us, ot8, mn8, o9', o10', s8, tp8, hc8, hq8, tv8, tu8, hil, hio, hot8, rfl⟩ := pv
      have hul := tu8.length
      rw [List.length_map] at hul
      refine aP fun k3 hk3 => ?_
      push_cast
      refine ⟨p, w, s, ot8, B + 20 + 400 * (i : Int) + 2 + 60 * (j : Int), rfl, tp8, by omega, by omega, hw1, hw2, hs, fun it t9 H9 ok9 s9 tp9 at9 => ?_⟩
      push_cast
      subst hk3
      have hc9 := s9 _ _ cp hc8
      have hq9 := s9 _ _ qp hq8
      have tv9 := tv8.keep (kq s9)
      have tu9 := tu8.keep (kq s9)
      have s89 := s8.trans s9
      -- the item that goes in
      have put : ∀ (it2 : It1) (t2 : Addr) (H10 : Hp) (mn2 : Int) (k4 : L2.St → Hp → Prop), k4 = sZ (tIf (um (tOp za (tOp wZ (tOp wZ (jl 8) (tUn (rU fun i => V.int (-i)) (tC (V.int 1)))) (tC (V.int 0))) (tC (V.str "bits"))))
        (tOp wZ (tOp wZ (jl 8) (tUn (rU fun i => V.int (-i)) (tC (V.int 1)))) (tC (V.int 1))) (jl 5)) (jh 5) { nx := Pv2 (j + 1), ct := Pv2 (j + 1), bk := k2, rt := Q } →
        it2.Ok w s → Same H9 H10 → lq H10 t2 it2 →
        apq (H10 q0) q0 (V.ref t2) H10 (fun _ H1 => k4 [some (V.ref p), some (V.int w), some (V.int s), some (V.bl great), some (V.ref c), some (V.int ot8), some (V.int mn2), some (V.int (0 + (i : Int))), some (V.ref q0), some (V.int (0 + (j : Int))), some (V.ref t9)] H1) := by
       intro it2 t2 H10 mn2 k4 hk4 ok2 s10 at2
       rw [s10 _ _ hq9, nT]
       have hlt : us.length < sizeLine := Nat.lt_of_lt_of_le (by omega) (bx (Nat.le_refl 1000000))
       refine ⟨hlt, ?_⟩
       have tq : t2 ≠ q0 := fun z => by have := at2.h; rw [z, s10 _ _ hq9] at this; cases this
       have tc : t2 ≠ c := fun z => by have := at2.h; rw [z, s10 _ _ hc9] at this; cases this
       have tpn : t2 ≠ p := (tp9.same s10).net at2.h
       have kk : ∀ a o, OQ a → H10 a = some o → OQ a ∧ upd H10 q0 (HO.lst (us ++ [V.ref t2])) a = some o := fun a o h e => by
        refine ⟨h, ?_⟩
        rw [hOQ] at h
        rw [aH h.2]
        exact e
       have at3 : lq (upd H10 q0 (HO.lst (us ++ [V.ref t2]))) t2 it2 := ⟨by rw [aH tq]; exact at2.h⟩
       have s11 := lB (o := HO.lst (us ++ [V.ref t2])) (s89.trans s10.x) Hq
       have tp11 := (tp9.same s10).upd (o := HO.lst (us ++ [V.ref t2])) qp
       have hc11 : upd H10 q0 (HO.lst (us ++ [V.ref t2])) c = some (HO.lst vs) := by rw [aH (Ne.symm qc)]; exact s10 _ _ hc9
       have hq11 : upd H10 q0 (HO.lst (us ++ [V.ref t2])) q0 = some (HO.lst (us ++ [V.ref t2])) := aD
       have tv11 := (tv9.same s10).keep kk
       have tu11 : aF OQ (upd H10 q0 (HO.lst (us ++ [V.ref t2]))) (us ++ [V.ref t2]) ((its ++ [it2]).map itD) := by
        rw [List.map_append]
        exact ((tu9.same s10).keep kk).append (.cons (at3.tree (by rw [hOQ]; exact ⟨⟨tpn, tc⟩, tq⟩)) .nil)
       generalize upd H10 q0 (HO.lst (us ++ [V.ref t2])) = H11 at at3 s11 tp11 hc11 hq11 tv11 tu11
       have fin : ∀ ot2, fX w s ot2 → Pv2 (j + 1) [some (V.ref p), some (V.int w), some (V.int s), some (V.bl great), some (V.ref c), some (V.int ot2), some (V.int mn2), some (V.int (0 + (i : Int))), some (V.ref q0), some (V.int (0 + (j : Int))), some (V.ref t9)] H11 := fun ot2 ho2 => by
        rw [hPv2]
        refine ⟨its ++ [it2], us ++ [V.ref t2], ot2, mn2, _, _, s11, tp11.le (by omega), hc11, hq11, tv11, tu11, by rw [List.length_append, List.length_singleton]; omega, ?_, ho2, rfl⟩
        intro x hx
        rcases List.mem_append.mp hx with z | z
        ·exact hio x z
        ·rw [List.mem_singleton.mp z]
         exact ok2
       subst hk4
       cases it2 with
       | one x =>
        push_cast [hq11, sU, at3.h]
        exact fin _ ok2
       | rng x y =>
        push_cast [hq11, sU, at3.h]
        exact fin _ ok2.1
       | bits x y =>
        push_cast [hq11, sU, at3.h]
        exact fin _ hot8
      refine aP fun k3 hk3 => ?_
      have put2 : ∀ mn2 : Int, k3 [some (V.ref p), some (V.int w), some (V.int s), some (V.bl great), some (V.ref c), some (V.int ot8), some (V.int mn2), some (V.int (0 + (i : Int))), some (V.ref q0), some (V.int (0 + (j : Int))), some (V.ref t9)] H9 := by
       intro mn2
       subst hk3
       refine aP fun k4 hk4 => ?_
       have direct := put it t9 H9 mn2 k4 hk4 ok9 (Same.refl _) at9
       rw [hq9, nT] at direct
       cases it with
       | one x =>
        push_cast [hq9, at9.h]
        split
        ·exact direct
        ·split
         ·exact direct
         ·exact direct
       | rng x y =>
        push_cast [hq9, at9.h]
        split
        ·exact direct
        ·split
         ·exact direct
         ·exact direct
       | bits x y =>
        push_cast [hq9, at9.h]
        split
        ·exact direct
        ·split
         ·exact direct
         ·exact ⟨bx (by decide), fun t2 ht2 => put (.one ot8) t2 _ mn2 k4 hk4 hot8 (aB ht2) ⟨aD⟩⟩
      cases it with
      | one x => push_cast [at9.h]; exact put2 _
      | rng x y => push_cast [at9.h]; exact put2 _
      | bits x y => push_cast [at9.h]; exact put2 _
     ·intro σ H8 pv
      rw [hPv2] at pv
      obtain ⟨its, us, ot8, mn8, o9', o10', s8, tp8, hc8, hq8, tv8, tu8, hil, hio, hot8, rfl⟩ := pv
      have hvl := tv8.length
      rw [List.length_map] at hvl
      have hul := tu8.length
      rw [List.length_map] at hul
      show k2 _ _
      subst hk2
      push_cast [hc8]
      refine ⟨Nat.lt_of_lt_of_le (by omega) (bx (Nat.le_refl 1000000)), ?_⟩
      rw [hPv]
      have kk : ∀ a o, OQ a → H8 a = some o → OC a ∧ upd H8 c (HO.lst (vs ++ [V.ref q0])) a = some o := fun a o h e => by
       rw [hOQ] at h
       rw [hOC]
       exact ⟨h.1, by rw [aH h.1.2]; exact e⟩
      refine ⟨css ++ [its], vs ++ [V.ref q0], ot8, mn8, _, _, _, _, lB s8 Hc, (tp8.upd cp).le (by omega), aD, ?_, by rw [List.length_append, List.length_singleton]; omega, ?_, hot8, rfl⟩
      ·rw [List.map_append]
       refine (tv8.keep kk).append (.cons (.lst ?_ (by rw [aH qc]; exact hq8) (by omega) (tu8.keep kk)) .nil)
       rw [hOC]
       exact ⟨qp, qc⟩
      ·intro x hx
       rcases List.mem_append.mp hx with z | z
       ·exact hok x z
       ·rw [List.mem_singleton.mp z]
        exact ⟨by omega, hio⟩
    cases great with
    | true => exact body2 7 (by decide) (by decide)
    | false => exact body2 5 (by decide) (by decide)
   ·intro σ H5 pv
    rw [hPv] at pv
    obtain ⟨css, vs, ot, mn, o7, o8, o9, o10, s5, tp5, hc5, ts5, hcl, hok, hot, rfl⟩ := pv
    have hvl := ts5.length
    rw [List.length_map] at hvl
    show k _ _
    subst hk
    push_cast
    refine ⟨bx (by decide), fun t ht => ?_⟩
    obtain ⟨tpn, Ht⟩ := rP s5 tp5 ht
    have sx := aB (o := HO.tup [V.int w, V.int s, V.ref c]) ht
    refine q w s t css _ hw1 hw2 hs (s5.trans sx.x) ((tp5.same sx).le (by omega)) ?_ hok (by omega)
    exact .tup tpn aD (by show 3 ≤ 1000000; decide) (.cons (.int w) (.cons (.int s) (.cons (.lst cp (sx _ _ hc5) (by omega) (ts5.keep fun a o h e => by
     rw [hOC] at h
     exact ⟨h.1, sx _ _ e⟩)) .nil)))
  cases great with
  | true => exact body 13 (by decide) (by decide)
  | false => exact body 6 (by decide) (by decide)
theorem Eo : Bn "FIGURES" := ⟨by decide +kernel, by decide +kernel⟩
theorem uc : Bn "MOST_FIGURES" := ⟨by decide +kernel, by decide +kernel⟩
theorem yt : Bn "MOST_WIDTH" := ⟨by decide +kernel, by decide +kernel⟩
abbrev cI : Stmt := top 2
theorem yR : bh ["thing"] ["thing"] (aj cI) := ⟨rfl, rfl, rfl, by decide +kernel, rfl, by decide +kernel, by decide +kernel⟩
theorem pJ : Nm ["thing"] (aj cI) 0 "thing" := .of (by decide +kernel)
theorem rO : (aj cI).names.lookup ("bool" : Str) = some .globalImplicit := by decide +kernel
theorem tU : (aj cI).names.lookup ("int" : Str) = some .globalImplicit := by decide +kernel
theorem fU : (aj cI).names.lookup ("isinstance" : Str) = some .globalImplicit := by decide +kernel
theorem mO : Bn "is_number" := ⟨by decide +kernel, by decide +kernel⟩
abbrev dY : Stmt := top 3
theorem Gi : bh ["width", "sign"] ["width", "sign"] (aj dY) := ⟨rfl, rfl, rfl, by decide +kernel, rfl, by decide +kernel, by decide +kernel⟩
theorem uE : Nm ["width", "sign"] (aj dY) 0 "width" := .of (by decide +kernel)
theorem uD : Nm ["width", "sign"] (aj dY) 1 "sign" := .of (by decide +kernel)
theorem nG : (aj dY).names.lookup ("MOST_WIDTH" : Str) = some .globalImplicit := by decide +kernel
theorem ji : (aj dY).names.lookup ("is_number" : Str) = some .globalImplicit := by decide +kernel
theorem JL : Bn "is_kind" := ⟨by decide +kernel, by decide +kernel⟩
abbrev dU : Stmt := top 4
theorem Cw : bh ["width", "sign"] ["width", "sign"] (aj dU) := ⟨rfl, rfl, rfl, by decide +kernel, rfl, by decide +kernel, by decide +kernel⟩
theorem zu : Nm ["width", "sign"] (aj dU) 0 "width" := .of (by decide +kernel)
theorem zq : Nm ["width", "sign"] (aj dU) 1 "sign" := .of (by decide +kernel)
theorem En : Bn "least_of" := ⟨by decide +kernel, by decide +kernel⟩
abbrev fJ : Stmt := top 5
theorem Gh : bh ["width", "sign"] ["width", "sign"] (aj fJ) := ⟨rfl, rfl, rfl, by decide +kernel, rfl, by decide +kernel, by decide +kernel⟩
theorem uz : Nm ["width", "sign"] (aj fJ) 0 "width" := .of (by decide +kernel)
theorem Dp : Nm ["width", "sign"] (aj fJ) 1 "sign" := .of (by decide +kernel)
theorem yu : Bn "most_of" := ⟨by decide +kernel, by decide +kernel⟩
abbrev bM : Stmt := top 7
theorem gD : bh ["width", "sign", "thing", "least", "most", "word", "one", "other", "full"] ["width", "sign", "thing"] (aj bM) := ⟨rfl, rfl, rfl, by decide +kernel, rfl, by decide +kernel, by decide +kernel⟩
theorem oR : Nm ["width", "sign", "thing", "least", "most", "word", "one", "other", "full"] (aj bM) 0 "width" := .of (by decide +kernel)
theorem uF : Nm ["width", "sign", "thing", "least", "most", "word", "one", "other", "full"] (aj bM) 1 "sign" := .of (by decide +kernel)
theorem fD : Nm ["width", "sign", "thing", "least", "most", "word", "one", "other", "full"] (aj bM) 2 "thing" := .of (by decide +kernel)
theorem oO : Nm ["width", "sign", "thing", "least", "most", "word", "one", "other", "full"] (aj bM) 3 "least" := .of (by decide +kernel)
theorem oN : Nm ["width", "sign", "thing", "least", "most", "word", "one", "other", "full"] (aj bM) 4 "most" := .of (by decide +kernel)
theorem oM : Nm ["width", "sign", "thing", "least", "most", "word", "one", "other", "full"] (aj bM) 5 "word" := .of (by decide +kernel)
theorem oK : Nm ["width", "sign", "thing", "least", "most", "word", "one", "other", "full"] (aj bM) 6 "one" := .of (by decide +kernel)
theorem oJ : Nm ["width", "sign", "thing", "least", "most", "word", "one", "other", "full"] (aj bM) 7 "other" := .of (by decide +kernel)
theorem oH : Nm ["width", "sign", "thing", "least", "most", "word", "one", "other", "full"] (aj bM) 8 "full" := .of (by decide +kernel)
theorem yc : (aj bM).names.lookup ("all" : Str) = some .globalImplicit := by decide +kernel
theorem mK : (aj bM).names.lookup ("isinstance" : Str) = some .globalImplicit := by decide +kernel
theorem qd : (aj bM).names.lookup ("least_of" : Str) = some .globalImplicit := by decide +kernel
theorem pL : (aj bM).names.lookup ("len" : Str) = some .globalImplicit := by decide +kernel
theorem kW : (aj bM).names.lookup ("most_of" : Str) = some .globalImplicit := by decide +kernel
theorem tV : (aj bM).names.lookup ("tuple" : Str) = some .globalImplicit := by decide +kernel
theorem JM : Bn "is_item" := ⟨by decide +kernel, by decide +kernel⟩
theorem HJ (hB : ∀ x : Str, x ∈ BLs → mg x = none) (F : Fun K "is_number" "is_number" cI f fd) : cX P w K mg base CX0 1 f fd ["thing"] yN := by
 refine F.okq yR (fun vs H Q E h => ?_) (fun cdv A outer s H vs Q E hr h => ?_)
 ·obtain ⟨v, ok, d, rfl, _⟩ := h
  rfl
 ·obtain ⟨v, ok, d, rfl, t, q⟩ := h
  refine ⟨_, (aG (aM (jw (bW cg fU (hB "isinstance" aV) boot_isinstance aW (ak (au pJ) (ak (gb "int" tU (hB "int" rE) boot_int sO) aq))) (mq (G4 (bW cg fU (hB "isinstance" aV) boot_isinstance aW (ak (au pJ) (ak (gb "bool" rO (hB "bool" qm) boot_bool qt) aq)))))))), ?_⟩
  cases t with
  | non => push_cast; exact q
  | bl b => push_cast; exact q
  | int i => push_cast; exact q
  | str x => push_cast; exact q
  | lst o e z t => push_cast [e]; exact q
  | tup o e z t => push_cast [e]; exact q
theorem Dd (F : Fun K "least_of" "least_of" dU f fd) : cX P w K mg base CX0 1 f fd ["width", "sign"] wL := by
 refine F.okq Cw (fun vs H Q E h => ?_) (fun cdv A outer s H vs Q E hr h => ?_)
 ·obtain ⟨w, s, rfl, _⟩ := h
  rfl
 ·obtain ⟨w, s, rfl, h1, h2, hs, q⟩ := h
  refine ⟨_, (aA (cD (bA (cO hr.bL) (au zq) ao (aU _)) (aG (aM ao)) bI)
   (aG (aM (G3 yD (aL fW ao (aL fC (au zu) ao)))))), ?_⟩
  unfold wl at q
  push_cast [Int.one_mul]
  rcases hs with rfl | rfl
  ·rw [if_pos rfl]
   rw [Int.mul_zero, Int.sub_zero] at q
   exact q
  ·rw [if_neg (by decide)]
   refine ⟨⟨by omega, by omega, by decide⟩, ?_⟩
   rw [Int.mul_one, Int.zero_sub] at q
   exact q
theorem Hy (F : Fun K "most_of" "most_of" fJ f fd) : cX P w K mg base CX0 1 f fd ["width", "sign"] Ab := by
 refine F.okq Gh (fun vs H Q E h => ?_) (fun cdv A outer s H vs Q E hr h => ?_)
 ·obtain ⟨w, s, rfl, _⟩ := h
  rfl
 ·obtain ⟨w, s, rfl, h1, h2, hs, q⟩ := h
  refine ⟨_, (aA (cD (bA (cO hr.bL) (au Dp) ao (aU _)) (aG (aM (aL fC (aL fW ao (au uz)) ao))) bI)
   (aG (aM (aL fC (aL fW ao (aL fC (au uz) ao)) ao)))), ?_⟩
  have e := oX h1
  unfold wl at q
  push_cast [Int.one_mul]
  rcases hs with rfl | rfl
  ·rw [if_pos rfl]
   rw [Int.mul_zero, Int.sub_zero, Int.zero_add] at q
   exact ⟨⟨by omega, by omega, by decide⟩, q⟩
  ·rw [if_neg (by decide)]
   refine ⟨⟨by omega, by omega, by decide⟩, ?_⟩
   rw [show (0 : Int) - 2 ^ (w - 1).toNat * 1 + 2 ^ w.toNat - 1 = 2 ^ (w - 1).toNat - 1 by omega] at q
   exact q
theorem Df {ckMostWidth : Tok} (hB : ∀ x : Str, x ∈ BLs → mg x = none) (cgMostWidth : mg "MOST_WIDTH" = some (.int 40 ckMostWidth)) (CIsNumber : Cal P w K mg base "is_number" 1 ["thing"] yN) (F : Fun K "is_kind" "is_kind" dY f fd) : cX P w K mg base CX0 2 f fd ["width", "sign"] Ad := by
 refine F.okq Gi (fun vs H Q E h => ?_) (fun cdv A outer s H vs Q E hr h => ?_)
 ·obtain ⟨v, v2, ok, d, d2, rfl, _⟩ := h
  rfl
 ·obtain ⟨v, v2, ok, d, d2, rfl, t, t2, q⟩ := h
  refine ⟨_, (aA (cD (qL (jO (jo (dR (aX CIsNumber (hr.mono (by decide)) ji mO (ak (au uE) aq)))) (jn (jo (dR (aX CIsNumber (hr.mono (by decide)) ji mO (ak (au uD) aq))))))) (aG (aM pF)) bI)
   (aG (aM (jw (jR gh gh ao (au uE) (vI (v := V.int 40) nG cgMostWidth ⟨_, rfl⟩ yt)) (mq (jR gh gh ao (au uD) ao)))))), ?_⟩
  push_cast
  refine ⟨v, ok, d, rfl, t, ?_⟩
  push_cast
  have tt2 := t2
  cases t with
  | int i =>
   push_cast [bJ]
   refine ⟨v2, ok, d2, rfl, tt2, ?_⟩
   push_cast
   cases t2 with
   | int j =>
    push_cast [bJ]
    rw [show vQ (.int i) (.int j) = ((decide (1 ≤ i) && decide (i ≤ 40)) && (decide (0 ≤ j) && decide (j ≤ 1))) from rfl] at q
    split
    ·rename_i c1
     rw [decide_eq_true c1, Bool.true_and] at q
     split
     ·rename_i c2
      rw [decide_eq_true c2, Bool.true_and] at q
      split
      ·rename_i c3
       rw [decide_eq_true c3, Bool.true_and] at q
       exact q
      ·rename_i c3
       rw [decide_eq_false c3, Bool.false_and] at q
       exact q
     ·rename_i c2
      rw [decide_eq_false c2, Bool.false_and] at q
      exact q
    ·rename_i c1
     rw [decide_eq_false c1, Bool.false_and, Bool.false_and] at q
     exact q
   | _ => push_cast [bJ]; exact q
  | _ => push_cast [bJ]; exact q
theorem Dg (hB : ∀ x : Str, x ∈ BLs → mg x = none) (CIsNumber : Cal P w K mg base "is_number" 1 ["thing"] yN) (CLeastOf : Cal P w K mg base "least_of" 1 ["width", "sign"] wL) (CMostOf : Cal P w K mg base "most_of" 1 ["width", "sign"] Ab) (F : Fun K "is_item" "is_item" bM f fd) : cX P w K mg base CX0 2 f fd ["width", "sign", "thing"] Ae := by
 refine F.okq gD (fun vs H Q E h => ?_) (fun cdv A outer s H vs Q E hr h => ?_)
 ·obtain ⟨w, s, v, ok, d, rfl, _⟩ := h
  rfl
 ·obtain ⟨w, s, v, ok, d, rfl, hw1, hw2, hs, t, q⟩ := h
  refine ⟨_, (aA (cD (qL (jO (jo (dR (bW cg mK (hB "isinstance" aV) boot_isinstance aW (ak (au fD) (ak (gb "tuple" tV (hB "tuple" nq) boot_tuple nQ) aq))))) (jn (bA CV (bW gZ pL (hB "len" kE) PySem.boot_len lg (ak (au fD) aq)) (eU (ak ao (ak ao aq))) (by with_unfolding_all rfl))))) (aG (aM pF)) bI)
   (aA (cD (jo (dR (bW (lH rfl) yc (hB "all" vP) PyProof.Rows.Boot.«all» wj (ak (jt (NX := ["width", "sign", "thing", "least", "most", "word", "one", "other", "full"]) (kX := (aj bM).names) ["part"] [none] rfl rfl ⟨rfl, by decide +kernel, by decide +kernel, by decide +kernel, by decide +kernel⟩ rfl (fK (iW FZ (au fD) (lD ao) lE)) (fun _ _ _ _ _ => (fL 0 (show List.Nodup (["part"] : List Str) from by decide +kernel) rfl (Or.inl rfl))) (fun _ _ _ _ _ => jx) (fun _ _ _ _ _ => (aX CIsNumber (hr.mono (by decide)) rfl mO (ak (pU 0) aq)))) aq)))) (aG (aM pF)) bI)
   (aA (bV oO gD.nd (aX CLeastOf (hr.mono (by decide)) qd En (ak (au oR) (ak (au uF) aq))))
   (aA (bV oN gD.nd (aX CMostOf (hr.mono (by decide)) kW yu (ak (au oR) (ak (au uF) aq))))
   (aA (cD (bA (cO hr.bL) (bW gZ pL (hB "len" kE) PySem.boot_len lg (ak (au fD) aq)) ao (aU _)) (aG (aM (jw (gG (cO hr.bL) (bR dI (au fD) ao (fun _ _ => rfl)) aZ (aU _)) (mq (jR gh gh (au oO) (bR dI (au fD) ao (fun _ _ => rfl)) (au oN)))))) bI)
   (aA (iz (au fD) (jP (n := 3) rfl (bG (cP oM gD.nd) (bG (cP oK gD.nd) (bG (cP oJ gD.nd) gm)))))
   (aA (cD (bA (cO hr.bL) (au oM) aZ (aU _)) (aG (aM (CK gh gh gh (au oO) (au oK) (au oJ) (au oN)))) bI)
   (aA (bV oH gD.nd (aX CMostOf (hr.mono (by decide)) kW yu (ak (au oR) (ak ao aq))))
   (aG (aM (jw (gG (cO hr.bL) (au oM) aZ (aU _)) (jw (jR gh gh ao (au oK) (au oH)) (mq (jR gh gh ao (au oJ) (au oH))))))))))))))), ?_⟩
  refine aP fun k hk => ?_
  cases t with
  | tup o e z ts =>
   rename_i p xs ds
   push_cast [e]
   refine ⟨bx (by decide), fun t2 ht2 => ⟨rfl, rfl, ?_⟩⟩
   rw [Vu]
   have s1 := aB (o := HO.tup [V.int 2, V.int 3]) ht2
   have e1 := s1 _ _ e
   have ts1 := ts.same s1
   generalize upd H t2 (HO.tup [V.int 2, V.int 3]) = H1 at s1 e1 ts1 ⊢
   have bw := nY hw1 hw2 hs
   have bw0 : wl w 0 = 0 := by unfold wl; rw [Int.mul_zero]; rfl
   by_cases h2 : xs.length = 2
   ·rw [h2, if_neg (by decide)]
    obtain ⟨x, y, d, dy, rfl, rfl, tx, ty⟩ := ts1.two h2
    rw [Dy] at q
    subst hk
    refine aP fun k hk => ?_
    push_cast
    refine gY fun R hR => ?_
    push_cast [e1]
    refine ⟨by decide, fun sl hsl => ?_⟩
    have s2 := aB (o := HO.tup [y]) hsl
    rw [show jK [x, y] (some 1) none = [y] from rfl]
    refine nP bJ (fun τ => ∃ o1, τ = [o1]) hR (aF.cons (ty.same s2) .nil) aD (by show 1 ≤ 1000000; decide) ⟨none, rfl⟩ ?_ ?_
    ·rintro x1 d1 τ H3 Qn _ s3 t3 ⟨o1, rfl⟩ qn
     push_cast
     exact ⟨x1, ok, d1, rfl, t3, qn _ _ ⟨_, rfl⟩ (Same.refl _)⟩
    ·intro H3 l s3 hl
     have s5 := s3.trans (aB (o := HO.lst (([dy].map bJ).map V.bl)) hl)
     have e5 : upd H3 l (HO.lst (([dy].map bJ).map V.bl)) l = _ := aD
     generalize upd H3 l (HO.lst (([dy].map bJ).map V.bl)) = H5 at s5 e5 ⊢
     push_cast [e5]
     refine ⟨[dy].map bJ, rfl, ?_⟩
     have s4 := (s1.trans s2).trans s5
     have e4 := (s2.trans s5) _ _ e1
     have tx4 := tx.same (s2.trans s5)
     rw [show ([dy].map bJ).all id = bJ dy by simp]
     have hf : ∀ H', Same H H' → bJ dy = false → Q (.bl false) H' := fun H' sH hn => by
      have := q H' sH
      rw [hn, Bool.false_and] at this
      exact this
     cases ty with
     | int a =>
      rw [show bJ (.int a) = true from rfl, if_neg (by decide)]
      subst hk
      rw [show (bJ (.int a) && (eF d "is" && inB w s a)) = (eF d "is" && inB w s a) from rfl] at q
      push_cast [e4]
      refine ⟨w, s, rfl, hw1, hw2, hs, ?_⟩
      push_cast [e4]
      refine ⟨w, s, rfl, hw1, hw2, hs, ?_⟩
      push_cast [e4]
      refine rR tx4 ?_
      have qq := q _ s4
      push_cast [e4]
      cases hsd : eF d "is" with
      | true =>
       rw [hsd, Bool.true_and] at qq
       rw [if_pos rfl]
       unfold inB at qq
       split
       ·rename_i c
        rw [decide_eq_true c, Bool.true_and] at qq
        rw [show decide (a ≤ wl w s + 2 ^ w.toNat - 1) = decide (a < wl w s + 2 ^ w.toNat) from decide_eq_decide.mpr (by omega)]
        exact qq
       ·rename_i c
        rw [decide_eq_false c, Bool.false_and] at qq
        exact qq
      | false =>
       rw [hsd, Bool.false_and] at qq
       rw [if_neg (by decide)]
       exact qq
     | _ => exact hf _ s4 rfl
   by_cases h3 : xs.length = 3
   ·rw [h3, if_neg (by decide)]
    obtain ⟨x, y, y2, d, dy, dz, rfl, rfl, tx, ty, tz⟩ := ts1.three h3
    rw [Dw] at q
    subst hk
    refine aP fun k hk => ?_
    push_cast
    refine gY fun R hR => ?_
    push_cast [e1]
    refine ⟨by decide, fun sl hsl => ?_⟩
    have s2 := aB (o := HO.tup [y, y2]) hsl
    rw [show jK [x, y, y2] (some 1) none = [y, y2] from rfl]
    refine nP bJ (fun τ => ∃ o1, τ = [o1]) hR (aF.cons (ty.same s2) (.cons (tz.same s2) .nil)) aD (by show 2 ≤ 1000000; decide) ⟨none, rfl⟩ ?_ ?_
    ·rintro x1 d1 τ H3 Qn _ s3 t3 ⟨o1, rfl⟩ qn
     push_cast
     exact ⟨x1, ok, d1, rfl, t3, qn _ _ ⟨_, rfl⟩ (Same.refl _)⟩
    ·intro H3 l s3 hl
     have s5 := s3.trans (aB (o := HO.lst (([dy, dz].map bJ).map V.bl)) hl)
     have e5 : upd H3 l (HO.lst (([dy, dz].map bJ).map V.bl)) l = _ := aD
     generalize upd H3 l (HO.lst (([dy, dz].map bJ).map V.bl)) = H5 at s5 e5 ⊢
     push_cast [e5]
     refine ⟨[dy, dz].map bJ, rfl, ?_⟩
     have s4 := (s1.trans s2).trans s5
     have e4 := (s2.trans s5) _ _ e1
     have tx4 := tx.same (s2.trans s5)
     rw [show ([dy, dz].map bJ).all id = (bJ dy && bJ dz) by simp]
     have hf : ∀ H', Same H H' → (bJ dy && bJ dz) = false → Q (.bl false) H' := fun H' sH hn => by
      have := q H' sH
      rw [hn, Bool.false_and] at this
      exact this
     cases ty with
     | int a =>
      cases tz with
      | int b =>
       rw [show (bJ (.int a) && bJ (.int b)) = true from rfl, if_neg (by decide)]
       subst hk
       replace q : ∀ H', Same H H' → Q (.bl ((eF d "from" && (inB w s a && inB w s b && decide (a ≤ b))) || (eF d "bits" && (upB w a && upB w b)))) H' := q
       have qq := q _ s4
       push_cast [e4]
       refine ⟨w, s, rfl, hw1, hw2, hs, ?_⟩
       push_cast [e4]
       refine ⟨w, s, rfl, hw1, hw2, hs, ?_⟩
       push_cast [e4]
       rw [if_neg (by decide)]
       refine rR tx4 ?_
       push_cast
       cases hsd : eF d "from" with
       | true =>
        rw [hsd, Cm hsd, Bool.false_and, Bool.or_false, Bool.true_and] at qq
        rw [if_pos rfl]
        unfold inB at qq
        split
        ·rename_i c1
         split
         ·rename_i c2
          rw [show decide (b ≤ wl w s + 2 ^ w.toNat - 1) = (decide (wl w s ≤ a) && decide (a < wl w s + 2 ^ w.toNat) && (decide (wl w s ≤ b) && decide (b < wl w s + 2 ^ w.toNat)) && decide (a ≤ b)) by
           rw [Bool.eq_iff_iff]
           simp only [Bool.and_eq_true, decide_eq_true_eq]
           omega]
          exact qq
         ·rename_i c2
          rw [decide_eq_false c2, Bool.and_false] at qq
          exact qq
        ·rename_i c1
         rw [decide_eq_false c1, Bool.false_and, Bool.false_and, Bool.false_and] at qq
         exact qq
       | false =>
        rw [hsd, Bool.false_and, Bool.false_or] at qq
        rw [if_neg (by decide)]
        refine ⟨w, 0, rfl, hw1, hw2, .inl rfl, ?_⟩
        push_cast [bw0]
        refine rR tx4 ?_
        push_cast
        cases hsb : eF d "bits" with
        | true =>
         rw [hsb, Bool.true_and] at qq
         rw [if_pos rfl]
         unfold upB at qq
         split
         ·rename_i c1
          split
          ·rename_i c2
           split
           ·rename_i c3
            rw [show decide (b ≤ 0 + 2 ^ w.toNat - 1) = (decide (0 ≤ a) && decide (a < 2 ^ w.toNat) && (decide (0 ≤ b) && decide (b < 2 ^ w.toNat))) by
             rw [Bool.eq_iff_iff]
             simp only [Bool.and_eq_true, decide_eq_true_eq]
             omega]
            exact qq
           ·rename_i c3
            rw [decide_eq_false c3, Bool.false_and, Bool.and_false] at qq
            exact qq
          ·rename_i c2
           rw [decide_eq_false (show ¬ a < 2 ^ w.toNat by omega), Bool.and_false, Bool.false_and] at qq
           exact qq
         ·rename_i c1
          rw [decide_eq_false c1, Bool.false_and, Bool.false_and] at qq
          exact qq
        | false =>
         rw [hsb, Bool.false_and] at qq
         rw [if_neg (by decide)]
         exact qq
      | _ => exact hf _ s4 rfl
     | _ => exact hf _ s4 (by cases dz <;> rfl)
   ·rw [decide_eq_false h2, decide_eq_false h3, if_pos (by decide)]
    have hl := ts.length
    have qq := q _ s1
    rw [xZ (by omega) (by omega)] at qq
    exact qq
  | lst o e z ts => push_cast [e]; exact q _ (Same.refl _)
  | _ => push_cast; exact q _ (Same.refl _)
abbrev bC : Stmt := top 14
theorem mY : bh ["word", "figures"] ["word"] (aj bC) := ⟨rfl, rfl, rfl, by decide +kernel, rfl, by decide +kernel, by decide +kernel⟩
theorem dX : Nm ["word", "figures"] (aj bC) 0 "word" := .of (by decide +kernel)
theorem fO : Nm ["word", "figures"] (aj bC) 1 "figures" := .of (by decide +kernel)
theorem jg : (aj bC).names.lookup ("MOST_FIGURES" : Str) = some .globalImplicit := by decide +kernel
theorem p6 : (aj bC).names.lookup ("all" : Str) = some .globalImplicit := by decide +kernel
theorem pZ : (aj bC).names.lookup ("int" : Str) = some .globalImplicit := by decide +kernel
theorem pY : (aj bC).names.lookup ("len" : Str) = some .globalImplicit := by decide +kernel
theorem dM : Bn "number_from" := ⟨by decide +kernel, by decide +kernel⟩
abbrev bO : Stmt := top 15
theorem lM : bh ["words", "numbers"] ["words"] (aj bO) := ⟨rfl, rfl, rfl, by decide +kernel, rfl, by decide +kernel, by decide +kernel⟩
theorem rC : Nm ["words", "numbers"] (aj bO) 0 "words" := .of (by decide +kernel)
theorem gR : Nm ["words", "numbers"] (aj bO) 1 "numbers" := .of (by decide +kernel)
theorem t8 : Bn "numbers_from" := ⟨by decide +kernel, by decide +kernel⟩
theorem M7 (hB : ∀ x : Str, x ∈ BLs → mg x = none) {ckFigures ckMostFigures : Tok} (cgFigures : mg "FIGURES" = some (.str "0123456789" ckFigures)) (cgMostFigures : mg "MOST_FIGURES" = some (.int 20 ckMostFigures)) (F : Fun K "number_from" "number_from" bC f fd) : cX P w K mg base CX0 1 f fd ["word"] yM := by
 refine F.okq mY (fun vs H Q E h => ?_) (fun cdv A outer s H vs Q E hr h => ?_)
 ·obtain ⟨x, rfl, _⟩ := h
  rfl
 ·obtain ⟨x, rfl, hx, q⟩ := h
  refine ⟨_, (aA (bV fO mY.nd (jE (dR (jQ PySem.F.slot_str_startswith PySem.F.type_str_startswith Dq (au dX) (ak aZ aq))) (iW Qz (au dX) (lD ao) lE) (au dX)))
   (aA (cD (qL (jO (jo (xj gh gh ao (bW Ef pY (hB "len" kE) PySem.boot_len lg (ak (au fO) aq)) (vI (v := V.int 20) jg cgMostFigures ⟨_, rfl⟩ uc))) (jn (jo (dR (bW (lH rfl) p6 (hB "all" vP) PyProof.Rows.Boot.«all» wj (ak (jt (NX := ["word", "figures"]) (kX := (aj bC).names) ["sign"] [none] rfl rfl ⟨rfl, by decide +kernel, by decide +kernel, by decide +kernel, by decide +kernel⟩ rfl (Rg (au fO)) (fun _ _ _ _ _ => (fL 0 (show List.Nodup (["sign"] : List Str) from by decide +kernel) rfl (Or.inl rfl))) (fun _ _ _ _ _ => jx) (fun _ _ _ _ _ => (gG RQ (pU 0) (vI (v := V.str "0123456789") rfl cgFigures ⟨_, rfl⟩ Eo) (by with_unfolding_all rfl)))) aq))))))) (aG (aM gF)) bI)
   (aA (cD (qL (GX (bA (cO hr.bL) (bR Bj (au fO) ao (fun _ _ => rfl)) aZ (aU _)) (Ao (bA (iG hr.bL) (au dX) aZ (aU _))))) (aG (aM gF)) bI)
   (aG (aM (qN Ek pZ (hB "int" rE) boot_int sO (ak (au dX) aq))))))), ?_⟩
  refine aP fun k hk => ?_
  push_cast [rdT]
  rw [show (("-" : Str)) = ⟨#[45]⟩ by decide +kernel]
  obtain ⟨fg, hfg⟩ : ∃ fg : Str, fg = if Txt.startswith x ⟨#[45]⟩ = true then Txt.slice x (some 1) none else x := ⟨_, rfl⟩
  have hfl : fY x = fg.cps.toList := by rw [hfg]; exact Oc
  have hflen : fg.length ≤ sizeLine := by
   rw [hfg]
   split
   ·exact Nat.le_trans (Txt.slice_le x _ _) hx
   ·exact hx
  have hlen : fg.length = (fY x).length := by rw [hfl]; simp [Str.length]
  suffices go : k [some (V.str x), some (V.str fg)] H by
   rw [hfg] at go
   split at go
   ·rename_i c
    rw [if_pos c]
    exact ⟨hx, go⟩
   ·rename_i c
    rw [if_neg c]
    exact go
  subst hk
  refine aP fun k hk => ?_
  push_cast [rdT]
  have hno : ∀ {H' : Hp}, Same H H' → cB x = false → Q V.non H' := fun {H'} s' z => by
   have := q H' s'
   unfold iZ at this
   rw [if_neg (by rw [z]; decide)] at this
   exact this
  refine ⟨hflen, ?_⟩
  by_cases c1 : (1 : Int) ≤ fg.length
  ·rw [if_pos c1]
   by_cases c2 : (fg.length : Int) ≤ 20
   ·rw [if_neg (by rw [decide_eq_true c2]; decide)]
    refine gY fun R hR => ?_
    push_cast [rdT]
    obtain ⟨Pc, hPc⟩ : ∃ Pv : Nat → List V → L2.St → Hp → Prop, Pv = fun (i : Nat) acc τ H' => ∃ (o1 : Option V), H' = H ∧ acc = ((fg.cps.toList.take i).map jF).map V.bl ∧ τ = [o1] := ⟨_, rfl⟩
    refine Tj hR hflen Pc (by rw [hPc]; exact ⟨none, rfl, rfl, rfl⟩) ?_ ?_ ?_
    ·intro i acc τ H1 pc
     rw [hPc] at pc
     obtain ⟨_, _, rfl, _⟩ := pc
     rw [List.length_map, List.length_map]
     exact List.length_take_le _ _
    ·intro i c acc τ H1 hc pc
     rw [hPc] at pc
     obtain ⟨_, rfl, rfl, rfl⟩ := pc
     push_cast [rdT]
     rw [Tg, hPc]
     refine ⟨_, rfl, ?_, rfl⟩
     rw [take_snoc (show fg.cps.toList[i]? = some c by rw [Array.getElem?_toList]; exact hc), List.map_append, List.map_append]
     rfl
    ·intro acc τ H1 d pc hd
     rw [hPc] at pc
     obtain ⟨_, rfl, rfl, rfl⟩ := pc
     rw [List.take_of_length_le (show fg.cps.toList.length ≤ fg.length by simp [Str.length])]
     have s1 := aB (o := HO.lst ((fg.cps.toList.map jF).map V.bl)) hd
     have e1 : upd H1 d (HO.lst ((fg.cps.toList.map jF).map V.bl)) d = _ := aD
     generalize upd H1 d (HO.lst ((fg.cps.toList.map jF).map V.bl)) = H2 at s1 e1 ⊢
     push_cast [e1]
     refine ⟨_, rfl, ?_⟩
     have hall : (fg.cps.toList.map jF).all id = (fY x).all jF := by rw [hfl, List.all_map]; rfl
     rw [hall]
     cases c3 : (fY x).all jF with
     | false =>
      rw [if_pos (show (!false) = true from rfl)]
      refine hno s1 ?_
      unfold cB
      rw [c3, Bool.and_false]
      rfl
     | true =>
      rw [if_neg (show ¬ (!true) = true by decide)]
      subst hk
      refine aP fun k hk => ?_
      push_cast [rdT]
      obtain ⟨c0, r0, hcr⟩ : ∃ c r, fg.cps.toList = c :: r := by
       cases e : fg.cps.toList with
       | nil =>
        rw [hfl, e] at hlen
        have : fg.length = 0 := hlen
        omega
       | cons c r => exact ⟨c, r, rfl⟩
      refine ⟨hflen, c0, d7 (j := 0) (by rw [hcr]; rfl), ?_⟩
      have hc0 : ((⟨#[c0]⟩ : Str) = "0") ↔ (fY x).head? = some 48 := by
       rw [hfl, hcr, List.head?_cons]
       constructor
       ·intro z
        have := congrArg (fun y : Str => y.cps.toList.head?) z
        exact this
       ·intro z
        cases z
        decide +kernel
      have last : cB x = true → k [some (V.str x), some (V.str fg)] H2 := fun z => by
       subst hk
       push_cast [rdT]
       have := q H2 s1
       unfold iZ at this
       rw [if_pos z] at this
       exact ⟨_, (qO z).1, Nat.le_trans (qO z).2 (by decide), this⟩
      have l1 : 1 ≤ (fY x).length := by omega
      have l2 : (fY x).length ≤ 20 := by omega
      by_cases c4 : (⟨#[c0]⟩ : Str) = "0"
      ·rw [if_pos c4]
       by_cases c5 : x = "0"
       ·rw [if_neg (by rw [decide_eq_true c5]; decide)]
        refine last ?_
        unfold cB
        rw [decide_eq_true l1, decide_eq_true l2, c3, decide_eq_false (show ¬ x ≠ "0" from fun z => z c5), Bool.and_false]
        rfl
       ·rw [if_pos (by rw [decide_eq_false c5]; decide)]
        refine hno s1 ?_
        unfold cB
        rw [decide_eq_true (hc0.mp c4), decide_eq_true c5]
        simp
      ·rw [if_neg c4]
       refine last ?_
       unfold cB
       rw [decide_eq_true l1, decide_eq_true l2, c3, decide_eq_false (fun z => c4 (hc0.mpr z))]
       rfl
   ·rw [if_pos (by rw [decide_eq_false c2]; decide)]
    refine hno (Same.refl _) ?_
    unfold cB
    rw [decide_eq_false (show ¬ (fY x).length ≤ 20 by omega), Bool.and_false]
    rfl
  ·rw [if_neg c1]
   refine hno (Same.refl _) ?_
   unfold cB
   rw [decide_eq_false (show ¬ 1 ≤ (fY x).length by omega)]
   rfl
theorem Hw (hB : ∀ x : Str, x ∈ BLs → mg x = none) (CNumberFrom : Cal P w K mg base "number_from" 1 ["word"] yM) (F : Fun K "numbers_from" "numbers_from" bO f fd) : cX P w K mg base CX0 2 f fd ["words"] Aa := by
 refine F.okq lM (fun vs H Q E h => ?_) (fun cdv A outer s H vs Q E hr h => ?_)
 ·obtain ⟨a, ts, rfl, _⟩ := h
  rfl
 ·obtain ⟨a, ts, rfl, ea, hz, ht, q1, q2⟩ := h
  refine ⟨_, (aA (Ar (NX := ["words", "numbers"]) (kX := (aj bO).names) ["word"] [none] gR lM.nd rfl rfl ⟨rfl, by decide +kernel, by decide +kernel, by decide +kernel, by decide +kernel⟩ rfl (fK (au rC)) (fun _ _ _ _ _ => (fL 0 (show List.Nodup (["word"] : List Str) from by decide +kernel) rfl (Or.inl rfl))) (fun _ _ _ _ _ => jx) (fun _ _ _ _ _ => (aX CNumberFrom (hr.mono (by decide)) rfl dM (ak (pU 0) aq))))
   (aG (aM (jE (bA RT gF (au gR) (by with_unfolding_all rfl)) gF (au gR))))), ?_⟩
  refine aP fun k hk => ?_
  push_cast
  refine gY fun R hR => ?_
  push_cast [ea]
  obtain ⟨Pc, hPc⟩ : ∃ Pv : Nat → List V → L2.St → Hp → Prop, Pv = fun (i : Nat) acc τ H' => ∃ (o1 : Option V), Same H H' ∧ acc = (ts.take i).map iZ ∧ τ = [o1] := ⟨_, rfl⟩
  refine rY hR (xs := ts.map V.str) (bx (by rw [List.length_map]; exact hz)) Pc (by rw [hPc]; exact ⟨none, Same.refl _, rfl, rfl⟩) ?_ ?_ ?_ ?_
  ·intro i acc τ H1 pc
   rw [hPc] at pc
   obtain ⟨_, _, rfl, _⟩ := pc
   rw [List.length_map]
   exact List.length_take_le _ _
  ·intro i acc τ H1 pc
   rw [hPc] at pc
   obtain ⟨_, s1, _⟩ := pc
   exact SqL.of (s1 _ _ ea)
  ·intro i x acc τ H1 hx pc
   rw [hPc] at pc
   obtain ⟨_, s1, rfl, rfl⟩ := pc
   rw [List.getElem?_map] at hx
   obtain ⟨t, ht1, rfl⟩ := Option.map_eq_some_iff.mp hx
   push_cast
   refine ⟨t, rfl, ht t (List.mem_of_getElem? ht1), fun H2 s2 => ?_⟩
   rw [hPc]
   refine ⟨_, s1.trans s2, ?_, rfl⟩
   rw [take_snoc ht1, List.map_append]
   rfl
  ·intro acc τ H1 d pc hd
   rw [hPc] at pc
   obtain ⟨_, s1, rfl, rfl⟩ := pc
   rw [List.length_map, List.take_length]
   have s2 := s1.trans (aB (o := HO.lst (ts.map iZ)) hd)
   have e2 : upd H1 d (HO.lst (ts.map iZ)) d = _ := aD
   have hd0 : H d = none := s1.none hd
   generalize upd H1 d (HO.lst (ts.map iZ)) = H2 at s2 e2 ⊢
   subst hk
   push_cast [e2]
   refine ⟨rfl, Di ts, ?_⟩
   split
   ·rename_i c
    exact q1 _ s2 ((Ay ts).mp c)
   ·rename_i c
    have hok : ∀ t ∈ ts, cB t = true := fun t ht => by
     cases e : cB t with
     | true => rfl
     | false => exact absurd ((Ay ts).mpr ⟨t, ht, e⟩) c
    exact q2 d _ hd0 s2 hok (by rw [e2, Dh hok])
abbrev cZ : Stmt := top 16
theorem yQ : bh ["item"] ["item"] (aj cZ) := ⟨rfl, rfl, rfl, by decide +kernel, rfl, by decide +kernel, by decide +kernel⟩
theorem dF : Nm ["item"] (aj cZ) 0 "item" := .of (by decide +kernel)
theorem tR : (aj cZ).names.lookup ("str" : Str) = some .globalImplicit := by decide +kernel
theorem zR : Bn "item_text" := ⟨by decide +kernel, by decide +kernel⟩
abbrev bZ : Stmt := top 18
theorem eE : bh ["word", "one", "dots", "other", "sign"] ["word"] (aj bZ) := ⟨rfl, rfl, rfl, by decide +kernel, rfl, by decide +kernel, by decide +kernel⟩
theorem j7 : Nm ["word", "one", "dots", "other", "sign"] (aj bZ) 0 "word" := .of (by decide +kernel)
theorem iu : Nm ["word", "one", "dots", "other", "sign"] (aj bZ) 1 "one" := .of (by decide +kernel)
theorem pI : Nm ["word", "one", "dots", "other", "sign"] (aj bZ) 2 "dots" := .of (by decide +kernel)
theorem ig : Nm ["word", "one", "dots", "other", "sign"] (aj bZ) 3 "other" := .of (by decide +kernel)
theorem pH : Nm ["word", "one", "dots", "other", "sign"] (aj bZ) 4 "sign" := .of (by decide +kernel)
theorem bY : (aj bZ).names.lookup ("number_from" : Str) = some .globalImplicit := by decide +kernel
theorem zT : Bn "item_from" := ⟨by decide +kernel, by decide +kernel⟩
theorem Cp {i : Int} (h : SmI i) : -(2 ^ 70) < i ∧ i < 2 ^ 70 := by
 have h1 : i.natAbs < 10 ^ 20 := h
 have h2 : (10 : Nat) ^ 20 < 2 ^ 70 := by decide
 omega
theorem HD (hB : ∀ x : Str, x ∈ BLs → mg x = none) (F : Fun K "item_text" "item_text" cZ f fd) : cX P w K mg base CX0 1 f fd ["item"] Af := by
 refine F.okq yQ (fun vs H Q E h => ?_) (fun cdv A outer s H vs Q E hr h => ?_)
 ·obtain ⟨t, it, rfl, _⟩ := h
  rfl
 ·obtain ⟨t, it, rfl, ⟨hi⟩, hs, q⟩ := h
  refine ⟨_, (aA (cD (bA (cO hr.bL) (bR dI (au dF) ao (fun _ _ => rfl)) aZ (aU _)) (aG (aM (qN lG tR (hB "str" mD) boot_str mL (ak (bR dI (au dF) ao (fun _ _ => rfl)) aq)))) bI)
   (aA (cD (bA (cO hr.bL) (bR dI (au dF) ao (fun _ _ => rfl)) aZ (aU _)) (aG (aM (G5 (oE (bR dI (au dF) ao (fun _ _ => rfl)) (vH (oE (bR dI (au dF) ao (fun _ _ => rfl)) zb)))))) bI)
   (aG (aM (G5 (oE (bR dI (au dF) ao (fun _ _ => rfl)) (vH (oE (bR dI (au dF) ao (fun _ _ => rfl)) zb)))))))), ?_⟩
  cases it with
  | one a =>
   rw [Bp] at hi
   push_cast [rdF, hi]
   exact ⟨qj hs, q _ (Same.refl _)⟩
  | rng a b =>
   rw [Bo] at hi
   push_cast [rdF, hi]
   exact ⟨Cp hs.1, Cp hs.2, q _ (Same.refl _)⟩
  | bits m v =>
   rw [xY] at hi
   push_cast [rdF, hi]
   exact ⟨Cp hs.1, Cp hs.2, q _ (Same.refl _)⟩
theorem HF (hB : ∀ x : Str, x ∈ BLs → mg x = none) (CNumberFrom : Cal P w K mg base "number_from" 1 ["word"] yM) (F : Fun K "item_from" "item_from" bZ f fd) : cX P w K mg base CX0 2 f fd ["word"] Pg := by
 refine F.okq eE (fun vs H Q E h => ?_) (fun cdv A outer s H vs Q E hr h => ?_)
 ·obtain ⟨it, rfl, _⟩ := h
  rfl
 ·obtain ⟨it, rfl, hs, q⟩ := h
  refine ⟨_, (aA (iz (jQ PySem.F.slot_str_partition PySem.F.type_str_partition Az (au j7) (ak aZ aq)) (jP (n := 3) rfl (bG (cP iu eE.nd) (bG (cP pI eE.nd) (bG (cP ig eE.nd) gm)))))
   (aA (cD (Aq (au pI)) (aG (aM (eU (ak aZ (ak (aX CNumberFrom (hr.mono (by decide)) bY dM (ak (au iu) aq)) (ak (aX CNumberFrom (hr.mono (by decide)) bY dM (ak (au ig) aq)) aq)))))) bI)
   (aA (iz (jQ PySem.F.slot_str_partition PySem.F.type_str_partition Az (au j7) (ak aZ aq)) (jP (n := 3) rfl (bG (cP iu eE.nd) (bG (cP pH eE.nd) (bG (cP ig eE.nd) gm)))))
   (aA (cD (Aq (au pH)) (aG (aM (eU (ak aZ (ak (aX CNumberFrom (hr.mono (by decide)) bY dM (ak (au iu) aq)) (ak (aX CNumberFrom (hr.mono (by decide)) bY dM (ak (au ig) aq)) aq)))))) bI)
   (aG (aM (eU (ak aZ (ak (aX CNumberFrom (hr.mono (by decide)) bY dM (ak (au j7) aq)) aq))))))))), ?_⟩
  have hl : (itW it).length ≤ sizeLine := Nat.le_trans (Bm hs) (by decide)
  refine aP fun k hk => ?_
  push_cast [rdF]
  refine ⟨by decide +kernel, hl, fun p hp => ?_⟩
  have s1 := aB (o := HO.tup ((iD (itW it) "..").map V.str)) hp
  generalize upd H p (HO.tup ((iD (itW it) "..").map V.str)) = H1 at s1 ⊢
  have hs1 : ∀ i : Int, SmI i → (tsI i).length ≤ sizeLine := fun i h => Nat.le_trans (dG h) (by decide)
  have e0 : ((Str.empty.length : Int) != 0) = false := by decide +kernel
  have ed : ((((".." : Str).length : Nat) : Int) != 0) = true := by decide +kernel
  have ea : ((((("&" : Str).length : Nat) : Int) != 0)) = true := by decide +kernel
  have z0 : Str.empty.length ≤ sizeLine := by decide
  cases it with
  | one a =>
   have e1 : itW (.one a) = tsI a := rfl
   rw [e1] at hl ⊢
   rw [Jt]
   push_cast [rdF, List.map_cons, List.map_nil]
   subst hk
   refine aP fun k hk => ?_
   push_cast [rdG, e0]
   refine ⟨z0, ?_⟩
   subst hk
   refine aP fun k hk => ?_
   push_cast [rdG]
   refine ⟨by decide +kernel, hl, fun p2 hp2 => ?_⟩
   have s2 := s1.trans (aB (o := HO.tup ((iD (tsI a) "&").map V.str)) hp2)
   generalize upd H1 p2 (HO.tup ((iD (tsI a) "&").map V.str)) = H2 at s2 ⊢
   rw [O2]
   push_cast [rdG, List.map_cons, List.map_nil]
   subst hk
   refine aP fun k hk => ?_
   push_cast [rdG, e0]
   refine ⟨z0, ?_⟩
   subst hk
   push_cast [rdG]
   refine ⟨_, rfl, hs1 a hs, fun H3 s3 => ?_⟩
   rw [gJ hs]
   exact ⟨bx (by decide), fun p3 hp3 => q p3 _ ((s2.trans s3).none hp3) ((s2.trans s3).trans (aB hp3)) ⟨aD⟩⟩
  | rng a b =>
   have e1 : itW (.rng a b) = tsI a ++ ".." ++ tsI b := rfl
   rw [e1] at hl ⊢
   rw [Js]
   push_cast [rdF, List.map_cons, List.map_nil]
   subst hk
   refine aP fun k hk => ?_
   push_cast [rdG, ed]
   refine ⟨by decide +kernel, ?_⟩
   refine ⟨_, rfl, hs1 _ hs.1, fun H3 s3 => ?_⟩
   rw [gJ hs.1]
   refine ⟨_, rfl, hs1 _ hs.2, fun H4 s4 => ?_⟩
   rw [gJ hs.2]
   have s5 := s1.trans (s3.trans s4)
   exact ⟨bx (by decide), fun p3 hp3 => q p3 _ (s5.none hp3) (s5.trans (aB hp3)) ⟨aD⟩⟩
  | bits m v =>
   have e1 : itW (.bits m v) = tsI m ++ "&" ++ tsI v := rfl
   rw [e1] at hl ⊢
   rw [DY]
   push_cast [rdF, List.map_cons, List.map_nil]
   subst hk
   refine aP fun k hk => ?_
   push_cast [rdG, e0]
   refine ⟨z0, ?_⟩
   subst hk
   refine aP fun k hk => ?_
   push_cast [rdG]
   refine ⟨by decide +kernel, hl, fun p2 hp2 => ?_⟩
   have s2 := s1.trans (aB (o := HO.tup ((iD (tsI m ++ "&" ++ tsI v) "&").map V.str)) hp2)
   generalize upd H1 p2 (HO.tup ((iD (tsI m ++ "&" ++ tsI v) "&").map V.str)) = H2 at s2 ⊢
   rw [O1]
   push_cast [rdG, List.map_cons, List.map_nil]
   subst hk
   refine aP fun k hk => ?_
   push_cast [rdG, ea]
   refine ⟨by decide +kernel, ?_⟩
   refine ⟨_, rfl, hs1 _ hs.1, fun H3 s3 => ?_⟩
   rw [gJ hs.1]
   refine ⟨_, rfl, hs1 _ hs.2, fun H4 s4 => ?_⟩
   rw [gJ hs.2]
   have s5 := s2.trans (s3.trans s4)
   exact ⟨bx (by decide), fun p3 hp3 => q p3 _ (s5.none hp3) (s5.trans (aB hp3)) ⟨aD⟩⟩
abbrev bQ : Stmt := top 19
theorem gC : bh ["row", "words", "numbers", "width", "sign"] ["row"] (aj bQ) := ⟨rfl, rfl, rfl, by decide +kernel, rfl, by decide +kernel, by decide +kernel⟩
theorem xQ : Nm ["row", "words", "numbers", "width", "sign"] (aj bQ) 0 "row" := .of (by decide +kernel)
theorem j6 : Nm ["row", "words", "numbers", "width", "sign"] (aj bQ) 1 "words" := .of (by decide +kernel)
theorem g8 : Nm ["row", "words", "numbers", "width", "sign"] (aj bQ) 2 "numbers" := .of (by decide +kernel)
theorem j4 : Nm ["row", "words", "numbers", "width", "sign"] (aj bQ) 3 "width" := .of (by decide +kernel)
theorem jZ : Nm ["row", "words", "numbers", "width", "sign"] (aj bQ) 4 "sign" := .of (by decide +kernel)
theorem pA : (aj bQ).names.lookup ("is_kind" : Str) = some .globalImplicit := by decide +kernel
theorem tQ : (aj bQ).names.lookup ("len" : Str) = some .globalImplicit := by decide +kernel
theorem jH : (aj bQ).names.lookup ("numbers_from" : Str) = some .globalImplicit := by decide +kernel
theorem zQ : Bn "kind_from" := ⟨by decide +kernel, by decide +kernel⟩
abbrev b7 : Stmt := top 20
theorem mj : bh ["width", "sign", "row", "words", "items"] ["width", "sign", "row"] (aj b7) := ⟨rfl, rfl, rfl, by decide +kernel, rfl, by decide +kernel, by decide +kernel⟩
theorem xR : Nm ["width", "sign", "row", "words", "items"] (aj b7) 2 "row" := .of (by decide +kernel)
theorem j9 : Nm ["width", "sign", "row", "words", "items"] (aj b7) 3 "words" := .of (by decide +kernel)
theorem j8 : Nm ["width", "sign", "row", "words", "items"] (aj b7) 4 "items" := .of (by decide +kernel)
theorem tW : (aj b7).names.lookup ("all" : Str) = some .globalImplicit := by decide +kernel
theorem zU : Bn "case_from" := ⟨by decide +kernel, by decide +kernel⟩
theorem HB (hB : ∀ x : Str, x ∈ BLs → mg x = none) (CIsKind : Cal P w K mg base "is_kind" 2 ["width", "sign"] Ad) (CNumbersFrom : Cal P w K mg base "numbers_from" 2 ["words"] Aa) (F : Fun K "kind_from" "kind_from" bQ f fd) : cX P w K mg base CX0 3 f fd ["row"] Pb := by
 refine F.okq gC (fun vs H Q E h => ?_) (fun cdv A outer s H vs Q E hr h => ?_)
 ·obtain ⟨w, s, rfl, _⟩ := h
  rfl
 ·obtain ⟨w, s, rfl, h1, h2, h3, q⟩ := h
  refine ⟨_, (aA (bV j6 gC.nd (jQ PySem.F.slot_str_split PySem.F.type_str_split rD (au xQ) (ak aZ aq)))
   (aA (bV g8 gC.nd (aX CNumbersFrom (hr.mono (by decide)) jH t8 (ak (iW FZ (au j6) (lD ao) lE) aq)))
   (aA (cD (qL (jO (bA (iG hr.bL) (bR dI (au j6) ao (fun _ _ => rfl)) aZ (aU _)) (jO (bA vL (au g8) gF (aU _)) (jn (bA (iG hr.bL) (bW gZ tQ (hB "len" kE) PySem.boot_len lg (ak (au g8) aq)) ao (aU _)))))) (aG (aM gF)) bI)
   (aA (iz (au g8) (Lw (n := 2) rfl (bG (cP j4 gC.nd) (bG (cP jZ gC.nd) gm))))
   (aG (aM (jE (dR (aX CIsKind (hr.mono (by decide)) pA JL (ak (au j4) (ak (au jZ) aq)))) (eU (ak (au j4) (ak (au jZ) aq))) gF))))))), ?_⟩
  have hsw : SmI w := Nat.lt_of_le_of_lt (show w.natAbs ≤ 40 by omega) (by decide)
  have hss : SmI s := Nat.lt_of_le_of_lt (show s.natAbs ≤ 40 by omega) (by decide)
  have hl : (cF w s).length ≤ sizeLine := Nat.le_trans (uI hsw hss) (by decide)
  refine aP fun k hk => ?_
  push_cast [rdG]
  rw [xW]
  refine ⟨by decide +kernel, hl, bx (by show 3 ≤ 1000000; decide), fun p hp => ?_⟩
  have s1 := aB (o := HO.lst (List.map V.str [("choice" : Str), tsI w, tsI s])) hp
  have e1 : upd H p (HO.lst (List.map V.str [("choice" : Str), tsI w, tsI s])) p = _ := aD
  generalize upd H p (HO.lst (List.map V.str [("choice" : Str), tsI w, tsI s])) = H1 at s1 e1 ⊢
  push_cast [List.map_cons, List.map_nil] at e1
  subst hk
  refine aP fun k hk => ?_
  have hcut : jK [V.str ("choice" : Str), V.str (tsI w), V.str (tsI s)] (some 1) none = [tsI w, tsI s].map V.str := (nM [V.str ("choice" : Str), V.str (tsI w), V.str (tsI s)] 1 (by show 1 ≤ 3; decide)).trans rfl
  push_cast [rdG, e1, hcut]
  intro p2 hp2
  have s2 := s1.trans (aB (o := HO.lst [V.str (tsI w), V.str (tsI s)]) hp2)
  have e2 : upd H1 p2 (HO.lst [V.str (tsI w), V.str (tsI s)]) p2 = some (.lst ([tsI w, tsI s].map V.str)) := aD
  have e1b : upd H1 p2 (HO.lst [V.str (tsI w), V.str (tsI s)]) p = _ := aB hp2 _ _ e1
  generalize upd H1 p2 (HO.lst [V.str (tsI w), V.str (tsI s)]) = H2 at s2 e2 e1b ⊢
  have hm : ∀ t ∈ [tsI w, tsI s], t = tsI w ∨ t = tsI s := fun t ht => by simpa using ht
  refine ⟨p2, _, rfl, e2, by show 2 ≤ 1000000; decide, fun t ht => ?_, fun H3 s3 ⟨t, ht, z⟩ => ?_, fun p3 H3 hp3 s3 _ e3 => ?_⟩
  ·rcases hm t ht with rfl | rfl
   ·exact Nat.le_trans (dG hsw) (by decide)
   ·exact Nat.le_trans (dG hss) (by decide)
  ·rcases hm t ht with rfl | rfl
   ·rw [(vd hsw).1] at z; cases z
   ·rw [(vd hss).1] at z; cases z
  have e3' : H3 p3 = some (.lst [.int w, .int s]) := by
   rw [e3]
   show some (HO.lst [V.int (qP (tsI w)), V.int (qP (tsI s))]) = _
   rw [(vd hsw).2, (vd hss).2]
  have e1c := s3 _ _ e1b
  have s4 := s2.trans s3
  subst hk
  refine aP fun k hk => ?_
  push_cast [rdG, e1c, e3']
  rw [if_neg (by decide)]
  subst hk
  refine aP fun k hk => ?_
  push_cast [rdG, e3']
  subst hk
  push_cast [rdG]
  have hkd : vQ (.int w) (.int s) = true := by
   show ((decide (1 ≤ w) && decide (w ≤ 40)) && (decide (0 ≤ s) && decide (s ≤ 1))) = true
   rw [decide_eq_true h1, decide_eq_true h2, decide_eq_true (show 0 ≤ s by omega), decide_eq_true (show s ≤ 1 by omega)]
   rfl
  refine ⟨_, _, fun _ => True, .int w, .int s, rfl, .int _, .int _, ?_⟩
  rw [hkd]
  push_cast [rdG]
  exact ⟨bx (by decide), fun p4 hp4 => q p4 _ (s4.none hp4) (s4.trans (aB hp4)) aD⟩
theorem HN (hB : ∀ x : Str, x ∈ BLs → mg x = none) (CIsItem : Cal P w K mg base "is_item" 2 ["width", "sign", "thing"] Ae) (CItemFrom : Cal P w K mg base "item_from" 2 ["word"] Pg) (F : Fun K "case_from" "case_from" b7 f fd) : cX P w K mg base CX0 3 f fd ["width", "sign", "row"] Ph := by
 refine F.okq mj (fun vs H Q E h => ?_) (fun cdv A outer s H vs Q E hr h => ?_)
 ·obtain ⟨w, s, its, ok, rfl, _⟩ := h
  rfl
 ·obtain ⟨w, s, its, ok, rfl, h1, h2, h3, hn, hok, hnew, q⟩ := h
  refine ⟨_, (aA (bV j9 mj.nd (jQ PySem.F.slot_str_split PySem.F.type_str_split rD (au xR) (ak aZ aq)))
   (aA (Ar (NX := ["width", "sign", "row", "words", "items"]) (kX := (aj b7).names) ["word"] [none] j8 mj.nd rfl rfl ⟨rfl, by decide +kernel, by decide +kernel, by decide +kernel, by decide +kernel⟩ rfl (fK (iW FZ (au j9) (lD ao) lE)) (fun _ _ _ _ _ => (fL 0 (show List.Nodup (["word"] : List Str) from by decide +kernel) rfl (Or.inl rfl))) (fun _ _ _ _ _ => jx) (fun _ _ _ _ _ => (aX CItemFrom (hr.mono (by decide)) rfl zT (ak (pU 0) aq))))
   (aA (cD (qL (jO (bA (iG hr.bL) (bR dI (au j9) ao (fun _ _ => rfl)) aZ (aU _)) (jn (jo (dR (bW (lH rfl) tW (hB "all" vP) PyProof.Rows.Boot.«all» wj (ak (jt (NX := ["width", "sign", "row", "words", "items"]) (kX := (aj b7).names) ["item", "width", "sign"] [none, some 0, some 1] rfl rfl ⟨rfl, by decide +kernel, by decide +kernel, by decide +kernel, by decide +kernel⟩ rfl (fK (au j8)) (fun _ _ _ _ _ => (fL 0 (show List.Nodup (["item", "width", "sign"] : List Str) from by decide +kernel) rfl (Or.inl rfl))) (fun _ _ _ _ _ => jx) (fun _ _ _ _ _ => (aX CIsItem (hr.mono (by decide)) rfl JM (ak (pU 1) (ak (pU 2) (ak (pU 0) aq)))))) aq))))))) (aG (aM gF)) bI)
   (aG (aM (au j8)))))), ?_⟩
  have hsm : ∀ it ∈ its, wF it := fun it h => Pz h2 h3 (hok it h)
  have hl : (b8 its).length ≤ sizeLine := Nat.le_trans (uP hsm hn) (by decide)
  refine aP fun k hk => ?_
  push_cast [rdG]
  rw [yj]
  refine ⟨by decide +kernel, hl, bx (show (fj its).length ≤ 1000000 by simp [fj]; omega), fun p hp => ?_⟩
  have s1 := aB (o := HO.lst ((fj its).map V.str)) hp
  have e1 : upd H p (HO.lst ((fj its).map V.str)) p = some (.lst (V.str "case" :: (its.map itW).map V.str)) := aD
  generalize upd H p (HO.lst ((fj its).map V.str)) = H1 at s1 e1 ⊢
  subst hk
  refine aP fun k hk => ?_
  have hcut : jK (V.str ("case" : Str) :: (its.map itW).map V.str) (some 1) none = (its.map itW).map V.str := (nM (V.str ("case" : Str) :: (its.map itW).map V.str) 1 (by rw [List.length_cons]; omega)).trans rfl
  push_cast [rdG]
  refine gY fun R hR => ?_
  push_cast [rdG, e1, hcut]
  intro p2 hp2
  have s2 := s1.trans (aB (o := HO.lst ((its.map itW).map V.str)) hp2)
  have e2 : upd H1 p2 (HO.lst ((its.map itW).map V.str)) p2 = _ := aD
  have e1b : upd H1 p2 (HO.lst ((its.map itW).map V.str)) p = _ := aB hp2 _ _ e1
  generalize upd H1 p2 (HO.lst ((its.map itW).map V.str)) = H2 at s2 e2 e1b ⊢
  have hn2 : sV ok H2 := hnew.same s2
  obtain ⟨Pc, hPc⟩ : ∃ Pv : Nat → List V → L2.St → Hp → Prop, Pv = fun (i : Nat) acc τ H' => ∃ (o1 : Option V), Same H2 H' ∧ aF ok H' acc ((its.take i).map itD) ∧ τ = [o1] := ⟨_, rfl⟩
  refine rY hR (xs := (its.map itW).map V.str) (bx (by rw [List.length_map, List.length_map]; omega)) Pc (by rw [hPc]; exact ⟨none, Same.refl _, .nil, rfl⟩) ?_ ?_ ?_ ?_
  ·intro i acc τ H3 pc
   rw [hPc] at pc
   obtain ⟨_, _, ts, _⟩ := pc
   rw [ts.length, List.length_map]
   exact List.length_take_le _ _
  ·intro i acc τ H3 pc
   rw [hPc] at pc
   obtain ⟨_, s3, _⟩ := pc
   exact SqL.of (s3 _ _ e2)
  ·intro i x acc τ H3 hx pc
   rw [hPc] at pc
   obtain ⟨_, s3, ts, rfl⟩ := pc
   rw [List.map_map, List.getElem?_map] at hx
   obtain ⟨it, hit, rfl⟩ := Option.map_eq_some_iff.mp hx
   push_cast [Function.comp_apply]
   refine ⟨it, rfl, hsm it (List.mem_of_getElem? hit), fun t4 H4 ht4 s4 hi4 => ?_⟩
   rw [hPc]
   refine ⟨_, s3.trans s4, ?_, rfl⟩
   rw [take_snoc hit, List.map_append]
   exact (ts.same s4).append (.cons (hi4.tree (hn2 _ _ s3 ht4)) .nil)
  ·intro acc τ H3 d pc hd
   rw [hPc] at pc
   obtain ⟨_, s3, ts, rfl⟩ := pc
   rw [List.length_map, List.length_map, List.take_length] at ts
   have s4 := s3.trans (aB (o := HO.lst acc) hd)
   have e4 : upd H3 d (HO.lst acc) d = _ := aD
   have ts4 := ts.same (aB (o := HO.lst acc) hd)
   have hd0 : H d = none := (s2.trans s3).none hd
   have od : ok d := hn2 _ _ s3 hd
   generalize upd H3 d (HO.lst acc) = H4 at s4 e4 ts4 ⊢
   have e1d := s4 _ _ e1b
   have hal : acc.length ≤ 1000000 := by rw [ts.length, List.length_map]; omega
   subst hk
   push_cast [rdG, e1d]
   refine gY fun R2 hR2 => ?_
   push_cast [rdG, e4]
   refine v7 (cW w s) (fun τ => ∃ o1, τ = [o1, some (.int w), some (.int s)]) hR2 ts4 e4 hal ⟨none, rfl⟩ ?_ ?_
   ·rintro x1 d1 τ H5 Qn _ s5 t5 ⟨o1, rfl⟩ qn
    push_cast
    exact ⟨w, s, x1, ok, d1, rfl, h1, h2, h3, t5, fun H' s' => qn _ _ ⟨_, rfl⟩ s'⟩
   ·intro H5 l s5 hl5
    have s6 := s5.trans (aB (o := HO.lst (((its.map itD).map (cW w s)).map V.bl)) hl5)
    have e6 : upd H5 l (HO.lst (((its.map itD).map (cW w s)).map V.bl)) l = _ := aD
    generalize upd H5 l (HO.lst (((its.map itD).map (cW w s)).map V.bl)) = H6 at s6 e6 ⊢
    push_cast [e6]
    refine ⟨_, rfl, ?_⟩
    have hall : (((its.map itD).map (cW w s)).all id) = true := by
     rw [List.all_eq_true]
     intro b hb
     obtain ⟨d1, hd1, rfl⟩ := List.mem_map.mp hb
     obtain ⟨it, hit, rfl⟩ := List.mem_map.mp hd1
     exact S6 (hok it hit)
    rw [hall, if_neg (by decide)]
    exact q d H6 hd0 ((s2.trans s4).trans s6) (.lst od (s6 _ _ e4) hal (ts4.same s6))
abbrev aR : Stmt := top 21
theorem cA : bh ["text", "rows", "kind", "width", "sign", "cases", "own", "row", "items"] ["text"] (aj aR) := ⟨rfl, rfl, rfl, by decide +kernel, rfl, by decide +kernel, by decide +kernel⟩
theorem tO : Nm ["text", "rows", "kind", "width", "sign", "cases", "own", "row", "items"] (aj aR) 0 "text" := .of (by decide +kernel)
theorem iR : Nm ["text", "rows", "kind", "width", "sign", "cases", "own", "row", "items"] (aj aR) 1 "rows" := .of (by decide +kernel)
theorem iQ : Nm ["text", "rows", "kind", "width", "sign", "cases", "own", "row", "items"] (aj aR) 2 "kind" := .of (by decide +kernel)
theorem iM : Nm ["text", "rows", "kind", "width", "sign", "cases", "own", "row", "items"] (aj aR) 3 "width" := .of (by decide +kernel)
theorem iK : Nm ["text", "rows", "kind", "width", "sign", "cases", "own", "row", "items"] (aj aR) 4 "sign" := .of (by decide +kernel)
theorem iJ : Nm ["text", "rows", "kind", "width", "sign", "cases", "own", "row", "items"] (aj aR) 5 "cases" := .of (by decide +kernel)
theorem tM : Nm ["text", "rows", "kind", "width", "sign", "cases", "own", "row", "items"] (aj aR) 6 "own" := .of (by decide +kernel)
theorem lU : Nm ["text", "rows", "kind", "width", "sign", "cases", "own", "row", "items"] (aj aR) 7 "row" := .of (by decide +kernel)
theorem iI : Nm ["text", "rows", "kind", "width", "sign", "cases", "own", "row", "items"] (aj aR) 8 "items" := .of (by decide +kernel)
theorem kZ : (aj aR).names.lookup ("case_from" : Str) = some .globalImplicit := by decide +kernel
theorem jJ : (aj aR).names.lookup ("enumerate" : Str) = some .globalImplicit := by decide +kernel
theorem kY : (aj aR).names.lookup ("kind_from" : Str) = some .globalImplicit := by decide +kernel
theorem wz : Bn "choice_from" := ⟨by decide +kernel, by decide +kernel⟩
theorem zm (hB : ∀ x : Str, x ∈ BLs → mg x = none) (CKindFrom : Cal P w K mg base "kind_from" 3 ["row"] Pb) (CCaseFrom : Cal P w K mg base "case_from" 3 ["width", "sign", "row"] Ph) (F : Fun K "choice_from" "choice_from" aR f fd) : cX P w K mg base CX0 4 f fd ["text"] Pj := by
 refine F.okq cA (fun vs H Q E h => ?_) (fun cdv A outer s H vs Q E hr h => ?_)
 ·obtain ⟨w, s, css, ok, rfl, _⟩ := h
  rfl
 ·obtain ⟨w, s, css, ok, rfl, hc, hnew, q⟩ := h
  refine ⟨_, (aA (bV iR cA.nd (jQ PySem.F.slot_str_split PySem.F.type_str_split rD (au tO) (ak aZ aq)))
   (aA (bV iQ cA.nd (aX CKindFrom (hr.mono (by decide)) kY zQ (ak (bR dI (au iR) ao (fun _ _ => rfl)) aq)))
   (aA (cD (bA vL (au iQ) gF (aU _)) (aG xq) bI)
   (aA (iz (au iQ) (jP (n := 2) rfl (bG (cP iM cA.nd) (bG (cP iK cA.nd) gm))))
   (aA (bV iJ cA.nd (iB aq))
   (aA (jq PassesOwn.never rfl (GZ jJ (hB "enumerate" vO) (ak (iW FZ (au iR) (lD ao) lE) aq) (Mp ao.h Rt)) (jP (n := 2) rfl (bG (cP tM cA.nd) (bG (cP lU cA.nd) gm)))
   (aA (bV iI cA.nd (aX CCaseFrom (hr.mono (by decide)) kZ zU (ak (au iM) (ak (au iK) (ak (au lU) aq)))))
   (aA (cD (bA vL (au iI) gF (aU _)) (aG xq) bI)
   (aG (jr (ju (au iJ) (au iI)))))))
   (aG (aM (eU (ak (au iM) (ak (au iK) (ak (au iJ) aq)))))))))))), ?_⟩
  have hl : (fP w s css).length ≤ sizeLine := Nat.le_trans hc.len (by decide)
  obtain ⟨h1, h2, h3, h4, h5⟩ := id hc
  refine aP fun k hk => ?_
  push_cast [rdG]
  rw [tX]
  refine ⟨by decide +kernel, hl, bx (show (cF w s :: css.map b8).length ≤ 1000000 by rw [List.length_cons, List.length_map]; omega), fun p hp => ?_⟩
  have s1 := aB (o := HO.lst ((cF w s :: css.map b8).map V.str)) hp
  have e1 : upd H p (HO.lst ((cF w s :: css.map b8).map V.str)) p = some (.lst (V.str (cF w s) :: (css.map b8).map V.str)) := aD
  generalize upd H p (HO.lst ((cF w s :: css.map b8).map V.str)) = H1 at s1 e1 ⊢
  subst hk
  refine aP fun k hk => ?_
  push_cast [rdG, e1]
  refine ⟨w, s, rfl, h1, h2, h3, fun p2 H2 hp2 s12 e2 => ?_⟩
  have s2 := s1.trans s12
  have e1b := s12 _ _ e1
  push_cast
  subst hk
  refine aP fun k hk => ?_
  push_cast [rdG]
  subst hk
  refine aP fun k hk => ?_
  push_cast [rdG, e2]
  subst hk
  refine aP fun k hk => ?_
  push_cast [rdG]
  refine ⟨bx (by decide), fun c hc3 => ?_⟩
  have hcH : H c = none := s2.none hc3
  have s3 := s2.trans (aB (o := HO.lst []) hc3)
  have e3 : upd H2 c (HO.lst []) c = _ := aD
  have e1c : upd H2 c (HO.lst []) p = _ := aB hc3 _ _ e1b
  generalize upd H2 c (HO.lst []) = H3 at s3 e3 e1c ⊢
  subst hk
  refine aP fun k hk => ?_
  refine nH fun R hR => ?_
  have hcut : jK (V.str (cF w s) :: (css.map b8).map V.str) (some 1) none = (css.map b8).map V.str := (nM (V.str (cF w s) :: (css.map b8).map V.str) 1 (by rw [List.length_cons]; omega)).trans rfl
  push_cast [rdG, e1c, hcut]
  refine fun p4 hp4 => ⟨by decide, by decide, ?_⟩
  have s4 := s3.trans (aB (o := HO.lst ((css.map b8).map V.str)) hp4)
  have e4 : upd H3 p4 (HO.lst ((css.map b8).map V.str)) p4 = _ := aD
  have e3b : upd H3 p4 (HO.lst ((css.map b8).map V.str)) c = _ := aB hp4 _ _ e3
  have hpc : p4 ≠ c := fun z => by rw [z, e3] at hp4; cases hp4
  generalize upd H3 p4 (HO.lst ((css.map b8).map V.str)) = H4 at s4 e4 e3b ⊢
  obtain ⟨Pv, hPv⟩ : ∃ Pv : Nat → L2.St → Hp → Prop, Pv = fun (i : Nat) σ H' => ∃ (ls : List Addr) (o6 o7 o8 : Option V), Same H H' ∧ H' p4 = some (.lst ((css.map b8).map V.str)) ∧ H' c = some (.lst (ls.map V.ref)) ∧ aF (fun a => ok a ∧ a ≠ c) H' (ls.map V.ref) ((css.take i).map fB) ∧ c ∉ ls ∧ (∀ q ∈ ls, H q = none) ∧
   σ = [some (.str (fP w s css)), some (.ref p), some (.ref p2), some (.int w), some (.int s), some (.ref c), o6, o7, o8] := ⟨_, rfl⟩
  refine Tf hR css.length Pv (by rw [hPv]; exact ⟨[], _, _, _, s4, e4, e3b, .nil, List.not_mem_nil, fun q h => absurd h List.not_mem_nil, rfl⟩) ?_ ?_ ?_ ?_
  ·intro i σ H5 hi pv
   rw [hPv] at pv
   obtain ⟨ls, _, _, _, _, e5, _⟩ := pv
   exact ⟨_, _, SqL.of e5, by rw [List.map_map, List.getElem?_map, List.getElem?_eq_getElem hi]; rfl⟩
  ·intro σ H5 pv
   rw [hPv] at pv
   obtain ⟨ls, _, _, _, _, e5, _⟩ := pv
   exact ⟨_, SqL.of e5, by rw [List.length_map, List.length_map]⟩
  ·intro i σ H5 x H6 hi pv hy
   rw [hPv] at pv
   obtain ⟨ls, o6, o7, o8, s5, e5, c5, ts, hcl, hls, rfl⟩ := pv
   obtain ⟨p5, x1, rfl, hp5, rfl, hx⟩ := hy
   have hx1 := hx _ (SqL.of e5)
   rw [List.map_map, List.getElem?_map] at hx1
   obtain ⟨its, hits, rfl⟩ := Option.map_eq_some_iff.mp hx1
   have s56 := aB (o := HO.tup [V.int ((i + Int.toNat 1 : Nat) : Int), (V.str ∘ b8) its]) hp5
   have s6 := s5.trans s56
   have e6 : upd H5 p5 (HO.tup [V.int ((i + Int.toNat 1 : Nat) : Int), (V.str ∘ b8) its]) p5 = some (.tup [V.int ((i + Int.toNat 1 : Nat) : Int), V.str (b8 its)]) := aD
   generalize upd H5 p5 (HO.tup [V.int ((i + Int.toNat 1 : Nat) : Int), (V.str ∘ b8) its]) = H6 at s56 s6 e6 ⊢
   have hm := List.mem_of_getElem? hits
   push_cast [rdG, e6]
   have c6 := s56 _ _ c5
   refine ⟨w, s, its, fun a => ok a ∧ a ≠ c, rfl, h1, h2, h3, (h4 its hm).1, (h4 its hm).2, fun Hx a sx ha => ⟨hnew _ _ (s6.trans sx) ha, fun z => ?_⟩, fun q7 H7 hq7 s7 t7 => ?_⟩
   ·subst z
    rw [sx _ _ c6] at ha
    cases ha
   have c7 := s7 _ _ c6
   push_cast [c7]
   have hlen : ls.length = i := by
    have := ts.length
    rw [List.length_map, List.length_map, List.length_take] at this
    omega
   refine ⟨Nat.lt_of_lt_of_le (show (ls.map V.ref).length < 1000 by rw [List.length_map]; omega) (bx (by decide)), ?_⟩
   rw [hPv]
   have eT : ls.map V.ref ++ [V.ref q7] = (ls ++ [q7]).map V.ref := by simp
   rw [eT]
   have s67 := s6.trans s7
   have k7 : ∀ a o, (ok a ∧ a ≠ c) → H7 a = some o → (ok a ∧ a ≠ c) ∧ upd H7 c (HO.lst ((ls ++ [q7]).map V.ref)) a = some o := fun a o h e => ⟨h, by rw [aH h.2]; exact e⟩
   have hq : q7 ≠ c := fun z => by rw [z, c6] at hq7; cases hq7
   refine ⟨ls ++ [q7], _, _, _, fun a o e => ?_, ?_, aD, ?_, ?_, ?_, rfl⟩
   ·have hac : a ≠ c := fun z => by rw [z, hcH] at e; cases e
    rw [aH hac]
    exact s67 _ _ e
   ·rw [aH hpc]
    exact s7 _ _ (s56 _ _ e5)
   ·have z := ((ts.same (s56.trans s7)).keep k7).append (.cons (t7.keep k7) .nil)
    rw [eT, show (css.take i).map fB ++ [fB its] = (css.take i ++ [its]).map fB by simp] at z
    rw [take_snoc hits]
    exact z
   ·intro z
    rcases List.mem_append.mp z with z | z
    ·exact hcl z
    ·exact hq (List.mem_singleton.mp z).symm
   ·intro a ha
    rcases List.mem_append.mp ha with h8 | h8
    ·exact hls a h8
    ·rw [List.mem_singleton.mp h8]
     exact s6.none hq7
  ·intro σ H5 pv
   rw [hPv] at pv
   obtain ⟨ls, o6, o7, o8, s5, e5, c5, ts, hcl, hls, rfl⟩ := pv
   show k _ _
   subst hk
   push_cast [rdG]
   refine ⟨bx (by decide), fun d hd => ?_⟩
   have s6 := aB (o := HO.tup [V.int w, V.int s, V.ref c]) hd
   rw [List.take_length] at ts
   have hll : ls.length = css.length := by have := ts.length; simpa using this
   have ts6 : aF ok (upd H5 d (HO.tup [V.int w, V.int s, V.ref c])) (ls.map V.ref) (css.map fB) := ts.keep fun a o h e => ⟨h.1, s6 _ _ e⟩
   have oc : ok c := hnew H c (Same.refl _) hcH
   refine q d c ls _ (s5.trans s6) aD (s6 _ _ c5) hcl hcH hls hll ?_
   exact .tup (hnew _ _ s5 hd) aD (by show 3 ≤ 1000000; decide) (.cons (.int _) (.cons (.int _) (.cons (.lst oc (s6 _ _ c5) (by rw [List.length_map]; omega) ts6) .nil)))
abbrev bD : Stmt := top 17
theorem dH : bh ["choice", "width", "sign", "cases", "rows", "items"] ["choice"] (aj bD) := ⟨rfl, rfl, rfl, by decide +kernel, rfl, by decide +kernel, by decide +kernel⟩
theorem tL : Nm ["choice", "width", "sign", "cases", "rows", "items"] (aj bD) 0 "choice" := .of (by decide +kernel)
theorem lR : Nm ["choice", "width", "sign", "cases", "rows", "items"] (aj bD) 1 "width" := .of (by decide +kernel)
theorem lQ : Nm ["choice", "width", "sign", "cases", "rows", "items"] (aj bD) 2 "sign" := .of (by decide +kernel)
theorem lO : Nm ["choice", "width", "sign", "cases", "rows", "items"] (aj bD) 3 "cases" := .of (by decide +kernel)
theorem iH : Nm ["choice", "width", "sign", "cases", "rows", "items"] (aj bD) 4 "rows" := .of (by decide +kernel)
theorem lN : Nm ["choice", "width", "sign", "cases", "rows", "items"] (aj bD) 5 "items" := .of (by decide +kernel)
theorem wu : Bn "choice_text" := ⟨by decide +kernel, by decide +kernel⟩
abbrev cN : Stmt := top 33
theorem wM : bh ["_law_item_here"] ["_law_item_here"] (aj cN) := ⟨rfl, rfl, rfl, by decide +kernel, rfl, by decide +kernel, by decide +kernel⟩
theorem ni : Nm ["_law_item_here"] (aj cN) 0 "_law_item_here" := .of (by decide +kernel)
theorem yr : Bn "_law_item_text" := ⟨by decide +kernel, by decide +kernel⟩
abbrev bF : Stmt := top 34
theorem iy : bh ["_law_choice", "_law_rows", "_law_items"] ["_law_choice"] (aj bF) := ⟨rfl, rfl, rfl, by decide +kernel, rfl, by decide +kernel, by decide +kernel⟩
theorem gQ : Nm ["_law_choice", "_law_rows", "_law_items"] (aj bF) 0 "_law_choice" := .of (by decide +kernel)
theorem gP : Nm ["_law_choice", "_law_rows", "_law_items"] (aj bF) 1 "_law_rows" := .of (by decide +kernel)
theorem jY : Nm ["_law_choice", "_law_rows", "_law_items"] (aj bF) 2 "_law_items" := .of (by decide +kernel)
theorem jf : (aj bF).names.lookup ("str" : Str) = some .globalImplicit := by decide +kernel
theorem tZ : Bn "_law_choice_text" := ⟨by decide +kernel, by decide +kernel⟩
theorem zj (hB : ∀ x : Str, x ∈ BLs → mg x = none) (CItemText : Cal P w K mg base "item_text" 1 ["item"] Af) (F : Fun K "choice_text" "choice_text" bD f fd) : cX P w K mg base CX0 2 f fd ["choice"] Ag := by
 refine F.okq dH (fun vs H Q E h => ?_) (fun cdv A outer s H vs Q E hr h => ?_)
 ·obtain ⟨x, w, s, ok, css, rfl, _⟩ := h
  rfl
 ·obtain ⟨x, w, s, ok, css, rfl, hc, t, q⟩ := h
  refine ⟨_, (aA (iz (au tL) (jP (n := 3) rfl (bG (cP lR dH.nd) (bG (cP lQ dH.nd) (bG (cP lO dH.nd) gm)))))
   (aA (bV iH dH.nd (iB (ak (G5 (vH (oE (au lR) (vH (oE (au lQ) zb))))) aq)))
   (aA (jq PassesOwn.never rfl (fK (au lO)) (cP lN dH.nd)
   (aG (jr (ju (au iH) (jQ PySem.F.slot_str_join PySem.F.type_str_join nj aZ (ak (aL bT (iB (ak aZ aq)) (jt (NX := ["choice", "width", "sign", "cases", "rows", "items"]) (kX := (aj bD).names) ["item"] [none] rfl rfl ⟨rfl, by decide +kernel, by decide +kernel, by decide +kernel, by decide +kernel⟩ rfl (fK (au lN)) (fun _ _ _ _ _ => (fL 0 (show List.Nodup (["item"] : List Str) from by decide +kernel) rfl (Or.inl rfl))) (fun _ _ _ _ _ => jx) (fun _ _ _ _ _ => (aX CItemText (hr.mono (by decide)) rfl zR (ak (pU 0) aq))))) aq))))))
   (aG (aM (jQ PySem.F.slot_str_join PySem.F.type_str_join nj aZ (ak (au iH) aq))))))), ?_⟩
  obtain ⟨p, c, xs, rfl, op, ep, oc, ec, z, ts⟩ := jN t
  obtain ⟨hsw, hss, hsm⟩ := hc.sm
  obtain ⟨h1, h2, h3, h4, h5⟩ := id hc
  have hlen := ts.length
  rw [List.length_map] at hlen
  refine aP fun k hk => ?_
  push_cast [ep]
  subst hk
  refine aP fun k hk => ?_
  push_cast [rdG]
  refine ⟨Cp hsw, Cp hss, bx (by decide), fun r hr0 => ?_⟩
  have s1 := aB (o := HO.lst [V.str (cF w s)]) hr0
  have e1 : upd H r (HO.lst [V.str (cF w s)]) r = _ := aD
  change k _ (upd H r (HO.lst [V.str (cF w s)]))
  generalize upd H r (HO.lst [V.str (cF w s)]) = H1 at s1 e1 ⊢
  subst hk
  refine aP fun k hk => ?_
  refine nH fun R hR => ?_
  have ec1 := s1 _ _ ec
  push_cast [ec1]
  obtain ⟨Pv, hPv⟩ : ∃ Pv : Nat → L2.St → Hp → Prop, Pv = fun (i : Nat) σ H' => ∃ (o5 : Option V), Same H H' ∧ H' r = some (.lst ((cF w s :: (css.take i).map b8).map V.str)) ∧ σ = [some (.ref p), some (.int w), some (.int s), some (.ref c), some (.ref r), o5] := ⟨_, rfl⟩
  refine Jm hR (xs := xs) Pv (by rw [hPv]; exact ⟨_, s1, e1, rfl⟩) (fun i σ H' _ pv => ?_) ?_ ?_
  ·rw [hPv] at pv
   obtain ⟨_, s', _⟩ := pv
   exact SqL.of (s' _ _ ec)
  ·intro i x σ H4 hx pv
   rw [hPv] at pv
   obtain ⟨o5, s4, e4, rfl⟩ := pv
   obtain ⟨d, hd, td⟩ := (ts.same s4).get hx
   rw [List.getElem?_map] at hd
   obtain ⟨its, hits, rfl⟩ := Option.map_eq_some_iff.mp hd
   obtain ⟨q0, us, rfl, o6, eq4, z4, ts4⟩ := n6 td
   have hul := ts4.length
   rw [List.length_map] at hul
   have hm := hsm its (List.mem_of_getElem? hits)
   push_cast [rdG, e4]
   refine ⟨bx (by decide), fun a1 ha1 => ?_⟩
   have s5 := aB (o := HO.lst [V.str ("case" : Str)]) ha1
   have e5 : upd H4 a1 (HO.lst [V.str ("case" : Str)]) a1 = _ := aD
   generalize upd H4 a1 (HO.lst [V.str ("case" : Str)]) = H5 at s5 e5 ⊢
   refine gY fun R2 hR2 => ?_
   have eq5 := s5 _ _ eq4
   push_cast [rdG, eq5]
   obtain ⟨Pc, hPc⟩ : ∃ Pv : Nat → List V → L2.St → Hp → Prop, Pv = fun (i : Nat) acc τ H' => ∃ (o1 : Option V), Same H5 H' ∧ acc = ((its.take i).map itW).map V.str ∧ τ = [o1] := ⟨_, rfl⟩
   refine rY hR2 (xs := us) (bx (by omega)) Pc (by rw [hPc]; exact ⟨none, Same.refl _, rfl, rfl⟩) ?_ ?_ ?_ ?_
   ·intro i acc τ H6 pc
    rw [hPc] at pc
    obtain ⟨_, _, rfl, _⟩ := pc
    rw [List.length_map, List.length_map]
    exact List.length_take_le _ _
   ·intro i acc τ H6 pc
    rw [hPc] at pc
    obtain ⟨_, s6, _⟩ := pc
    exact SqL.of (s6 _ _ eq5)
   ·intro i x acc τ H6 hx pc
    rw [hPc] at pc
    obtain ⟨_, s6, rfl, rfl⟩ := pc
    obtain ⟨d, hd, td⟩ := (ts4.same (s5.trans s6)).get hx
    rw [List.getElem?_map] at hd
    obtain ⟨it, hit, rfl⟩ := Option.map_eq_some_iff.mp hd
    obtain ⟨p7, rfl, _, hp7⟩ := ug td
    push_cast
    refine ⟨p7, it, rfl, hp7, hm.2 it (List.mem_of_getElem? hit), fun H7 s7 => ?_⟩
    rw [hPc]
    refine ⟨_, s6.trans s7, ?_, rfl⟩
    rw [take_snoc hit, List.map_append, List.map_append]
    rfl
   ·intro acc τ H6 d pc hd
    rw [hPc] at pc
    obtain ⟨_, s6, rfl, rfl⟩ := pc
    rw [hul, List.take_length]
    have s7 := s6.trans (aB (o := HO.lst ((its.map itW).map V.str)) hd)
    have e7 : upd H6 d (HO.lst ((its.map itW).map V.str)) d = _ := aD
    generalize upd H6 d (HO.lst ((its.map itW).map V.str)) = H7 at s7 e7 ⊢
    have e57 := s7 _ _ e5
    have e47 := s7 _ _ (s5 _ _ e4)
    push_cast [rdG, e7, e57]
    refine ⟨bx (by rw [List.length_map, List.length_map]; have := hm.1; omega), fun a8 ha8 => ⟨fj its, rfl, su hm.2 hm.1, ?_⟩⟩
    have s8 := aB (o := HO.lst (V.str ("case" : Str) :: (its.map itW).map V.str)) ha8
    have e48 := s8 _ _ e47
    generalize upd H7 a8 (HO.lst (V.str ("case" : Str) :: (its.map itW).map V.str)) = H8 at s8 e48 ⊢
    rw [e48]
    push_cast [rdG]
    refine ⟨Nat.lt_of_lt_of_le (show ((cF w s :: (css.take i).map b8).map V.str).length < 1000 by rw [List.length_map, List.length_cons, List.length_map, List.length_take]; omega) (bx (by decide)), ?_⟩
    rw [hPv]
    have s48 := s4.trans (s5.trans (s7.trans s8))
    refine ⟨_, fun a o e => ?_, ?_, rfl⟩
    ·have har : a ≠ r := fun z => by rw [z, hr0] at e; cases e
     rw [aH har]
     exact s48 _ _ e
    ·rw [aD, take_snoc hits]
     simp [b8]
  ·intro σ H4 pv
   rw [hPv] at pv
   obtain ⟨o5, s4, e4, rfl⟩ := pv
   rw [hlen, List.take_length] at e4
   show k _ _
   subst hk
   push_cast [rdG, e4]
   exact ⟨cF w s :: css.map b8, rfl, hc.fits, q _ s4⟩
def Km : It1 → Str
 | .one _ => ""
 | .rng _ _ => ".."
 | .bits _ _ => "&"
def gj : It1 → List Int
 | .one a => [a]
 | .rng a b => [a, b]
 | .bits m v => [(m : Int), (v : Int)]
def wdI : It1 → Str
 | .one _ => "is"
 | .rng _ _ => "from"
 | .bits _ _ => "bits"
theorem SX (it : It1) : itV it = V.str (wdI it) :: (gj it).map V.int := by cases it <;> rfl
def pC : List (Key × V) := [(.inr "is", .str ""), (.inr "from", .str ".."), (.inr "bits", .str "&")]
theorem Kh (it : It1) : lX (fG [] pC) (.inr (wdI it)) = some (.str (Km it)) := by
 cases it with
 | one a => show lX (fG [] pC) (.inr ("is" : Str)) = some (.str ""); rfl
 | rng a b => show lX (fG [] pC) (.inr ("from" : Str)) = some (.str ".."); rfl
 | bits a b => show lX (fG [] pC) (.inr ("bits" : Str)) = some (.str "&"); rfl
theorem Ny (it : It1) : Txt.join (Km it) ((gj it).map tsI) = itW it := by
 have h : ∀ (sep a b : Str), Txt.join sep [a, b] = a ++ sep ++ b := fun sep a b => qC (by
  show (Builtin.Str.glued sep [a, b]).cps.toList = _
  rw [StrLaws.glued_eq_join]
  simp [Str.join, d8])
 cases it with
 | one a =>
  refine qC ?_
  show (Builtin.Str.glued _ [tsI a]).cps.toList = (tsI a).cps.toList
  rw [StrLaws.glued_eq_join]
  simp [Str.join]
 | rng a b => exact h _ _ _
 | bits a b => exact h _ _ _
theorem Kl (it : It1) : (Km it).length ≤ 2 := by
 cases it with
 | one a => show ("" : Str).length ≤ 2; decide +kernel
 | rng a b => show (".." : Str).length ≤ 2; decide +kernel
 | bits a b => show ("&" : Str).length ≤ 2; decide +kernel
theorem JZ {H : Hp} {p : Addr} {x y : HO} : upd (upd H p x) p y = upd H p y := by
 funext a
 by_cases h : a = p
 ·subst h
  rw [aD, aD]
 ·rw [aH h, aH h, aH h]
theorem Dc (hB : ∀ x : Str, x ∈ BLs → mg x = none) (F : Fun K "_law_item_text" "_law_item_text" cN f fd) : cX P w K mg base CX0 1 f fd ["_law_item_here"] Af := by
 refine F.okq wM (fun vs H Q E h => ?_) (fun cdv A outer s H vs Q E hr h => ?_)
 ·obtain ⟨t, it, rfl, _⟩ := h
  rfl
 ·obtain ⟨t, it, rfl, ⟨hi⟩, hs, q⟩ := h
  refine ⟨_, (aG (aM (jQ PySem.F.slot_str_join PySem.F.type_str_join nj (Ud hr.Qc (Lx (qM aZ aZ (qM aZ aZ (qM aZ aZ Lr))) rfl rfl (List.cons_ne_nil _ _) rfl) (bR dI (au ni) ao (fun _ _ => rfl)) (fun _ _ => rfl)) (ak (jt (NX := ["_law_item_here"]) (kX := (aj cN).names) ["_law_one"] [none] rfl rfl ⟨rfl, by decide +kernel, by decide +kernel, by decide +kernel, by decide +kernel⟩ rfl (fK (iW FZ (au ni) (lD ao) lE)) (fun _ _ _ _ _ => (fL 0 (show List.Nodup (["_law_one"] : List Str) from by decide +kernel) rfl (Or.inl rfl))) (fun _ _ _ _ _ => jx) (fun _ _ _ _ _ => (qN lG rfl (hB "str" mD) boot_str mL (ak (pU 0) aq)))) aq)))), ?_⟩
  rw [SX] at hi
  push_cast [rdG, rdA]
  refine fun p hp => ⟨pC, rfl, by decide, ?_⟩
  rw [JZ]
  have s1 := aB (o := HO.dK (fG [] pC)) hp
  have e1 : upd H p (HO.dK (fG [] pC)) p = _ := aD
  generalize upd H p (HO.dK (fG [] pC)) = H1 at s1 e1 ⊢
  have hi1 := s1 _ _ hi
  have hcut : jK (V.str (wdI it) :: (gj it).map V.int) (some 1) none = (gj it).map V.int := (nM (V.str (wdI it) :: (gj it).map V.int) 1 (by rw [List.length_cons]; omega)).trans rfl
  push_cast [rdG, rdA, hi1]
  refine ⟨p, _, rfl, qi.k' (k := Sum.inr (wdI it)) e1 (Kh it), ?_⟩
  refine ⟨trivial, ?_⟩
  refine gY fun R hR => ?_
  push_cast [rdG, hi1, hcut]
  have hni : (gj it).length ≤ 2 := by cases it <;> simp [gj]
  have hsi : ∀ i ∈ gj it, SmI i := by
   intro i h
   cases it with
   | one a =>
    rw [List.mem_singleton.mp h]
    exact hs
   | rng a b =>
    rcases List.mem_cons.mp h with rfl | h
    ·exact hs.1
    ·rw [List.mem_singleton.mp h]
     exact hs.2
   | bits a b =>
    rcases List.mem_cons.mp h with rfl | h
    ·exact hs.1
    ·rw [List.mem_singleton.mp h]
     exact hs.2
  refine ⟨fun z => absurd z.1 (by unfold HT.sIx; simp), fun p2 hp2 => ?_⟩
  have s2 := s1.trans (aB (o := HO.tup ((gj it).map V.int)) hp2)
  have e2 : upd H1 p2 (HO.tup ((gj it).map V.int)) p2 = _ := aD
  generalize upd H1 p2 (HO.tup ((gj it).map V.int)) = H2 at s2 e2 ⊢
  obtain ⟨Pc, hPc⟩ : ∃ Pv : Nat → List V → L2.St → Hp → Prop, Pv = fun (i : Nat) acc τ H' => ∃ (o1 : Option V), Same H2 H' ∧ acc = (((gj it).take i).map tsI).map V.str ∧ τ = [o1] := ⟨_, rfl⟩
  refine JC hR (xs := (gj it).map V.int) (bx (by rw [List.length_map]; omega)) Pc (by rw [hPc]; exact ⟨none, Same.refl _, rfl, rfl⟩) ?_ ?_ ?_ ?_
  ·intro i acc τ H6 pc
   rw [hPc] at pc
   obtain ⟨_, _, rfl, _⟩ := pc
   rw [List.length_map, List.length_map]
   exact List.length_take_le _ _
  ·intro i acc τ H6 pc
   rw [hPc] at pc
   obtain ⟨_, s6, _⟩ := pc
   exact SqT.of (s6 _ _ e2)
  ·intro i x acc τ H6 hx pc
   rw [hPc] at pc
   obtain ⟨_, s6, rfl, rfl⟩ := pc
   rw [List.getElem?_map] at hx
   obtain ⟨n, hn, rfl⟩ := Option.map_eq_some_iff.mp hx
   push_cast [rdG]
   refine ⟨qj (hsi n (List.mem_of_getElem? hn)), ?_⟩
   rw [hPc]
   refine ⟨_, s6, ?_, rfl⟩
   rw [take_snoc hn, List.map_append, List.map_append]
   rfl
  ·intro acc τ H6 d pc hd
   rw [hPc] at pc
   obtain ⟨_, s6, rfl, rfl⟩ := pc
   rw [List.length_map, List.take_length]
   have s7 := s6.trans (aB (o := HO.lst (((gj it).map tsI).map V.str)) hd)
   have e7 : upd H6 d (HO.lst (((gj it).map tsI).map V.str)) d = _ := aD
   generalize upd H6 d (HO.lst (((gj it).map tsI).map V.str)) = H7 at s7 e7 ⊢
   push_cast [rdG, e7]
   refine ⟨_, rfl, ?_, ?_⟩
   ·have hsl : (Km it).length ≤ 2 := Kl it
    refine oV (L := 21) (n := 2) (fun t ht => ?_) (by rw [List.length_map]; exact hni) ?_
    ·obtain ⟨n, hn, rfl⟩ := List.mem_map.mp ht
     exact dG (hsi n hn)
    ·omega
   ·rw [Ny]
    exact q _ (s2.trans s7)
theorem xu (hB : ∀ x : Str, x ∈ BLs → mg x = none) (CZItemText : Cal P w K mg base "_law_item_text" 1 ["_law_item_here"] Af) (F : Fun K "_law_choice_text" "_law_choice_text" bF f fd) : cX P w K mg base CX0 2 f fd ["_law_choice"] Ag := by
 refine F.okq iy (fun vs H Q E h => ?_) (fun cdv A outer s H vs Q E hr h => ?_)
 ·obtain ⟨x, w, s, ok, css, rfl, _⟩ := h
  rfl
 ·obtain ⟨x, w, s, ok, css, rfl, hc, t, q⟩ := h
  refine ⟨_, (aA (bV gP iy.nd (iB (ak (aL ql (aL ql (aL ql aZ (qN lG jf (hB "str" mD) boot_str mL (ak (bR SQ (au gQ) ao (fun _ _ => rfl)) aq))) aZ) (qN lG jf (hB "str" mD) boot_str mL (ak (bR SQ (au gQ) ao (fun _ _ => rfl)) aq))) aq)))
   (aA (jq PassesOwn.never rfl (fK (bR SQ (au gQ) ao (fun _ _ => rfl))) (cP jY iy.nd)
   (aG (jr (ju (au gP) (jQ PySem.F.slot_str_join PySem.F.type_str_join nj aZ (ak (aL ql (iB (ak aZ aq)) (jt (NX := ["_law_choice", "_law_rows", "_law_items"]) (kX := (aj bF).names) ["_law_item_here"] [none] rfl rfl ⟨rfl, by decide +kernel, by decide +kernel, by decide +kernel, by decide +kernel⟩ rfl (fK (au jY)) (fun _ _ _ _ _ => (fL 0 (show List.Nodup (["_law_item_here"] : List Str) from by decide +kernel) rfl (Or.inl rfl))) (fun _ _ _ _ _ => jx) (fun _ _ _ _ _ => (aX CZItemText (hr.mono (by decide)) rfl yr (ak (pU 0) aq))))) aq))))))
   (aG (aM (jQ PySem.F.slot_str_join PySem.F.type_str_join nj aZ (ak (au gP) aq)))))), ?_⟩
  obtain ⟨p, c, xs, rfl, op, ep, oc, ec, z, ts⟩ := jN t
  obtain ⟨hsw, hss, hsm⟩ := hc.sm
  obtain ⟨h1, h2, h3, h4, h5⟩ := id hc
  have hlen := ts.length
  rw [List.length_map] at hlen
  refine aP fun k hk => ?_
  push_cast [rdG, ep]
  have d1 : ("choice " : Str).length = 7 := by decide +kernel
  have d2 : (" " : Str).length = 1 := by decide +kernel
  have g1 : (Str.ofString (toString w)).length ≤ 21 := dG hsw
  have g2 : (Str.ofString (toString s)).length ≤ 21 := dG hss
  have g3 : (200 : Nat) ≤ sizeLine := by decide
  refine ⟨qj hsw, by omega, by rw [strLen_append]; omega, qj hss, by rw [strLen_append, strLen_append]; omega, bx (by decide), fun r hr0 => ?_⟩
  have s1 := aB (o := HO.lst [V.str (cF w s)]) hr0
  have e1 : upd H r (HO.lst [V.str (cF w s)]) r = _ := aD
  change k _ (upd H r (HO.lst [V.str (cF w s)]))
  generalize upd H r (HO.lst [V.str (cF w s)]) = H1 at s1 e1 ⊢
  subst hk
  refine aP fun k hk => ?_
  refine nH fun R hR => ?_
  have ec1 := s1 _ _ ec
  have ep1 := s1 _ _ ep
  push_cast [rdG, ec1, ep1]
  obtain ⟨Pv, hPv⟩ : ∃ Pv : Nat → L2.St → Hp → Prop, Pv = fun (i : Nat) σ H' => ∃ (o5 : Option V), Same H H' ∧ H' r = some (.lst ((cF w s :: (css.take i).map b8).map V.str)) ∧ σ = [some (.ref p), some (.ref r), o5] := ⟨_, rfl⟩
  refine Jm hR (xs := xs) Pv (by rw [hPv]; exact ⟨_, s1, e1, rfl⟩) (fun i σ H' _ pv => ?_) ?_ ?_
  ·rw [hPv] at pv
   obtain ⟨_, s', _⟩ := pv
   exact SqL.of (s' _ _ ec)
  ·intro i x σ H4 hx pv
   rw [hPv] at pv
   obtain ⟨o5, s4, e4, rfl⟩ := pv
   obtain ⟨d, hd, td⟩ := (ts.same s4).get hx
   rw [List.getElem?_map] at hd
   obtain ⟨its, hits, rfl⟩ := Option.map_eq_some_iff.mp hd
   obtain ⟨q0, us, rfl, o6, eq4, z4, ts4⟩ := n6 td
   have hul := ts4.length
   rw [List.length_map] at hul
   have hm := hsm its (List.mem_of_getElem? hits)
   push_cast [rdG, e4]
   refine ⟨bx (by decide), fun a1 ha1 => ?_⟩
   have s5 := aB (o := HO.lst [V.str ("case" : Str)]) ha1
   have e5 : upd H4 a1 (HO.lst [V.str ("case" : Str)]) a1 = _ := aD
   generalize upd H4 a1 (HO.lst [V.str ("case" : Str)]) = H5 at s5 e5 ⊢
   refine gY fun R2 hR2 => ?_
   have eq5 := s5 _ _ eq4
   push_cast [rdG, eq5]
   obtain ⟨Pc, hPc⟩ : ∃ Pv : Nat → List V → L2.St → Hp → Prop, Pv = fun (i : Nat) acc τ H' => ∃ (o1 : Option V), Same H5 H' ∧ acc = ((its.take i).map itW).map V.str ∧ τ = [o1] := ⟨_, rfl⟩
   refine rY hR2 (xs := us) (bx (by omega)) Pc (by rw [hPc]; exact ⟨none, Same.refl _, rfl, rfl⟩) ?_ ?_ ?_ ?_
   ·intro i acc τ H6 pc
    rw [hPc] at pc
    obtain ⟨_, _, rfl, _⟩ := pc
    rw [List.length_map, List.length_map]
    exact List.length_take_le _ _
   ·intro i acc τ H6 pc
    rw [hPc] at pc
    obtain ⟨_, s6, _⟩ := pc
    exact SqL.of (s6 _ _ eq5)
   ·intro i x acc τ H6 hx pc
    rw [hPc] at pc
    obtain ⟨_, s6, rfl, rfl⟩ := pc
    obtain ⟨d, hd, td⟩ := (ts4.same (s5.trans s6)).get hx
    rw [List.getElem?_map] at hd
    obtain ⟨it, hit, rfl⟩ := Option.map_eq_some_iff.mp hd
    obtain ⟨p7, rfl, _, hp7⟩ := ug td
    push_cast
    refine ⟨p7, it, rfl, hp7, hm.2 it (List.mem_of_getElem? hit), fun H7 s7 => ?_⟩
    rw [hPc]
    refine ⟨_, s6.trans s7, ?_, rfl⟩
    rw [take_snoc hit, List.map_append, List.map_append]
    rfl
   ·intro acc τ H6 d pc hd
    rw [hPc] at pc
    obtain ⟨_, s6, rfl, rfl⟩ := pc
    rw [hul, List.take_length]
    have s7 := s6.trans (aB (o := HO.lst ((its.map itW).map V.str)) hd)
    have e7 : upd H6 d (HO.lst ((its.map itW).map V.str)) d = _ := aD
    generalize upd H6 d (HO.lst ((its.map itW).map V.str)) = H7 at s7 e7 ⊢
    have e57 := s7 _ _ e5
    have e47 := s7 _ _ (s5 _ _ e4)
    push_cast [rdG, e7, e57]
    refine ⟨bx (by rw [List.length_map, List.length_map]; have := hm.1; omega), fun a8 ha8 => ⟨fj its, rfl, su hm.2 hm.1, ?_⟩⟩
    have s8 := aB (o := HO.lst (V.str ("case" : Str) :: (its.map itW).map V.str)) ha8
    have e48 := s8 _ _ e47
    generalize upd H7 a8 (HO.lst (V.str ("case" : Str) :: (its.map itW).map V.str)) = H8 at s8 e48 ⊢
    rw [e48]
    push_cast [rdG]
    refine ⟨Nat.lt_of_lt_of_le (show ((cF w s :: (css.take i).map b8).map V.str).length < 1000 by rw [List.length_map, List.length_cons, List.length_map, List.length_take]; omega) (bx (by decide)), ?_⟩
    rw [hPv]
    have s48 := s4.trans (s5.trans (s7.trans s8))
    refine ⟨_, fun a o e => ?_, ?_, rfl⟩
    ·have har : a ≠ r := fun z => by rw [z, hr0] at e; cases e
     rw [aH har]
     exact s48 _ _ e
    ·rw [aD, take_snoc hits]
     simp [b8]
  ·intro σ H4 pv
   rw [hPv] at pv
   obtain ⟨o5, s4, e4, rfl⟩ := pv
   rw [hlen, List.take_length] at e4
   show k _ _
   subst hk
   push_cast [rdG, e4]
   exact ⟨cF w s :: css.map b8, rfl, hc.fits, q _ s4⟩
abbrev eH : Stmt := top 35
theorem pD : bh ["_law_script", "_law_k", "_law_tape_here", "_law_choice", "_law_kept", "_law_due", "_law_turn", "_law_found", "_law_items"] ["_law_script"] (aj eH) := ⟨rfl, rfl, rfl, by decide +kernel, rfl, by decide +kernel, by decide +kernel⟩
theorem Ii : Nm ["_law_script", "_law_k", "_law_tape_here", "_law_choice", "_law_kept", "_law_due", "_law_turn", "_law_found", "_law_items"] (aj eH) 0 "_law_script" := .of (by decide +kernel)
theorem Ih : Nm ["_law_script", "_law_k", "_law_tape_here", "_law_choice", "_law_kept", "_law_due", "_law_turn", "_law_found", "_law_items"] (aj eH) 1 "_law_k" := .of (by decide +kernel)
theorem Ig : Nm ["_law_script", "_law_k", "_law_tape_here", "_law_choice", "_law_kept", "_law_due", "_law_turn", "_law_found", "_law_items"] (aj eH) 2 "_law_tape_here" := .of (by decide +kernel)
theorem oG : Nm ["_law_script", "_law_k", "_law_tape_here", "_law_choice", "_law_kept", "_law_due", "_law_turn", "_law_found", "_law_items"] (aj eH) 3 "_law_choice" := .of (by decide +kernel)
theorem R7 : Nm ["_law_script", "_law_k", "_law_tape_here", "_law_choice", "_law_kept", "_law_due", "_law_turn", "_law_found", "_law_items"] (aj eH) 4 "_law_kept" := .of (by decide +kernel)
theorem Ie : Nm ["_law_script", "_law_k", "_law_tape_here", "_law_choice", "_law_kept", "_law_due", "_law_turn", "_law_found", "_law_items"] (aj eH) 5 "_law_due" := .of (by decide +kernel)
theorem R6 : Nm ["_law_script", "_law_k", "_law_tape_here", "_law_choice", "_law_kept", "_law_due", "_law_turn", "_law_found", "_law_items"] (aj eH) 6 "_law_turn" := .of (by decide +kernel)
theorem vM : Nm ["_law_script", "_law_k", "_law_tape_here", "_law_choice", "_law_kept", "_law_due", "_law_turn", "_law_found", "_law_items"] (aj eH) 7 "_law_found" := .of (by decide +kernel)
theorem Ib : Nm ["_law_script", "_law_k", "_law_tape_here", "_law_choice", "_law_kept", "_law_due", "_law_turn", "_law_found", "_law_items"] (aj eH) 8 "_law_items" := .of (by decide +kernel)
theorem pq : (aj eH).names.lookup ("_law_choice_text" : Str) = some .globalImplicit := by decide +kernel
theorem rN : (aj eH).names.lookup ("_law_same" : Str) = some .globalImplicit := by decide +kernel
theorem zM : (aj eH).names.lookup ("_law_tape" : Str) = some .globalImplicit := by decide +kernel
theorem oZ : (aj eH).names.lookup ("_law_wild_choice" : Str) = some .globalImplicit := by decide +kernel
theorem qb : (aj eH).names.lookup ("choice_from" : Str) = some .globalImplicit := by decide +kernel
theorem p8 : (aj eH).names.lookup ("choice_text" : Str) = some .globalImplicit := by decide +kernel
theorem Ji : (aj eH).names.lookup ("len" : Str) = some .globalImplicit := by decide +kernel
theorem Jh : (aj eH).names.lookup ("min" : Str) = some .globalImplicit := by decide +kernel
theorem rM : (aj eH).names.lookup ("range" : Str) = some .globalImplicit := by decide +kernel
theorem uM : (aj eH).names.lookup ("repr" : Str) = some .globalImplicit := by decide +kernel
def Ac (K : PySem.W.Frag) : Sp := fun vs H Q _ => ∃ (a : Addr) (ns : List Int), vs = [.ref a] ∧ SqL K H a (ns.map V.int) ∧ ns.length ≤ 63 ∧ ∀ H', Q (.bl true) H'
theorem yO {w s : Int} {css : List (List It1)} (h1 : 1 ≤ w) (h2 : w ≤ 40) (hs : s = 0 ∨ s = 1) (hok : ∀ its ∈ css, its.length ≤ 31 ∧ ∀ it ∈ its, it.Ok w s) (hl : css.length ≤ 13) : Shw (fQ w s css) := by
 have b : Bd (1 + 13 * (1 + 31 * 4)) 3 (.list (css.map fB)) := BZ (fun d hd => by
  obtain ⟨its, hi, rfl⟩ := List.mem_map.mp hd
  exact OD h1 h2 hs (hok its hi).2 (hok its hi).1) (by rw [List.length_map]; exact hl)
 exact ((JN h1 h2 hs b (by decide)).tell (by decide) (by decide)).shw
theorem R0 (hB : ∀ x : Str, x ∈ BLs → mg x = none) (CChoiceText : Cal P w K mg base "choice_text" 2 ["choice"] Ag) (CZChoiceText : Cal P w K mg base "_law_choice_text" 2 ["_law_choice"] Ag) (CChoiceFrom : Cal P w K mg base "choice_from" 4 ["text"] Pj)
  (CZTape : Cal P w K mg base "_law_tape" 2 ["_law_script", "_law_k"] (FN K)) (CZWildChoice : Cal P w K mg base "_law_wild_choice" 5 ["_law_tape_here"] FJ) (CZSame : Cal P w K mg base "_law_same" 5 ["_law_found", "_law_due"] (lz 5))
  (F : Fun K "law" "law" eH f fd) : cX P w K mg base CX0 63 f fd ["_law_script"] (Ac K) := by
 refine F.okq pD (fun vs H Q E h => ?_) (fun cdv A outer s H vs Q E hr h => ?_)
 ·obtain ⟨a, ns, rfl, _⟩ := h
  rfl
 ·obtain ⟨a, ns, rfl, hS, h63, q⟩ := h
  refine ⟨_, (aA (jq PassesOwn.never rfl (iV rM (hB "range" kj) (ak (aL bT ao (bW (pB rfl) Jh (hB "min" zy) boot_min zP (ak ao (ak (bW gw Ji (hB "len" kE) PySem.boot_len lg (ak (au Ii) aq)) aq)))) aq)) (cP Ih pD.nd)
   (aA (bV Ig pD.nd (aX CZTape (hr.mono (by decide)) zM Ou (ak (au Ii) (ak (au Ih) aq))))
   (aA (bV oG pD.nd (aX CZWildChoice (hr.mono (by decide)) oZ tY (ak (au Ig) aq)))
   (aA (vD (i := 4) (j := 5) rfl pD.nd rfl rfl (by decide) rfl rfl (ak (bW (sG hr.gd hr.O7) uM (hB "repr" Ba) boot_repr BX (ak (au oG) aq)) (ak (aX CZChoiceText (hr.mono (by decide)) pq tZ (ak (au oG) aq)) aq)) (by rfl))
   (aG (jq PassesOwn.never rfl (iV rM (hB "range" kj) (ak ao aq)) (cP R6 pD.nd)
   (aA (cD (qL (jO (jo (dR (aX CZSame (hr.mono (by decide)) rN wk (ak (aX CChoiceText (hr.mono (by decide)) p8 wu (ak (au oG) aq)) (ak (au Ie) aq))))) (jn (bA (iG hr.bL) (bW (sG hr.gd hr.O7) uM (hB "repr" Ba) boot_repr BX (ak (au oG) aq)) (au R7) (aU _))))) (aG (aM pF)) bI)
   (aA (bV vM pD.nd (aX CChoiceFrom (hr.mono (by decide)) qb wz (ak (au Ie) aq)))
   (aA (cD (jo (dR (aX CZSame (hr.mono (by decide)) rN wk (ak (au vM) (ak (au oG) aq))))) (aG (aM pF)) bI)
   (aA (jq PassesOwn.never rfl (fK (bR dI (au vM) ao (fun _ _ => rfl))) (cP Ib pD.nd)
   (aG (jr (ju (au Ib) (eU (ak aZ (ak ao aq)))))))
   (aG (jr (ju (bR dI (au vM) ao (fun _ _ => rfl)) (iB aq))))))))))))))
   (aG (aM pF))), ?_⟩
  refine aP fun k hk => ?_
  refine nH fun R hR => ?_
  push_cast [pK]
  refine ⟨_, .inl hS, ?_⟩
  rw [List.length_map]
  have m6 : (0 : Int) ≤ 1 + (if (ns.length : Int) < 8 then (ns.length : Int) else 8) ∧ 1 + (if (ns.length : Int) < 8 then (ns.length : Int) else 8) ≤ 9 := by
   split <;> omega
  refine ⟨by omega, by omega, ?_⟩
  obtain ⟨Pv, hPv⟩ : ∃ Pv : Nat → L2.St → Hp → Prop, Pv = fun (i : Nat) σ H' => Same H H' ∧ ∃ o1 o2 o3 o4 o5 o6 o7 o8, σ = [some (.ref a), o1, o2, o3, o4, o5, o6, o7, o8] := ⟨_, rfl⟩
  refine yd hR Pv (by rw [hPv]; exact ⟨Same.refl _, none, none, none, none, none, none, none, none, rfl⟩) ?_ ?_
  ·intro i σ H1 hi pv
   rw [hPv] at pv
   obtain ⟨s1, o1, o2, o3, o4, o5, o6, o7, o8, rfl⟩ := pv
   refine aP fun k2 hk2 => ?_
   push_cast
   refine ⟨a, ns, (0 : Int) + (i : Int), rfl, s1.seq hS, by omega, by omega, fun p H2 hp s2 tp => ?_⟩
   push_cast
   subst hk2
   have hp0 : H p = none := s1.none hp
   refine aP fun k2 hk2 => ?_
   push_cast
   refine ⟨p, 0, rfl, tp, by decide, by decide, fun w s t css H3 hw1 hw2 hs s3 tp3 tr3 hok3 hl3 => ?_⟩
   push_cast
   subst hk2
   have sx3 : cT p H H3 := ((s1.trans s2).x (p := p)).trans s3
   have hch : sW w s css := ⟨hw1, hw2, hs, hok3, hl3⟩
   have hok4 : ∀ its ∈ css, its.length ≤ 31 ∧ ∀ it ∈ its, it.Ok w s := fun its hi => ⟨Nat.le_trans (hok3 its hi).1 (by decide), (hok3 its hi).2⟩
   have shw := yO hw1 hw2 hs hok4 (Nat.le_trans hl3 (by decide))
   refine aP fun k2 hk2 => ?_
   push_cast
   refine ⟨_, _, _, rfl, tr3, shw, ?_⟩
   push_cast
   refine ⟨_, w, s, _, css, rfl, hch, tr3, fun H5 S5 => ?_⟩
   push_cast
   subst hk2
   refine nH fun R3 hR3 => ?_
   push_cast [pK]
   refine ⟨by decide, by decide, ?_⟩
   obtain ⟨Py, hPy⟩ : ∃ Pv : Nat → L2.St → Hp → Prop, Pv = fun (j : Nat) σ H' => ∃ (o6 o7 o8 : Option V), Same H5 H' ∧ σ = [some (.ref a), some (.int (0 + (i : Int))), some (.ref p), some (.ref t), some (V.str (fQ w s css).shown), some (V.str (fP w s css)), o6, o7, o8] := ⟨_, rfl⟩
   refine yd hR3 Py (by rw [hPy]; exact ⟨_, _, _, Same.refl _, rfl⟩) ?_ ?_
   ·intro j σ H6 hj pv
    rw [hPy] at pv
    obtain ⟨o6, o7, o8, s6, rfl⟩ := pv
    have tr6 : aO (fun _ => True) H6 (.ref t) (fQ w s css) := tr3.keep fun a o _ e => ⟨trivial, (S5.trans s6) _ _ e⟩
    refine aP fun k3 hk3 => ?_
    push_cast
    refine ⟨_, w, s, _, css, rfl, hch, tr6, fun H6a s6a => ?_⟩
    push_cast
    refine ⟨_, _, fun _ => True, .str (fP w s css), rfl, .str _, .str _, by simp [PyData.depth], fun H6b s6b => ?_⟩
    have sC := s6a.trans s6b
    push_cast
    refine ⟨_, _, _, rfl, tr6.same sC, shw, ?_⟩
    push_cast
    subst hk3
    refine aP fun k3 hk3 => ?_
    push_cast
    refine ⟨w, s, css, fun _ => True, rfl, hch, Dk, fun p7 c7 ls H7 s7a ep7 ec7 nc7 hc7a hls7a hll7 t7 => ?_⟩
    have s7 := sC.trans s7a
    have hc7 := sC.none hc7a
    have hls7 : ∀ q ∈ ls, H6 q = none := fun q hq => sC.none (hls7a q hq)
    push_cast
    subst hk3
    refine aP fun k3 hk3 => ?_
    push_cast
    refine ⟨_, _, fun _ => True, _, rfl, t7, tr6.same s7, Nat.lt_succ_of_le (v5 _ _ _), fun H9 s79 => ?_⟩
    push_cast
    subst hk3
    refine aP fun k3 hk3 => ?_
    refine nH fun R5 hR5 => ?_
    have ep11 := s79 _ _ ep7
    have ec11 := s79 _ _ ec7
    have hq7 : ∀ q ∈ ls, ∃ us, H7 q = some (.lst us) ∧ us.length ≤ 62 := fun q hq => by
     obtain ⟨p', c', vs', e', _, ep', _, ec', _, ts'⟩ := jN t7
     cases e'
     rw [ep7] at ep'
     cases ep'
     rw [ec7] at ec'
     cases ec'
     obtain ⟨l, hl⟩ := List.mem_iff_getElem?.mp (List.mem_map_of_mem (f := V.ref) hq)
     obtain ⟨dd, hdd, tq⟩ := ts'.get hl
     rw [List.getElem?_map] at hdd
     obtain ⟨its, hits, rfl⟩ := Option.map_eq_some_iff.mp hdd
     obtain ⟨q', us, e', _, eq, _, tus⟩ := n6 tq
     cases e'
     have h1 := tus.length
     rw [List.length_map] at h1
     have h3 := (hok4 its (List.mem_of_getElem? hits)).1
     exact ⟨us, eq, by omega⟩
    push_cast [ep11, ec11]
    obtain ⟨Pq, hPq⟩ : ∃ Pv : Nat → L2.St → Hp → Prop, Pv = fun (l : Nat) σ H' => ∃ (o9 : Option V), Same H6 H' ∧ H' p7 = some (.tup [.int w, .int s, .ref c7]) ∧ H' c7 = some (.lst (ls.map V.ref)) ∧ (∀ q ∈ ls, ∃ us, H' q = some (.lst us) ∧ us.length ≤ 62 + l) ∧ σ = [some (.ref a), some (.int (0 + (i : Int))), some (.ref p), some (.ref t), some (V.str (fQ w s css).shown), some (V.str (fP w s css)), some (V.int (0 + (j : Int))), some (V.ref p7), o9] := ⟨_, rfl⟩
    refine Jm hR5 (xs := ls.map V.ref) Pq (by
     rw [hPq]
     refine ⟨_, s7.trans s79, ep11, ec11, fun q hq => ?_, rfl⟩
     obtain ⟨us, e, h⟩ := hq7 q hq
     exact ⟨us, s79 _ _ e, h⟩) (fun l σ H' _ pv => ?_) ?_ ?_
    ·rw [hPq] at pv
     obtain ⟨_, _, _, e', _⟩ := pv
     exact SqL.of e'
    ·intro l x σ H12 hx pv
     rw [hPq] at pv
     obtain ⟨o9', s12, ep12, ec12, hq12, rfl⟩ := pv
     have hll : l < (ls.map V.ref).length := (List.getElem?_eq_some_iff.mp hx).1
     rw [List.length_map] at hll
     obtain ⟨q, hq, rfl⟩ := List.mem_map.mp (List.mem_of_getElem? hx)
     obtain ⟨us, eq12, hus⟩ := hq12 q hq
     push_cast [eq12]
     refine ⟨bx (by decide), fun u2 hu2 => ?_⟩
     have s13 := aB (o := HO.tup [V.str "is", V.int 0]) hu2
     rw [s13 _ _ eq12, nT]
     refine ⟨Nat.lt_of_lt_of_le (by omega) (bx (Nat.le_refl 1000000)), ?_⟩
     have ep13 := s13 _ _ ep12
     have ec13 := s13 _ _ ec12
     have eq13 := s13 _ _ eq12
     have hq13 : ∀ q ∈ ls, ∃ us, upd H12 u2 (HO.tup [V.str "is", V.int 0]) q = some (.lst us) ∧ us.length ≤ 62 + l := fun q hq => by
      obtain ⟨us, e, h⟩ := hq12 q hq
      exact ⟨us, s13 _ _ e, h⟩
     have s613 := s12.trans s13
     generalize upd H12 u2 (HO.tup [V.str "is", V.int 0]) = H13 at ep13 ec13 eq13 hq13 s613 ⊢
     rw [hPq]
     refine ⟨_, ux s613 (hls7 q hq), ?_, ?_, fun q2 hq2 => ?_, rfl⟩
     ·rw [aH (fun z => by rw [z, eq13] at ep13; cases ep13)]
      exact ep13
     ·rw [aH (fun z => nc7 (by rw [z]; exact hq))]
      exact ec13
     ·by_cases h : q2 = q
      ·subst h
       exact ⟨_, aD, by rw [List.length_append, List.length_singleton]; omega⟩
      ·obtain ⟨us2, e, h2⟩ := hq13 q2 hq2
       exact ⟨us2, by rw [aH h]; exact e, by omega⟩
    ·intro σ H12 pv
     rw [hPq] at pv
     obtain ⟨o9', s12, ep12, ec12, hq12, rfl⟩ := pv
     show k3 _ _
     subst hk3
     push_cast [ep12, ec12]
     refine ⟨Nat.zero_le _, fun u2 hu2 => ?_⟩
     have s13 := aB (o := HO.lst []) hu2
     rw [s13 _ _ ec12, nT]
     refine ⟨Nat.lt_of_lt_of_le (by rw [List.length_map]; omega) (bx (Nat.le_refl 1000000)), ?_⟩
     rw [hPy]
     exact ⟨_, _, _, s6.trans (ux (s12.trans s13) hc7), rfl⟩
   ·intro σ H6 pv
    rw [hPy] at pv
    obtain ⟨o6, o7, o8, s6, rfl⟩ := pv
    show Pv _ _ _
    rw [hPv]
    exact ⟨Ky (sx3.trans ((S5.trans s6).x)) hp0, _, _, _, _, _, _, _, _, rfl⟩
  ·intro σ H1 pv
   rw [hPv] at pv
   obtain ⟨s1, o1, o2, o3, o4, o5, o6, o7, o8, rfl⟩ := pv
   show k _ _
   subst hk
   exact q _
end
theorem all_mk {l : PySem.W.OpenLaw} {w : World} {K : PySem.W.Frag} {h : Heap} {mg : Str → Option Value} {fa : Addr} {f1 : Addr} {od1 an1 : Option Addr} {sl1 : Array (Option Value)} {oc1 kV1 dc1 pm1 cd1 ct1 : Value} {f2 : Addr} {od2 an2 : Option Addr} {sl2 : Array (Option Value)} {oc2 kV2 dc2 pm2 cd2 ct2 : Value} {f3 : Addr} {od3 an3 : Option Addr} {sl3 : Array (Option Value)} {oc3 kV3 dc3 pm3 cd3 ct3 : Value} {f4 : Addr} {od4 an4 : Option Addr} {sl4 : Array (Option Value)} {oc4 kV4 dc4 pm4 cd4 ct4 : Value} {f5 : Addr} {od5 an5 : Option Addr} {sl5 : Array (Option Value)} {oc5 kV5 dc5 pm5 cd5 ct5 : Value} {f6 : Addr} {od6 an6 : Option Addr} {sl6 : Array (Option Value)} {oc6 kV6 dc6 pm6 cd6 ct6 : Value} {f7 : Addr} {od7 an7 : Option Addr} {sl7 : Array (Option Value)} {oc7 kV7 dc7 pm7 cd7 ct7 : Value} {f8 : Addr} {od8 an8 : Option Addr} {sl8 : Array (Option Value)} {oc8 kV8 dc8 pm8 cd8 ct8 : Value} {f9 : Addr} {od9 an9 : Option Addr} {sl9 : Array (Option Value)} {oc9 kV9 dc9 pm9 cd9 ct9 : Value} {f10 : Addr} {od10 an10 : Option Addr} {sl10 : Array (Option Value)} {oc10 kV10 dc10 pm10 cd10 ct10 : Value} {f11 : Addr} {od11 an11 : Option Addr} {sl11 : Array (Option Value)} {oc11 kV11 dc11 pm11 cd11 ct11 : Value} {f12 : Addr} {od12 an12 : Option Addr} {sl12 : Array (Option Value)} {oc12 kV12 dc12 pm12 cd12 ct12 : Value} {f13 : Addr} {od13 an13 : Option Addr} {sl13 : Array (Option Value)} {oc13 kV13 dc13 pm13 cd13 ct13 : Value} {f14 : Addr} {od14 an14 : Option Addr} {sl14 : Array (Option Value)} {oc14 kV14 dc14 pm14 cd14 ct14 : Value} {f15 : Addr} {od15 an15 : Option Addr} {sl15 : Array (Option Value)} {oc15 kV15 dc15 pm15 cd15 ct15 : Value} {f16 : Addr} {od16 an16 : Option Addr} {sl16 : Array (Option Value)} {oc16 kV16 dc16 pm16 cd16 ct16 : Value} {f17 : Addr} {od17 an17 : Option Addr} {sl17 : Array (Option Value)} {oc17 kV17 dc17 pm17 cd17 ct17 : Value} {f18 : Addr} {od18 an18 : Option Addr} {sl18 : Array (Option Value)} {oc18 kV18 dc18 pm18 cd18 ct18 : Value} {f19 : Addr} {od19 an19 : Option Addr} {sl19 : Array (Option Value)} {oc19 kV19 dc19 pm19 cd19 ct19 : Value} {f20 : Addr} {od20 an20 : Option Addr} {sl20 : Array (Option Value)} {oc20 kV20 dc20 pm20 cd20 ct20 : Value} {f21 : Addr} {od21 an21 : Option Addr} {sl21 : Array (Option Value)} {oc21 kV21 dc21 pm21 cd21 ct21 : Value} {f22 : Addr} {od22 an22 : Option Addr} {sl22 : Array (Option Value)} {oc22 kV22 dc22 pm22 cd22 ct22 : Value} {f23 : Addr} {od23 an23 : Option Addr} {sl23 : Array (Option Value)} {oc23 kV23 dc23 pm23 cd23 ct23 : Value} {f24 : Addr} {od24 an24 : Option Addr} {sl24 : Array (Option Value)} {oc24 kV24 dc24 pm24 cd24 ct24 : Value} {f25 : Addr} {od25 an25 : Option Addr} {sl25 : Array (Option Value)} {oc25 kV25 dc25 pm25 cd25 ct25 : Value} {f26 : Addr} {od26 an26 : Option Addr} {sl26 : Array (Option Value)} {oc26 kV26 dc26 pm26 cd26 ct26 : Value} {ckFigures : Tok} {ckMostFigures : Tok} {ckMostWidth : Tok} (X : K.In h) (G : h.Ns mainGlobals mg) (hfa : mg "law" = some (.ref fa))
  (a1 : PySem.W.nsIn K mainGlobals "is_number" = some (some (.ref f1))) (l1 : K.lookup f1 = some ⟨oc1, od1, .func (PySem.W.fnOf "is_number" "is_number" (bf cI) (aY cI) (aj cI) .none kV1 dc1 pm1 an1 cd1 ct1), sl1⟩) (c1 : PySem.W.codeIn K cd1 "is_number" = true) (k1 : PySem.W.keepIn K (.ref f1) = true)
  (a2 : PySem.W.nsIn K mainGlobals "is_kind" = some (some (.ref f2))) (l2 : K.lookup f2 = some ⟨oc2, od2, .func (PySem.W.fnOf "is_kind" "is_kind" (bf dY) (aY dY) (aj dY) .none kV2 dc2 pm2 an2 cd2 ct2), sl2⟩) (c2 : PySem.W.codeIn K cd2 "is_kind" = true) (k2 : PySem.W.keepIn K (.ref f2) = true)
  (a3 : PySem.W.nsIn K mainGlobals "least_of" = some (some (.ref f3))) (l3 : K.lookup f3 = some ⟨oc3, od3, .func (PySem.W.fnOf "least_of" "least_of" (bf dU) (aY dU) (aj dU) .none kV3 dc3 pm3 an3 cd3 ct3), sl3⟩) (c3 : PySem.W.codeIn K cd3 "least_of" = true) (k3 : PySem.W.keepIn K (.ref f3) = true)
  (a4 : PySem.W.nsIn K mainGlobals "most_of" = some (some (.ref f4))) (l4 : K.lookup f4 = some ⟨oc4, od4, .func (PySem.W.fnOf "most_of" "most_of" (bf fJ) (aY fJ) (aj fJ) .none kV4 dc4 pm4 an4 cd4 ct4), sl4⟩) (c4 : PySem.W.codeIn K cd4 "most_of" = true) (k4 : PySem.W.keepIn K (.ref f4) = true)
  (a5 : PySem.W.nsIn K mainGlobals "is_item" = some (some (.ref f5))) (l5 : K.lookup f5 = some ⟨oc5, od5, .func (PySem.W.fnOf "is_item" "is_item" (bf bM) (aY bM) (aj bM) .none kV5 dc5 pm5 an5 cd5 ct5), sl5⟩) (c5 : PySem.W.codeIn K cd5 "is_item" = true) (k5 : PySem.W.keepIn K (.ref f5) = true)
  (a6 : PySem.W.nsIn K mainGlobals "number_from" = some (some (.ref f6))) (l6 : K.lookup f6 = some ⟨oc6, od6, .func (PySem.W.fnOf "number_from" "number_from" (bf bC) (aY bC) (aj bC) .none kV6 dc6 pm6 an6 cd6 ct6), sl6⟩) (c6 : PySem.W.codeIn K cd6 "number_from" = true) (k6 : PySem.W.keepIn K (.ref f6) = true)
  (a7 : PySem.W.nsIn K mainGlobals "numbers_from" = some (some (.ref f7))) (l7 : K.lookup f7 = some ⟨oc7, od7, .func (PySem.W.fnOf "numbers_from" "numbers_from" (bf bO) (aY bO) (aj bO) .none kV7 dc7 pm7 an7 cd7 ct7), sl7⟩) (c7 : PySem.W.codeIn K cd7 "numbers_from" = true) (k7 : PySem.W.keepIn K (.ref f7) = true)
  (a8 : PySem.W.nsIn K mainGlobals "item_text" = some (some (.ref f8))) (l8 : K.lookup f8 = some ⟨oc8, od8, .func (PySem.W.fnOf "item_text" "item_text" (bf cZ) (aY cZ) (aj cZ) .none kV8 dc8 pm8 an8 cd8 ct8), sl8⟩) (c8 : PySem.W.codeIn K cd8 "item_text" = true) (k8 : PySem.W.keepIn K (.ref f8) = true)
  (a9 : PySem.W.nsIn K mainGlobals "choice_text" = some (some (.ref f9))) (l9 : K.lookup f9 = some ⟨oc9, od9, .func (PySem.W.fnOf "choice_text" "choice_text" (bf bD) (aY bD) (aj bD) .none kV9 dc9 pm9 an9 cd9 ct9), sl9⟩) (c9 : PySem.W.codeIn K cd9 "choice_text" = true) (k9 : PySem.W.keepIn K (.ref f9) = true)
  (a10 : PySem.W.nsIn K mainGlobals "item_from" = some (some (.ref f10))) (l10 : K.lookup f10 = some ⟨oc10, od10, .func (PySem.W.fnOf "item_from" "item_from" (bf bZ) (aY bZ) (aj bZ) .none kV10 dc10 pm10 an10 cd10 ct10), sl10⟩) (c10 : PySem.W.codeIn K cd10 "item_from" = true) (k10 : PySem.W.keepIn K (.ref f10) = true)
  (a11 : PySem.W.nsIn K mainGlobals "kind_from" = some (some (.ref f11))) (l11 : K.lookup f11 = some ⟨oc11, od11, .func (PySem.W.fnOf "kind_from" "kind_from" (bf bQ) (aY bQ) (aj bQ) .none kV11 dc11 pm11 an11 cd11 ct11), sl11⟩) (c11 : PySem.W.codeIn K cd11 "kind_from" = true) (k11 : PySem.W.keepIn K (.ref f11) = true)
  (a12 : PySem.W.nsIn K mainGlobals "case_from" = some (some (.ref f12))) (l12 : K.lookup f12 = some ⟨oc12, od12, .func (PySem.W.fnOf "case_from" "case_from" (bf b7) (aY b7) (aj b7) .none kV12 dc12 pm12 an12 cd12 ct12), sl12⟩) (c12 : PySem.W.codeIn K cd12 "case_from" = true) (k12 : PySem.W.keepIn K (.ref f12) = true)
  (a13 : PySem.W.nsIn K mainGlobals "choice_from" = some (some (.ref f13))) (l13 : K.lookup f13 = some ⟨oc13, od13, .func (PySem.W.fnOf "choice_from" "choice_from" (bf aR) (aY aR) (aj aR) .none kV13 dc13 pm13 an13 cd13 ct13), sl13⟩) (c13 : PySem.W.codeIn K cd13 "choice_from" = true) (k13 : PySem.W.keepIn K (.ref f13) = true)
  (a14 : PySem.W.nsIn K mainGlobals "_law_cell_at" = some (some (.ref f14))) (l14 : K.lookup f14 = some ⟨oc14, od14, .func (PySem.W.fnOf "_law_cell_at" "_law_cell_at" (bf dh) (aY dh) (aj dh) .none kV14 dc14 pm14 an14 cd14 ct14), sl14⟩) (c14 : PySem.W.codeIn K cd14 "_law_cell_at" = true) (k14 : PySem.W.keepIn K (.ref f14) = true)
  (a15 : PySem.W.nsIn K mainGlobals "_law_tape" = some (some (.ref f15))) (l15 : K.lookup f15 = some ⟨oc15, od15, .func (PySem.W.fnOf "_law_tape" "_law_tape" (bf eN) (aY eN) (aj eN) .none kV15 dc15 pm15 an15 cd15 ct15), sl15⟩) (c15 : PySem.W.codeIn K cd15 "_law_tape" = true) (k15 : PySem.W.keepIn K (.ref f15) = true)
  (a16 : PySem.W.nsIn K mainGlobals "_law_take" = some (some (.ref f16))) (l16 : K.lookup f16 = some ⟨oc16, od16, .func (PySem.W.fnOf "_law_take" "_law_take" (bf eO) (aY eO) (aj eO) .none kV16 dc16 pm16 an16 cd16 ct16), sl16⟩) (c16 : PySem.W.codeIn K cd16 "_law_take" = true) (k16 : PySem.W.keepIn K (.ref f16) = true)
  (a17 : PySem.W.nsIn K mainGlobals "_law_kind" = some (some (.ref f17))) (l17 : K.lookup f17 = some ⟨oc17, od17, .func (PySem.W.fnOf "_law_kind" "_law_kind" (bf fV) (aY fV) (aj fV) .none kV17 dc17 pm17 an17 cd17 ct17), sl17⟩) (c17 : PySem.W.codeIn K cd17 "_law_kind" = true) (k17 : PySem.W.keepIn K (.ref f17) = true)
  (a18 : PySem.W.nsIn K mainGlobals "_law_least" = some (some (.ref f18))) (l18 : K.lookup f18 = some ⟨oc18, od18, .func (PySem.W.fnOf "_law_least" "_law_least" (bf fH) (aY fH) (aj fH) .none kV18 dc18 pm18 an18 cd18 ct18), sl18⟩) (c18 : PySem.W.codeIn K cd18 "_law_least" = true) (k18 : PySem.W.keepIn K (.ref f18) = true)
  (a19 : PySem.W.nsIn K mainGlobals "_law_number" = some (some (.ref f19))) (l19 : K.lookup f19 = some ⟨oc19, od19, .func (PySem.W.fnOf "_law_number" "_law_number" (bf bN) (aY bN) (aj bN) .none kV19 dc19 pm19 an19 cd19 ct19), sl19⟩) (c19 : PySem.W.codeIn K cd19 "_law_number" = true) (k19 : PySem.W.keepIn K (.ref f19) = true)
  (a20 : PySem.W.nsIn K mainGlobals "_law_mask" = some (some (.ref f20))) (l20 : K.lookup f20 = some ⟨oc20, od20, .func (PySem.W.fnOf "_law_mask" "_law_mask" (bf dO) (aY dO) (aj dO) .none kV20 dc20 pm20 an20 cd20 ct20), sl20⟩) (c20 : PySem.W.codeIn K cd20 "_law_mask" = true) (k20 : PySem.W.keepIn K (.ref f20) = true)
  (a21 : PySem.W.nsIn K mainGlobals "_law_item" = some (some (.ref f21))) (l21 : K.lookup f21 = some ⟨oc21, od21, .func (PySem.W.fnOf "_law_item" "_law_item" (bf cH) (aY cH) (aj cH) .none kV21 dc21 pm21 an21 cd21 ct21), sl21⟩) (c21 : PySem.W.codeIn K cd21 "_law_item" = true) (k21 : PySem.W.keepIn K (.ref f21) = true)
  (a22 : PySem.W.nsIn K mainGlobals "_law_wild_choice" = some (some (.ref f22))) (l22 : K.lookup f22 = some ⟨oc22, od22, .func (PySem.W.fnOf "_law_wild_choice" "_law_wild_choice" (bf aJ) (aY aJ) (aj aJ) .none kV22 dc22 pm22 an22 cd22 ct22), sl22⟩) (c22 : PySem.W.codeIn K cd22 "_law_wild_choice" = true) (k22 : PySem.W.keepIn K (.ref f22) = true)
  (a23 : PySem.W.nsIn K mainGlobals "_law_same" = some (some (.ref f23))) (l23 : K.lookup f23 = some ⟨oc23, od23, .func (PySem.W.fnOf "_law_same" "_law_same" (bf cR) (aY cR) (aj cR) .none kV23 dc23 pm23 an23 cd23 ct23), sl23⟩) (c23 : PySem.W.codeIn K cd23 "_law_same" = true) (k23 : PySem.W.keepIn K (.ref f23) = true)
  (a24 : PySem.W.nsIn K mainGlobals "_law_item_text" = some (some (.ref f24))) (l24 : K.lookup f24 = some ⟨oc24, od24, .func (PySem.W.fnOf "_law_item_text" "_law_item_text" (bf cN) (aY cN) (aj cN) .none kV24 dc24 pm24 an24 cd24 ct24), sl24⟩) (c24 : PySem.W.codeIn K cd24 "_law_item_text" = true) (k24 : PySem.W.keepIn K (.ref f24) = true)
  (a25 : PySem.W.nsIn K mainGlobals "_law_choice_text" = some (some (.ref f25))) (l25 : K.lookup f25 = some ⟨oc25, od25, .func (PySem.W.fnOf "_law_choice_text" "_law_choice_text" (bf bF) (aY bF) (aj bF) .none kV25 dc25 pm25 an25 cd25 ct25), sl25⟩) (c25 : PySem.W.codeIn K cd25 "_law_choice_text" = true) (k25 : PySem.W.keepIn K (.ref f25) = true)
  (a26 : PySem.W.nsIn K mainGlobals "law" = some (some (.ref f26))) (l26 : K.lookup f26 = some ⟨oc26, od26, .func (PySem.W.fnOf "law" "law" (bf eH) (aY eH) (aj eH) .none kV26 dc26 pm26 an26 cd26 ct26), sl26⟩) (c26 : PySem.W.codeIn K cd26 "law" = true) (k26 : PySem.W.keepIn K (.ref f26) = true)
  (z1 : PySem.W.nsIn K mainGlobals "abs" = some none)
  (z2 : PySem.W.nsIn K mainGlobals "all" = some none)
  (z3 : PySem.W.nsIn K mainGlobals "bool" = some none)
  (z4 : PySem.W.nsIn K mainGlobals "enumerate" = some none)
  (z5 : PySem.W.nsIn K mainGlobals "int" = some none)
  (z6 : PySem.W.nsIn K mainGlobals "isinstance" = some none)
  (z7 : PySem.W.nsIn K mainGlobals "len" = some none)
  (z8 : PySem.W.nsIn K mainGlobals "list" = some none)
  (z9 : PySem.W.nsIn K mainGlobals "max" = some none)
  (z10 : PySem.W.nsIn K mainGlobals "min" = some none)
  (z11 : PySem.W.nsIn K mainGlobals "range" = some none)
  (z12 : PySem.W.nsIn K mainGlobals "repr" = some none)
  (z13 : PySem.W.nsIn K mainGlobals "str" = some none)
  (z14 : PySem.W.nsIn K mainGlobals "tuple" = some none)
  (z15 : PySem.W.nsIn K mainGlobals "zip" = some none)
  (w1 : PySem.W.nsIn K mainGlobals "FIGURES" = some (some (.str "0123456789" ckFigures)))
  (w2 : PySem.W.nsIn K mainGlobals "MOST_FIGURES" = some (some (.int 20 ckMostFigures)))
  (w3 : PySem.W.nsIn K mainGlobals "MOST_WIDTH" = some (some (.int 40 ckMostWidth))) :
  ∃ fd : FuncData, (∀ (s : Shared) (v : Value), BindsTo s fd ⟨[v], []⟩ [("_law_script", v)]) ∧ ∀ base : Heap, K.In base → base.Ns mainGlobals mg → cX l.prog w K mg base CX0 63 fa fd ["_law_script"] (Ac K) := by
 have e := hfa.symm.trans (PySem.W.mg_of X G a26)
 cases e
 have DIsNumber : fu K mg "is_number" cI ["thing"] _ _ := ⟨aN (st := cI) l1 c1 k1, (aN (st := cI) l1 c1 k1).binds (ps := ["thing"]) fun _ _ _ _ _ _ us hl => by obtain ⟨z0, rfl⟩ := ln1 hl; rfl, PySem.W.mg_of X G a1⟩
 have DIsKind : fu K mg "is_kind" dY ["width", "sign"] _ _ := ⟨aN (st := dY) l2 c2 k2, (aN (st := dY) l2 c2 k2).binds (ps := ["width", "sign"]) fun _ _ _ _ _ _ us hl => by obtain ⟨z0, z1, rfl⟩ := ln2 hl; rfl, PySem.W.mg_of X G a2⟩
 have DLeastOf : fu K mg "least_of" dU ["width", "sign"] _ _ := ⟨aN (st := dU) l3 c3 k3, (aN (st := dU) l3 c3 k3).binds (ps := ["width", "sign"]) fun _ _ _ _ _ _ us hl => by obtain ⟨z0, z1, rfl⟩ := ln2 hl; rfl, PySem.W.mg_of X G a3⟩
 have DMostOf : fu K mg "most_of" fJ ["width", "sign"] _ _ := ⟨aN (st := fJ) l4 c4 k4, (aN (st := fJ) l4 c4 k4).binds (ps := ["width", "sign"]) fun _ _ _ _ _ _ us hl => by obtain ⟨z0, z1, rfl⟩ := ln2 hl; rfl, PySem.W.mg_of X G a4⟩
 have DIsItem : fu K mg "is_item" bM ["width", "sign", "thing"] _ _ := ⟨aN (st := bM) l5 c5 k5, (aN (st := bM) l5 c5 k5).binds (ps := ["width", "sign", "thing"]) fun _ _ _ _ _ _ us hl => by obtain ⟨z0, z1, z2, rfl⟩ := ln3 hl; rfl, PySem.W.mg_of X G a5⟩
 have DNumberFrom : fu K mg "number_from" bC ["word"] _ _ := ⟨aN (st := bC) l6 c6 k6, (aN (st := bC) l6 c6 k6).binds (ps := ["word"]) fun _ _ _ _ _ _ us hl => by obtain ⟨z0, rfl⟩ := ln1 hl; rfl, PySem.W.mg_of X G a6⟩
 have DNumbersFrom : fu K mg "numbers_from" bO ["words"] _ _ := ⟨aN (st := bO) l7 c7 k7, (aN (st := bO) l7 c7 k7).binds (ps := ["words"]) fun _ _ _ _ _ _ us hl => by obtain ⟨z0, rfl⟩ := ln1 hl; rfl, PySem.W.mg_of X G a7⟩
 have DItemText : fu K mg "item_text" cZ ["item"] _ _ := ⟨aN (st := cZ) l8 c8 k8, (aN (st := cZ) l8 c8 k8).binds (ps := ["item"]) fun _ _ _ _ _ _ us hl => by obtain ⟨z0, rfl⟩ := ln1 hl; rfl, PySem.W.mg_of X G a8⟩
 have DChoiceText : fu K mg "choice_text" bD ["choice"] _ _ := ⟨aN (st := bD) l9 c9 k9, (aN (st := bD) l9 c9 k9).binds (ps := ["choice"]) fun _ _ _ _ _ _ us hl => by obtain ⟨z0, rfl⟩ := ln1 hl; rfl, PySem.W.mg_of X G a9⟩
 have DItemFrom : fu K mg "item_from" bZ ["word"] _ _ := ⟨aN (st := bZ) l10 c10 k10, (aN (st := bZ) l10 c10 k10).binds (ps := ["word"]) fun _ _ _ _ _ _ us hl => by obtain ⟨z0, rfl⟩ := ln1 hl; rfl, PySem.W.mg_of X G a10⟩
 have DKindFrom : fu K mg "kind_from" bQ ["row"] _ _ := ⟨aN (st := bQ) l11 c11 k11, (aN (st := bQ) l11 c11 k11).binds (ps := ["row"]) fun _ _ _ _ _ _ us hl => by obtain ⟨z0, rfl⟩ := ln1 hl; rfl, PySem.W.mg_of X G a11⟩
 have DCaseFrom : fu K mg "case_from" b7 ["width", "sign", "row"] _ _ := ⟨aN (st := b7) l12 c12 k12, (aN (st := b7) l12 c12 k12).binds (ps := ["width", "sign", "row"]) fun _ _ _ _ _ _ us hl => by obtain ⟨z0, z1, z2, rfl⟩ := ln3 hl; rfl, PySem.W.mg_of X G a12⟩
 have DChoiceFrom : fu K mg "choice_from" aR ["text"] _ _ := ⟨aN (st := aR) l13 c13 k13, (aN (st := aR) l13 c13 k13).binds (ps := ["text"]) fun _ _ _ _ _ _ us hl => by obtain ⟨z0, rfl⟩ := ln1 hl; rfl, PySem.W.mg_of X G a13⟩
 have DZCellAt : fu K mg "_law_cell_at" dh ["_law_script", "_law_k"] _ _ := ⟨aN (st := dh) l14 c14 k14, (aN (st := dh) l14 c14 k14).binds (ps := ["_law_script", "_law_k"]) fun _ _ _ _ _ _ us hl => by obtain ⟨z0, z1, rfl⟩ := ln2 hl; rfl, PySem.W.mg_of X G a14⟩
 have DZTape : fu K mg "_law_tape" eN ["_law_script", "_law_k"] _ _ := ⟨aN (st := eN) l15 c15 k15, (aN (st := eN) l15 c15 k15).binds (ps := ["_law_script", "_law_k"]) fun _ _ _ _ _ _ us hl => by obtain ⟨z0, z1, rfl⟩ := ln2 hl; rfl, PySem.W.mg_of X G a15⟩
 have DZTake : fu K mg "_law_take" eO ["_law_tape_here", "_law_many"] _ _ := ⟨aN (st := eO) l16 c16 k16, (aN (st := eO) l16 c16 k16).binds (ps := ["_law_tape_here", "_law_many"]) fun _ _ _ _ _ _ us hl => by obtain ⟨z0, z1, rfl⟩ := ln2 hl; rfl, PySem.W.mg_of X G a16⟩
 have DZKind : fu K mg "_law_kind" fV ["_law_tape_here"] _ _ := ⟨aN (st := fV) l17 c17 k17, (aN (st := fV) l17 c17 k17).binds (ps := ["_law_tape_here"]) fun _ _ _ _ _ _ us hl => by obtain ⟨z0, rfl⟩ := ln1 hl; rfl, PySem.W.mg_of X G a17⟩
 have DZLeast : fu K mg "_law_least" fH ["_law_width", "_law_sign"] _ _ := ⟨aN (st := fH) l18 c18 k18, (aN (st := fH) l18 c18 k18).binds (ps := ["_law_width", "_law_sign"]) fun _ _ _ _ _ _ us hl => by obtain ⟨z0, z1, rfl⟩ := ln2 hl; rfl, PySem.W.mg_of X G a18⟩
 have DZNumber : fu K mg "_law_number" bN ["_law_tape_here", "_law_width", "_law_sign", "_law_other"] _ _ := ⟨aN (st := bN) l19 c19 k19, (aN (st := bN) l19 c19 k19).binds (ps := ["_law_tape_here", "_law_width", "_law_sign", "_law_other"]) fun _ _ _ _ _ _ us hl => by obtain ⟨z0, z1, z2, z3, rfl⟩ := ln4 hl; rfl, PySem.W.mg_of X G a19⟩
 have DZMask : fu K mg "_law_mask" dO ["_law_tape_here", "_law_width"] _ _ := ⟨aN (st := dO) l20 c20 k20, (aN (st := dO) l20 c20 k20).binds (ps := ["_law_tape_here", "_law_width"]) fun _ _ _ _ _ _ us hl => by obtain ⟨z0, z1, rfl⟩ := ln2 hl; rfl, PySem.W.mg_of X G a20⟩
 have DZItem : fu K mg "_law_item" cH ["_law_tape_here", "_law_width", "_law_sign", "_law_other"] _ _ := ⟨aN (st := cH) l21 c21 k21, (aN (st := cH) l21 c21 k21).binds (ps := ["_law_tape_here", "_law_width", "_law_sign", "_law_other"]) fun _ _ _ _ _ _ us hl => by obtain ⟨z0, z1, z2, z3, rfl⟩ := ln4 hl; rfl, PySem.W.mg_of X G a21⟩
 have DZWildChoice : fu K mg "_law_wild_choice" aJ ["_law_tape_here"] _ _ := ⟨aN (st := aJ) l22 c22 k22, (aN (st := aJ) l22 c22 k22).binds (ps := ["_law_tape_here"]) fun _ _ _ _ _ _ us hl => by obtain ⟨z0, rfl⟩ := ln1 hl; rfl, PySem.W.mg_of X G a22⟩
 have DZSame : fu K mg "_law_same" cR ["_law_found", "_law_due"] _ _ := ⟨aN (st := cR) l23 c23 k23, (aN (st := cR) l23 c23 k23).binds (ps := ["_law_found", "_law_due"]) fun _ _ _ _ _ _ us hl => by obtain ⟨z0, z1, rfl⟩ := ln2 hl; rfl, PySem.W.mg_of X G a23⟩
 have DZItemText : fu K mg "_law_item_text" cN ["_law_item_here"] _ _ := ⟨aN (st := cN) l24 c24 k24, (aN (st := cN) l24 c24 k24).binds (ps := ["_law_item_here"]) fun _ _ _ _ _ _ us hl => by obtain ⟨z0, rfl⟩ := ln1 hl; rfl, PySem.W.mg_of X G a24⟩
 have DZChoiceText : fu K mg "_law_choice_text" bF ["_law_choice"] _ _ := ⟨aN (st := bF) l25 c25 k25, (aN (st := bF) l25 c25 k25).binds (ps := ["_law_choice"]) fun _ _ _ _ _ _ us hl => by obtain ⟨z0, rfl⟩ := ln1 hl; rfl, PySem.W.mg_of X G a25⟩
 have DLaw : fu K mg "law" eH ["_law_script"] _ _ := ⟨aN (st := eH) l26 c26 k26, (aN (st := eH) l26 c26 k26).binds (ps := ["_law_script"]) fun _ _ _ _ _ _ us hl => by obtain ⟨z0, rfl⟩ := ln1 hl; rfl, PySem.W.mg_of X G a26⟩
 have cgFigures : mg "FIGURES" = some (.str "0123456789" ckFigures) := PySem.W.mg_of X G w1
 have cgMostFigures : mg "MOST_FIGURES" = some (.int 20 ckMostFigures) := PySem.W.mg_of X G w2
 have cgMostWidth : mg "MOST_WIDTH" = some (.int 40 ckMostWidth) := PySem.W.mg_of X G w3
 have hB : ∀ x : Str, x ∈ BLs → mg x = none := by
  intro x hx
  replace hx : x ∈ (["abs", "all", "bool", "enumerate", "int", "isinstance", "len", "list", "max", "min", "range", "repr", "str", "tuple", "zip"] : List Str) := hx
  simp only [List.mem_cons, List.not_mem_nil, or_false] at hx
  rcases hx with rfl | rfl | rfl | rfl | rfl | rfl | rfl | rfl | rfl | rfl | rfl | rfl | rfl | rfl | rfl
  ·exact PySem.W.mg_none_of X G z1
  ·exact PySem.W.mg_none_of X G z2
  ·exact PySem.W.mg_none_of X G z3
  ·exact PySem.W.mg_none_of X G z4
  ·exact PySem.W.mg_none_of X G z5
  ·exact PySem.W.mg_none_of X G z6
  ·exact PySem.W.mg_none_of X G z7
  ·exact PySem.W.mg_none_of X G z8
  ·exact PySem.W.mg_none_of X G z9
  ·exact PySem.W.mg_none_of X G z10
  ·exact PySem.W.mg_none_of X G z11
  ·exact PySem.W.mg_none_of X G z12
  ·exact PySem.W.mg_none_of X G z13
  ·exact PySem.W.mg_none_of X G z14
  ·exact PySem.W.mg_none_of X G z15
 refine ⟨PySem.W.fnOf "law" "law" (bf eH) (aY eH) (aj eH) .none kV26 dc26 pm26 an26 cd26 ct26, fun s v => .of_eq rfl, fun base kb nb => ?_⟩
 have CCell := DZCellAt.cal (Nb (P := l.prog) (w := w) (base := base) hB DZCellAt.fn)
 have CTape := DZTape.cal (M5 hB CCell DZTape.fn)
 have CTake0 := DZTake.cal (Ci (P := l.prog) (w := w) (mg := mg) (base := base))
 have CTake1 := DZTake.cal (Aw (n := 0) hB (by decide) CTake0 DZTake.fn)
 have CTake2 := DZTake.cal (Aw (n := 1) hB (by decide) CTake1 DZTake.fn)
 have CSames : ∀ n, Cal l.prog w K mg base "_law_same" n ["_law_found", "_law_due"] (lz n) := fun n => by
  induction n with
  | zero => exact DZSame.cal (same_none (P := l.prog) (w := w) (mg := mg) (base := base))
  | succ n ih => exact DZSame.cal (M6 hB ih DZSame.fn)
 have CZK := DZKind.cal (M8 hB CTake2 DZKind.fn)
 have CZL := DZLeast.cal (Hz (P := l.prog) (w := w) (mg := mg) (base := base) DZLeast.fn)
 have CZN := DZNumber.cal (RZ hB CTake2 CZL DZNumber.fn)
 have CZM := DZMask.cal (Ax hB CTake2 DZMask.fn)
 have CZI := DZItem.cal (M9 hB CTake2 CZN CZM DZItem.fn)
 have CWild := DZWildChoice.cal (M4 hB CTake2 CZK CZL CZI DZWildChoice.fn)
 have CNum := DIsNumber.cal (HJ (P := l.prog) (w := w) (base := base) hB DIsNumber.fn)
 have CKd := DIsKind.cal (Df hB cgMostWidth CNum DIsKind.fn)
 have CLs := DLeastOf.cal (Dd (P := l.prog) (w := w) (mg := mg) (base := base) DLeastOf.fn)
 have CMs := DMostOf.cal (Hy (P := l.prog) (w := w) (mg := mg) (base := base) DMostOf.fn)
 have CIt := DIsItem.cal (Dg hB CNum CLs CMs DIsItem.fn)
 have CNF := DNumberFrom.cal (M7 (P := l.prog) (w := w) (base := base) hB cgFigures cgMostFigures DNumberFrom.fn)
 have CNsF := DNumbersFrom.cal (Hw hB CNF DNumbersFrom.fn)
 have CITx := DItemText.cal (HD (P := l.prog) (w := w) (base := base) hB DItemText.fn)
 have CCT := DChoiceText.cal (zj hB CITx DChoiceText.fn)
 have CIF := DItemFrom.cal (HF hB CNF DItemFrom.fn)
 have CKF := DKindFrom.cal (HB hB CKd CNsF DKindFrom.fn)
 have CCF := DCaseFrom.cal (HN hB CIt CIF DCaseFrom.fn)
 have CChF := DChoiceFrom.cal (zm hB CKF CCF DChoiceFrom.fn)
 have CLI := DZItemText.cal (Dc (P := l.prog) (w := w) (base := base) hB DZItemText.fn)
 have CLC := DZChoiceText.cal (xu hB CLI DZChoiceText.fn)
 exact R0 hB CCT CLC CChF CTape CWild (CSames 5) DLaw.fn
theorem walk {l : PySem.W.OpenLaw} {q : Program} {loose : List Str} {XP : (Str → Option Value) → Heap → Prop} {YP : World → Heap → Prop} {d : DefRec} {K : Params → PySem.W.Frag} (hn : l.most = some 63) (hdf : d.params.defaults = [])
  (hY : ∀ (w : World) (h : Heap), YP w h → (K w.params).In h)
  (F : ∀ (w : World) (mg : Str → Option Value) (fa : Addr) (h : Heap), (K w.params).In h → h.Ns mainGlobals mg → mg d.name = some (.ref fa) →
   ∃ fd : FuncData, (∀ (s : Shared) (u : Value), BindsTo s fd ⟨[u], []⟩ [("_law_script", u)]) ∧ ∀ base : Heap, (K w.params).In base → base.Ns mainGlobals mg → cX l.prog w (K w.params) mg base CX0 63 fa fd ["_law_script"] (Ac (K w.params))) :
  PySem.W.WalkO q loose XP YP l.row.toRowW d [] (fun f vs => PySem.call f vs) :=
 L2.JX (n := 63) (k := 63) (x := "_law_script") (CX := fun _ => CX0) (sp := fun w => Ac (K w.params)) hn (by decide) hdf ⟨rfl, by decide, by decide, rfl⟩ hY F (fun _ _ a ns hl _ hS => ⟨a, ns, rfl, hS, hl, fun _ => rfl⟩) fun _ _ _ _ _ z => z
end K45
open PySem PySem.W PyProof.Rows
set_option maxRecDepth 100000 in
set_option maxHeartbeats 0 in
theorem PySem.Challenge.cw_caseways_k45_choices_written_holds : PySem.Challenge.rw_caseways_k45_choices_written.Holds := by
 w_on; o_law; k_head; (case hw => w_witness2)
 k_fill
 refine K45.walk (l := PySem.Challenge.rw_caseways_k45_choices_written) rfl rfl (fun w h Y => PySem.W.kIn_of Y) ?F
 case F =>
  intro w mg fa h KX G hmg
  refine' K45.all_mk KX G hmg ?a1 ?l1 ?c1 ?k1 ?a2 ?l2 ?c2 ?k2 ?a3 ?l3 ?c3 ?k3 ?a4 ?l4 ?c4 ?k4 ?a5 ?l5 ?c5 ?k5 ?a6 ?l6 ?c6 ?k6 ?a7 ?l7 ?c7 ?k7 ?a8 ?l8 ?c8 ?k8 ?a9 ?l9 ?c9 ?k9 ?a10 ?l10 ?c10 ?k10 ?a11 ?l11 ?c11 ?k11 ?a12 ?l12 ?c12 ?k12 ?a13 ?l13 ?c13 ?k13 ?a14 ?l14 ?c14 ?k14 ?a15 ?l15 ?c15 ?k15 ?a16 ?l16 ?c16 ?k16 ?a17 ?l17 ?c17 ?k17 ?a18 ?l18 ?c18 ?k18 ?a19 ?l19 ?c19 ?k19 ?a20 ?l20 ?c20 ?k20 ?a21 ?l21 ?c21 ?k21 ?a22 ?l22 ?c22 ?k22 ?a23 ?l23 ?c23 ?k23 ?a24 ?l24 ?c24 ?k24 ?a25 ?l25 ?c25 ?k25 ?a26 ?l26 ?c26 ?k26 ?z1 ?z2 ?z3 ?z4 ?z5 ?z6 ?z7 ?z8 ?z9 ?z10 ?z11 ?z12 ?z13 ?z14 ?z15 ?w1 ?w2 ?w3
  (case a1 => k_is)
  (case l1 => k_is)
  (case c1 => k_is)
  (case k1 => k_is)
  (case a2 => k_is)
  (case l2 => k_is)
  (case c2 => k_is)
  (case k2 => k_is)
  (case a3 => k_is)
  (case l3 => k_is)
  (case c3 => k_is)
  (case k3 => k_is)
  (case a4 => k_is)
  (case l4 => k_is)
  (case c4 => k_is)
  (case k4 => k_is)
  (case a5 => k_is)
  (case l5 => k_is)
  (case c5 => k_is)
  (case k5 => k_is)
  (case a6 => k_is)
  (case l6 => k_is)
  (case c6 => k_is)
  (case k6 => k_is)
  (case a7 => k_is)
  (case l7 => k_is)
  (case c7 => k_is)
  (case k7 => k_is)
  (case a8 => k_is)
  (case l8 => k_is)
  (case c8 => k_is)
  (case k8 => k_is)
  (case a9 => k_is)
  (case l9 => k_is)
  (case c9 => k_is)
  (case k9 => k_is)
  (case a10 => k_is)
  (case l10 => k_is)
  (case c10 => k_is)
  (case k10 => k_is)
  (case a11 => k_is)
  (case l11 => k_is)
  (case c11 => k_is)
  (case k11 => k_is)
  (case a12 => k_is)
  (case l12 => k_is)
  (case c12 => k_is)
  (case k12 => k_is)
  (case a13 => k_is)
  (case l13 => k_is)
  (case c13 => k_is)
  (case k13 => k_is)
  (case a14 => k_is)
  (case l14 => k_is)
  (case c14 => k_is)
  (case k14 => k_is)
  (case a15 => k_is)
  (case l15 => k_is)
  (case c15 => k_is)
  (case k15 => k_is)
  (case a16 => k_is)
  (case l16 => k_is)
  (case c16 => k_is)
  (case k16 => k_is)
  (case a17 => k_is)
  (case l17 => k_is)
  (case c17 => k_is)
  (case k17 => k_is)
  (case a18 => k_is)
  (case l18 => k_is)
  (case c18 => k_is)
  (case k18 => k_is)
  (case a19 => k_is)
  (case l19 => k_is)
  (case c19 => k_is)
  (case k19 => k_is)
  (case a20 => k_is)
  (case l20 => k_is)
  (case c20 => k_is)
  (case k20 => k_is)
  (case a21 => k_is)
  (case l21 => k_is)
  (case c21 => k_is)
  (case k21 => k_is)
  (case a22 => k_is)
  (case l22 => k_is)
  (case c22 => k_is)
  (case k22 => k_is)
  (case a23 => k_is)
  (case l23 => k_is)
  (case c23 => k_is)
  (case k23 => k_is)
  (case a24 => k_is)
  (case l24 => k_is)
  (case c24 => k_is)
  (case k24 => k_is)
  (case a25 => k_is)
  (case l25 => k_is)
  (case c25 => k_is)
  (case k25 => k_is)
  (case a26 => k_is)
  (case l26 => k_is)
  (case c26 => k_is)
  (case k26 => k_is)
  (case z1 => k_is)
  (case z2 => k_is)
  (case z3 => k_is)
  (case z4 => k_is)
  (case z5 => k_is)
  (case z6 => k_is)
  (case z7 => k_is)
  (case z8 => k_is)
  (case z9 => k_is)
  (case z10 => k_is)
  (case z11 => k_is)
  (case z12 => k_is)
  (case z13 => k_is)
  (case z14 => k_is)
  (case z15 => k_is)
  (case w1 => k_is)
  (case w2 => k_is)
  (case w3 => k_is)
#print axioms PySem.Challenge.cw_caseways_k45_choices_written_holds
