import PyProof.Rows.All
import Wide.All
import OpenK.AllK
import Wide.FinOn
import Lean
import PyProof.EqAt
import PyProof.EqKinds
import PyProof.TupleCall
import PyProof.NeData
import PySem.Challenge.RW_caseways_k49_whole_rows_texts_spoilt
set_option Elab.async false
set_option linter.all false
set_option maxRecDepth 100000
namespace L2
open PySem PySem.Spec PyProof.Rows
abbrev Key := Sum Int Str
def vC : Key → Value → Bool
 | .inl k, v => Value.isInt k v
 | .inr x, v => Value.isStrOf x v
def W6 (w : World) : Key → Int
 | .inl k => hashInt k
 | .inr x => hashStr w x
theorem dj : ∀ {k : Key} {v : Value}, vC k v = true → (∃ i t, k = Sum.inl i ∧ v = Value.int i t) ∨ (∃ x t, k = Sum.inr x ∧ v = Value.str x t)
 | .inl i, v, h => by
  obtain ⟨t, e⟩ := Value.isInt_shape (k := i) (v := v) h
  exact .inl ⟨i, t, rfl, e⟩
 | .inr x, v, h => by
  obtain ⟨t, e⟩ := Value.isStrOf_shape (x := x) (v := v) h
  exact .inr ⟨x, t, rfl, e⟩
theorem Gf (i : Int) (t : Tok) : vC (.inl i) (.int i t) = true := by simp [vC, Value.isInt]
theorem Ge (x : Str) (t : Tok) : vC (.inr x) (.str x t) = true := by simp [vC, Value.isStrOf]
theorem U3 (a b : Int) : decide ((Sum.inl a : Key) = Sum.inl b) = (a == b) := by
 by_cases e : a = b
 ·subst e; simp
 ·have h : ¬ (Sum.inl a : Key) = Sum.inl b := fun q => e (Sum.inl.inj q)
  rw [decide_eq_false h]
  exact (beq_eq_false_iff_ne.mpr e).symm
theorem UL (a b : Str) : decide ((Sum.inr a : Key) = Sum.inr b) = decide (a = b) := by
 by_cases e : a = b
 ·subst e; simp
 ·have h : ¬ (Sum.inr a : Key) = Sum.inr b := fun q => e (Sum.inr.inj q)
  rw [decide_eq_false h, decide_eq_false e]
theorem U0 (a : Int) (b : Str) : decide ((Sum.inl a : Key) = Sum.inr b) = false := decide_eq_false (fun q => nomatch q)
theorem UW (a : Str) (b : Int) : decide ((Sum.inr a : Key) = Sum.inl b) = false := decide_eq_false (fun q => nomatch q)
def dh (prog : Program) (w : World) : PySem.KeyKind prog w Key where
 is := vC
 hash := W6 w
 inj := fun v a b ha hb => by
  rcases dj ha with ⟨i, t, rfl, rfl⟩ | ⟨x, t, rfl, rfl⟩
  ·rcases dj hb with ⟨j, u, rfl, e⟩ | ⟨y, u, rfl, e⟩
   ·injection e with e1 _; rw [e1]
   ·exact nomatch e
  ·rcases dj hb with ⟨j, u, rfl, e⟩ | ⟨y, u, rfl, e⟩
   ·exact nomatch e
   ·injection e with e1 _; rw [e1]
 byValue := fun k v h => by
  rcases dj h with ⟨i, t, rfl, rfl⟩ | ⟨x, t, rfl, rfl⟩ <;> rfl
 pyHash := fun hv h => by
  rcases dj hv with ⟨i, t, rfl, rfl⟩ | ⟨x, t, rfl, rfl⟩
  ·exact wpAny_pyHash_int h
  ·exact wpAny_pyHash_str h
 eqBool := fun hu hv h => by
  rcases dj hu with ⟨i, t, rfl, rfl⟩ | ⟨x, t, rfl, rfl⟩
  ·rcases dj hv with ⟨j, u, rfl, rfl⟩ | ⟨y, u, rfl, rfl⟩
   ·rw [U3] at h; exact wpAny_eqBool_int h
   ·rw [U0] at h; exact SeqAt.EqAt.int_str i t y u _ _ _ _ h
  ·rcases dj hv with ⟨j, u, rfl, rfl⟩ | ⟨y, u, rfl, rfl⟩
   ·rw [UW] at h; exact SeqAt.EqAt.str_int x t j u _ _ _ _ h
   ·rw [UL] at h; exact wpAny_eqBool_str h
 «strs» := fun k x t v h => by
  rcases dj h with ⟨i, u, rfl, e⟩ | ⟨y, u, rfl, e⟩
  ·exact nomatch e
  ·injection e with e1 _
   subst e1
   cases v <;> rfl
theorem za (prog : Program) (w : World) (i : Int) (t : Tok) : (dh prog w).is (.inl i) (.int i t) = true := Gf i t
theorem yZ (prog : Program) (w : World) (x : Str) (t : Tok) : (dh prog w).is (.inr x) (.str x t) = true := Ge x t
inductive V where
 | non | bl (b : Bool) | int (i : Int) | str (x : Str) | byt (b : Array UInt8) | flt (b : UInt64) | ref (a : Addr) | ty (n : String)
 deriving DecidableEq
def RelV : V → Value → Prop
 | .non, u => u = Value.none
 | .bl b, u => u = Value.bool b
 | .int i, u => ∃ t, u = Value.int i t
 | .str x, u => ∃ t, u = Value.str x t
 | .byt b, u => ∃ t, u = Value.bytes b t
 | .flt b, u => ∃ t, u = Value.float b t
 | .ref a, u => u = Value.ref a
 | .ty n, u => u = Value.type n
abbrev Vals : List V → List Value → Prop := Paired RelV
theorem Vals.length {xs : List V} {us : List Value} (r : Vals xs us) : xs.length = us.length := Paired.length r
theorem Vals.get : ∀ {xs : List V} {us : List Value} {i : Nat} {x : V}, Vals xs us → xs[i]? = some x → ∃ u, us[i]? = some u ∧ RelV x u
 | _, _, _, _, .nil, e => by simp at e
 | _, _, 0, _, .cons r _, e => by simp at e; subst e; exact ⟨_, rfl, r⟩
 | _, _, i + 1, x, .cons _ t, e => by
  obtain ⟨u, h1, h2⟩ := Vals.get (i := i) (x := x) t (by simpa using e)
  exact ⟨u, by simpa using h1, h2⟩
theorem Vals.set {x : V} {u : Value} (r : RelV x u) : ∀ {xs : List V} {us : List Value} (i : Nat), Vals xs us → Vals (xs.set i x) (us.set i u)
 | _, _, _, .nil => .nil
 | _, _, 0, .cons _ t => .cons r t
 | _, _, i + 1, .cons q t => .cons q (Vals.set r i t)
theorem Vals.append : ∀ {xs ys : List V} {us ws : List Value}, Vals xs us → Vals ys ws → Vals (xs ++ ys) (us ++ ws)
 | _, _, _, _, .nil, s => s
 | _, _, _, _, .cons r t, s => .cons r (Vals.append t s)
theorem Vals.take : ∀ {xs : List V} {us : List Value} (n : Nat), Vals xs us → Vals (xs.take n) (us.take n)
 | _, _, 0, _ => .nil
 | _, _, _ + 1, .nil => .nil
 | _, _, n + 1, .cons r t => .cons r (Vals.take n t)
theorem Vals.drop : ∀ {xs : List V} {us : List Value} (n : Nat), Vals xs us → Vals (xs.drop n) (us.drop n)
 | _, _, 0, r => r
 | _, _, _ + 1, .nil => .nil
 | _, _, n + 1, .cons _ t => Vals.drop n t
theorem Vals.none_of : ∀ {xs : List V} {us : List Value} {i : Nat}, Vals xs us → xs[i]? = none → us[i]? = none := fun {xs us i} r e => by
 have h1 := r.length
 have h2 : xs.length ≤ i := List.getElem?_eq_none_iff.mp e
 exact List.getElem?_eq_none_iff.mpr (by omega)
def zH : Option V → Option Value → Prop
 | some v, some u => RelV v u
 | none, none => True
 | _, _ => False
def KV {κ : Type} : List (κ × V) → List (κ × Value) → Prop := Paired fun (p : κ × V) (q : κ × Value) => p.1 = q.1 ∧ RelV p.2 q.2
def kV : Key → V
 | .inl i => .int i
 | .inr x => .str x
inductive HO where
 /-- a list -/
 | lst (xs : List V)
 /-- a tuple (never changes) -/
 | tup (xs : List V)
 /-- a dict whose keys are ints and texts; one whose keys are tuples of ints and texts (the empty one is both) -/
 | dK (kvs : List (Key × V)) | dT (kvs : List (List Key × V))
 /-- a set of ints: its members, its size -/
 | set (S : Int → Bool) (n : Nat)
 /-- an instance of the class at C, its dict at dx, its attributes -/
 | ins (C dx : Addr) (fs : List (Str × V))
 /-- the dict of the instance at x -/
 | own (x : Addr)
 /-- the dict of an exception -/
 | xd (fs : List (Str × V))
 /-- a bound method, f of x -/
 | met (f x : Addr)
 /-- a range object lo, lo + 1, .. below hi -/
 | rng (lo hi : Int)
 /-- a thing that is known to the object (the script; a dict while a loop walks it): read, never written while it is so -/
 | frz (o : Obj) (u : HO)
 /-- a code object's table -/
 | tbl (ps : Array Value)
 /-- any other thing, by what is true of its one object (a def of one's own: SetO a S n := HO.ext fun h => ..) -/
 | ext (φ : Heap → Prop)
abbrev Hp := Addr → Option HO
def upd (H : Hp) (a : Addr) (o : HO) : Hp := fun b => if b = a then some o else H b
theorem aB {H : Hp} {a : Addr} {o : HO} : upd H a o a = some o := by unfold upd; rw [if_pos rfl]
theorem aG {H : Hp} {a b : Addr} {o : HO} (h : b ≠ a) : upd H a o b = H b := by unfold upd; rw [if_neg h]
theorem aJ {H : Hp} {a b : Addr} {o : HO} (h : H a = some o) (h' : H b = none) : a ≠ b := by
 intro e; subst e; rw [h] at h'; cases h'
section
variable (P : Program) (w : World)
def cj (H : Hp) (h : Heap) (a : Addr) : HO → Prop
 | .lst xs => xs.length ≤ sizeLine ∧ ∃ (its : List Value) (n : Nat), Vals xs its ∧ h.get? a = some { cls := .type "list", data := .seq its.toArray n }
 | .tup xs => xs.length ≤ sizeLine ∧ ∃ its : List Value, Vals xs its ∧ IsTup h a its.toArray
 | .dK kvs => kvs.length ≤ sizeLine ∧ (a == sysModules) = false ∧ ∃ vs, KV kvs vs ∧ h.DictOf (dh P w) a vs
 | .dT kvs => kvs.length ≤ sizeLine ∧ (a == sysModules) = false ∧ ∃ xs : List (List Key × Addr × Value),
   Paired (fun (p : List Key × V) (q : List Key × Addr × Value) => p.1 = q.1 ∧ H q.2.1 = some (.tup (p.1.map kV)) ∧ RelV p.2 q.2.2) kvs xs ∧
   ∃ o es ep, h.get? a = some o ∧ o.ExactDict ∧ o.data = .dict es ep ∧ es.toList = xs.map (entryOfKey (tupleKind (dh P w))) ∧ (xs.map (·.1)).Nodup
 | .set S n => h.SetOf (intKind P w) a S n
 | .ins C dx fs => H dx = some (.own a) ∧ fs.length ≤ 1000 ∧ dx ≠ a ∧ h.get? a = some (PySem.W.instObj C dx) ∧
   ∃ mA, h.Ns1 dx mA ∧ (∀ f, zH (fs.lookup f) (mA f)) ∧ PySem.Within mA (fs.map (·.1))
 | .own _ => ∃ o, h.get? a = some o
 | .xd fs => ∃ mA, h.Ns1 a mA ∧ ∀ f, zH (fs.lookup f) (mA f)
 | .rng lo hi => ∃ t u v, h.get? a = some { cls := .type "range", data := .fields #[.int lo t, .int hi u, .int 1 v] }
 | .frz o u => h.get? a = some o ∧ cj H h a u
 | .tbl ps => h.get? a = some { cls := .none, data := .fields ps }
 | .met f x => h.get? a = some (PySem.W.methodObj (.ref f) (.ref x))
 | .ext φ => φ h ∧ (∃ o, h.get? a = some o) ∧ ∀ h1 h2 : Heap, φ h1 → (∀ o, h1.get? a = some o → h2.get? a = some o) → φ h2
def HOk (H : Hp) (h : Heap) : Prop := ∀ a o, H a = some o → cj P w H h a o
end
section
variable {P : Program} {w : World} {H H' : Hp} {h h' : Heap} {a : Addr} {o : HO}
theorem cj.lt (x : cj P w H h a o) : a < h.objs.size := by
 cases o with
 | lst xs => obtain ⟨_, _, _, _, e⟩ := x; exact Heap.lt_size e
 | tup xs => obtain ⟨_, _, _, p⟩ := x; exact p.lt
 | dK kvs => obtain ⟨_, _, _, _, o, _, _, e, _⟩ := x; exact Heap.lt_size e
 | dT kvs => obtain ⟨_, _, _, _, o, _, _, e, _⟩ := x; exact Heap.lt_size e
 | set S n => obtain ⟨o, _, _, _, e, _⟩ := x; exact Heap.lt_size e
 | ins C dx fs => obtain ⟨_, _, _, e, _⟩ := x; exact Heap.lt_size e
 | own y => obtain ⟨_, e⟩ := x; exact Heap.lt_size e
 | xd fs => obtain ⟨_, ⟨_, _, _, e, _⟩, _⟩ := x; exact Heap.lt_size e
 | rng lo hi => obtain ⟨_, _, _, e⟩ := x; exact Heap.lt_size e
 | frz ob u => obtain ⟨e, _⟩ := x; exact Heap.lt_size e
 | tbl ps => exact Heap.lt_size (show h.get? a = some _ from x)
 | met f y => exact Heap.lt_size (show h.get? a = some _ from x)
 | ext φ => obtain ⟨_, ⟨_, e⟩, _⟩ := x; exact Heap.lt_size e
theorem Paired.Wk {α β : Type} {F G : α → β → Prop} : ∀ {l₁ : List α} {l₂ : List β}, Paired F l₁ l₂ → (∀ a b, F a b → G a b) → Paired G l₁ l₂
 | _, _, .nil, _ => .nil
 | _, _, .cons r t, f => .cons (f _ _ r) (Paired.Wk t f)
theorem cj.stay (x : cj P w H h a o) (k : ∀ b u, (b = a ∨ H b = some (.own a)) → h.get? b = some u → h'.get? b = some u)
  (ho : ∀ b, H b = some (.own a) → H' b = some (.own a)) (ht : ∀ b xs, H b = some (.tup xs) → H' b = some (.tup xs)) : cj P w H' h' a o := by
 induction o with
 | lst xs => obtain ⟨z, its, n, r, e⟩ := x; exact ⟨z, its, n, r, k _ _ (.inl rfl) e⟩
 | tup xs => obtain ⟨z, its, r, ob, e, c⟩ := x; exact ⟨z, its, r, ob, k _ _ (.inl rfl) e, c⟩
 | dK kvs => obtain ⟨z, y, vs, r, ob, es, ep, e, c⟩ := x; exact ⟨z, y, vs, r, ob, es, ep, k _ _ (.inl rfl) e, c⟩
 | dT kvs =>
  obtain ⟨z, y, xs, r, ob, es, ep, e, c⟩ := x
  exact ⟨z, y, xs, Paired.Wk r fun p q z => ⟨z.1, ht _ _ z.2.1, z.2.2⟩, ob, es, ep, k _ _ (.inl rfl) e, c⟩
 | set S n => obtain ⟨ob, es, ep, t, e, c⟩ := x; exact ⟨ob, es, ep, t, k _ _ (.inl rfl) e, c⟩
 | ins C dx fs =>
  obtain ⟨d, z, ne, e, mA, ⟨od, es, ep, e2, c⟩, r⟩ := x
  exact ⟨ho _ d, z, ne, k _ _ (.inl rfl) e, mA, ⟨od, es, ep, k _ _ (.inr d) e2, c⟩, r⟩
 | own y => obtain ⟨ob, e⟩ := x; exact ⟨ob, k _ _ (.inl rfl) e⟩
 | xd fs => obtain ⟨mA, ⟨od, es, ep, e, c⟩, r⟩ := x; exact ⟨mA, ⟨od, es, ep, k _ _ (.inl rfl) e, c⟩, r⟩
 | rng lo hi => obtain ⟨t, u, v, e⟩ := x; exact ⟨t, u, v, k _ _ (.inl rfl) e⟩
 | frz ob u ih => obtain ⟨e, q⟩ := x; exact ⟨k _ _ (.inl rfl) e, ih q⟩
 | tbl ps =>
  have e : h.get? a = some { cls := .none, data := .fields ps } := x
  show h'.get? a = some { cls := .none, data := .fields ps }
  exact k a _ (.inl rfl) e
 | met f y =>
  have e : h.get? a = some (PySem.W.methodObj (.ref f) (.ref y)) := x
  show h'.get? a = some (PySem.W.methodObj (.ref f) (.ref y))
  exact k a _ (.inl rfl) e
 | ext φ => obtain ⟨p, ⟨o, e⟩, st⟩ := x; exact ⟨st _ _ p fun o q => k _ _ (.inl rfl) q, ⟨o, k _ _ (.inl rfl) e⟩, st⟩
theorem HOk.lt (x : HOk P w H h) (e : H a = some o) : a < h.objs.size := (x a o e).lt
theorem HOk.fresh (x : HOk P w H h) (e : h.objs.size ≤ a) : H a = none := by
 cases q : H a with
 | none => rfl
 | some u => exact absurd (Nat.lt_of_lt_of_le (x.lt q) e) (Nat.lt_irrefl _)
theorem HOk.kept (x : HOk P w H h) (k : ∀ b u, h.get? b = some u → h'.get? b = some u) : HOk P w H h' := fun a o e =>
 (x a o e).stay (fun b u _ q => k b u q) (fun _ q => q) fun _ _ q => q
theorem HOk.laid (x : HOk P w H h) (k : ∀ b u, h.get? b = some u → h'.get? b = some u) (hp : h.objs.size ≤ a) (new : cj P w (upd H a o) h' a o) : HOk P w (upd H a o) h' := fun b u e => by
 have hn := x.fresh hp
 by_cases hb : b = a
 ·subst hb; rw [aB] at e; cases e; exact new
 ·rw [aG hb] at e
  exact (x b u e).stay (fun c v _ q => k c v q) (fun c q => by rw [aG (aJ q hn)]; exact q) fun c xs q => by rw [aG (aJ q hn)]; exact q
end
def Rd (H : Hp) (a : Addr) (u : HO) : Prop := H a = some u ∨ ∃ o, H a = some (.frz o u)
theorem Rd.ok {P : Program} {w : World} {H : Hp} {h : Heap} {a : Addr} {u : HO} (r : Rd H a u) (x : HOk P w H h) : cj P w H h a u := by
 rcases r with r | ⟨o, r⟩
 ·exact x a u r
 ·obtain ⟨_, q⟩ := x a _ r
  exact q
def Mut : Option HO → Prop
 | some (.lst _) => True
 | some (.dK _) => True
 | some (.dT _) => True
 | some (.set _ _) => True
 | some (.ins _ _ _) => True
 | some (.ext _) => True
 | _ => False
section
variable {P : Program} {w : World} {H : Hp} {h h' : Heap} {x e : Addr} {o' : HO}
theorem HOk.write (ok : HOk P w H h) (mu : Mut (H x)) (he : e = x ∨ H e = some (.own x)) (k : ∀ b u, b ≠ e → h.get? b = some u → h'.get? b = some u) (heo : ∃ u, h'.get? e = some u)
  (new : cj P w (upd H x o') h' x o') : HOk P w (upd H x o') h' := fun b u q => by
 have nown : ∀ c y, H c = some (.own y) → c ≠ x := fun c y r z => by subst z; rw [r] at mu; exact mu
 have ntup : ∀ c xs, H c = some (.tup xs) → c ≠ x := fun c xs r z => by subst z; rw [r] at mu; exact mu
 by_cases hb : b = x
 ·subst hb; rw [aB] at q; cases q; exact new
 ·rw [aG hb] at q
  by_cases hbe : b = e
  ·have q' : H b = some (.own x) := by
    rcases he with z | z
    ·exact absurd (hbe.trans z) hb
    ·rw [hbe]; exact z
   rw [q] at q'; cases q'
   obtain ⟨v, hv⟩ := heo
   exact ⟨v, by rw [hbe]; exact hv⟩
  ·refine (ok b u q).stay (fun c v hc r => k c v ?_ r) (fun c r => by rw [aG (nown c b r)]; exact r) fun c xs r => by rw [aG (ntup c xs r)]; exact r
   rcases hc with rfl | hc
   ·exact hbe
   ·rintro rfl
    rcases he with z | z
    ·exact nown c b hc z
    ·rw [hc] at z; cases z; exact hb rfl
end
structure Un (fs ex : List Addr) (H H' : Hp) (h h' : Heap) : Prop where
 keep : ∀ b o, h.get? b = some o → H b = none → b ∉ fs → b ∉ ex → h'.get? b = some o
 slot : ∀ b o, h.get? b = some o → H b = none → b ∈ fs → b ∉ ex → ∃ sl, h'.get? b = some { o with slots := sl }
 free : ∀ b o, h.get? b = some o → H b = none → b ∉ ex → H' b = none
 there : ∀ b o, h.get? b = some o → b ∉ ex → ∃ o', h'.get? b = some o'
 tups : ∀ b xs, H b = some (.tup xs) → H' b = some (.tup xs)
 frzs : ∀ b o u, H b = some (.frz o u) → H' b = some (.frz o u)
 tbls : ∀ b ps, H b = some (.tbl ps) → ∃ more, H' b = some (.tbl (ps ++ more))
section
variable {fs fs' ex ex' : List Addr} {H H1 H2 : Hp} {h h1 h2 h' : Heap} {a x e : Addr} {o : HO}
theorem Un.any (u : Un fs ex H H1 h h1) {b : Addr} {ob : Obj} (q : h.get? b = some ob) (n : H b = none) (hx : b ∉ ex) : ∃ sl, h1.get? b = some { ob with slots := sl } := by
 by_cases hb : b ∈ fs
 ·exact u.slot b ob q n hb hx
 ·exact ⟨ob.slots, u.keep b ob q n hb hx⟩
theorem Un.kept (k : ∀ b u, h.get? b = some u → h'.get? b = some u) : Un fs ex H H h h' :=
 ⟨fun b ob q _ _ _ => k b ob q, fun b ob q _ _ _ => ⟨ob.slots, k b ob q⟩, fun _ _ _ n _ => n, fun b ob q _ => ⟨ob, k b ob q⟩, fun _ _ q => q, fun _ _ _ q => q, fun _ ps q => ⟨#[], by rw [q]; simp⟩⟩
theorem Un.refl : Un fs ex H H h h := Un.kept fun _ _ q => q
theorem Un.laid (k : ∀ b u, h.get? b = some u → h'.get? b = some u) (hp : h.objs.size ≤ a) (hn : H a = none) : Un fs ex H (upd H a o) h h' where
 keep := fun b u q _ _ _ => k b u q
 slot := fun b u q _ _ _ => ⟨u.slots, k b u q⟩
 free := fun b u q n _ => by rw [aG (Nat.ne_of_lt (Nat.lt_of_lt_of_le (Heap.lt_size q) hp))]; exact n
 there := fun b u q _ => ⟨u, k b u q⟩
 tups := fun b xs q => by rw [aG (aJ q hn)]; exact q
 frzs := fun b u xs q => by rw [aG (aJ q hn)]; exact q
 tbls := fun b ps q => ⟨#[], by rw [aG (aJ q hn), q]; simp⟩
theorem Un.write (mu : Mut (H x)) (he : e = x ∨ H e = some (.own x)) (k : ∀ b u, b ≠ e → h.get? b = some u → h'.get? b = some u) (heo : ∃ u, h'.get? e = some u) : Un fs ex H (upd H x o) h h' := by
 have hx : ∀ b, H b = none → b ≠ x := fun b n z => by subst z; rw [n] at mu; exact mu
 have hb : ∀ b, H b = none → b ≠ e := fun b n z => by
  subst z
  rcases he with r | r
  ·exact hx b n r
  ·rw [n] at r; cases r
 have hm : ∀ b u, H b = some u → ¬ Mut (some u) → b ≠ x := fun b u q nm z => by subst z; rw [q] at mu; exact nm mu
 refine ⟨fun b u q n _ _ => k b u (hb b n) q, fun b u q n _ _ => ⟨u.slots, k b u (hb b n) q⟩, fun b u q n _ => by rw [aG (hx b n)]; exact n, fun b u q _ => ?_,
  fun b xs q => by rw [aG (hm b _ q fun z => z)]; exact q, fun b u xs q => by rw [aG (hm b _ q fun z => z)]; exact q, fun b ps q => ⟨#[], by rw [aG (hm b _ q fun z => z), q]; simp⟩⟩
 by_cases hbe : b = e
 ·subst hbe; exact heo
 ·exact ⟨u, k b u hbe q⟩
end
def trk (h : Heap) (H : Hp) : List Addr := (List.range h.objs.size).filter fun a => (H a).isSome
def wY (h : Heap) (H : Hp) : Heap := PySem.W.hideAll h (trk h H)
theorem Gi (h : Heap) (H : Hp) : (wY h H).objs.size = h.objs.size := PySem.W.hideAll_size _ _
theorem KJ {h : Heap} {H : Hp} {b : Addr} {o : Obj} (e : h.get? b = some o) (n : H b = none) : (wY h H).get? b = some o :=
 PySem.W.hideAll_get _ e fun hm => by
  have q : (H b).isSome = true := (List.mem_filter.mp hm).2
  rw [n] at q; simp at q
theorem Qh {h : Heap} {H : Hp} {b : Addr} {o : Obj} (e : (wY h H).get? b = some o) : h.get? b = some o ∧ H b = none := by
 have e' : h.get? b = some o := PySem.W.of_hideAll (trk h H) e
 refine ⟨e', ?_⟩
 cases q : H b with
 | none => rfl
 | some x =>
  have hm : b ∈ trk h H := List.mem_filter.mpr ⟨List.mem_range.mpr (Heap.lt_size e'), by simp [q]⟩
  have z : (wY h H).get? b = none := PySem.W.hideAll_none (trk h H) hm
  rw [z] at e; cases e
structure Mod (K : PySem.W.Frag) (mg : Str → Option Value) (base : Heap) : Prop where
 kin : K.In base
 glob : base.Ns mainGlobals mg
 blt : ∃ mb, base.Ns builtinsNs mb ∧ ∀ x : Str, x ≠ "__name__" → mb x = bootBuiltins x
 nolimit : base.NoLimit
structure Cx where
 prog : Program
 w : World
 K : PySem.W.Frag
 mg : Str → Option Value
 base : Heap
 A : Around
 N : List Str
 s₀ : Shared
 H₀ : Hp
 env : Env
 outer : List Env
 stack : List Env
 ex : List Addr
 fn : Str → Bool
 calm : Bool
 pn : List (Addr × Obj)
 xe : Value → Shared → Prop
def frs (l : List Env) : List Addr := l.filterMap (·.frame)
abbrev Cx.fs (X : Cx) : List Addr := frs X.outer
def Vis (sc : Scope) (x : Str) : Prop := sc.names.lookup x = some .local ∨ sc.names.lookup x = some .cell ∨ sc.names.lookup x = some .free
def Loc (sc : Scope) (x : Str) : Prop := sc.names.lookup x = some .local ∨ sc.names.lookup x = some .cell
def Look (env : Env) (h : Heap) (m : Str → Option Value) (x : Str) (u : Value) : Prop :=
 (env.kindOf x = some .local ∧ m x = some u) ∨ ((env.kindOf x = some .cell ∨ env.kindOf x = some .free) ∧ ∃ c, env.cells.lookup x = some c ∧ h.IsCell c (some u))
structure Cx.Ok (X : Cx) : Prop where
 mod : Mod X.K X.mg X.base
 kind : X.env.scope.kind = .function
 glob : X.env.globals = mainGlobals
 blt : X.env.builtins = builtinsNs
 above : X.s₀.heap.objs.size ≤ X.env.locals
 inj : ∀ x y c, X.env.cells.lookup x = some c → X.env.cells.lookup y = some c → x = y
 has : ∀ x, (X.env.kindOf x = some .cell ∨ X.env.kindOf x = some .free) → ∃ c, X.env.cells.lookup x = some c
 cab : ∀ x c, X.fn x = true → X.env.cells.lookup x = some c → X.s₀.heap.objs.size ≤ c
 hd : X.calm = true → X.A.handled = none
 frames : X.A.frames = some X.stack
 stk : X.stack = X.outer ∨ (X.stack = X.env :: X.outer ∧ X.env.frame = some X.env.locals)
 exf : ∀ b ∈ X.ex, b ≠ X.env.locals ∧ ∀ x c, X.env.cells.lookup x = some c → c ≠ b
 bs : ∀ b o, X.base.get? b = some o → X.s₀.heap.get? b = some o ∧ X.H₀ b = none
 bsz : X.base.objs.size ≤ X.s₀.heap.objs.size
 noex : ∀ b o, X.base.get? b = some o → b ∉ X.ex
 exfs : ∀ b ∈ X.ex, b ∉ X.fs
 lG : X.s₀.heap.FunFrames X.base X.outer
 frf : ∀ b ∈ X.fs, X.H₀ b = none
structure Inv (X : Cx) (pins : List (Addr × Obj)) (σ : List (Option V)) (H : Hp) (s : Shared) : Prop where
 ok : X.Ok
 os : s.os = X.s₀.os
 bare : AllBare s.gens
 base : Un X.fs X.ex X.H₀ H X.s₀.heap s.heap
 loc : ∃ m, s.heap.Ns X.env.locals m ∧ ∀ (i : Nat) (x : Str) (v : V), X.N[i]? = some x → σ[i]? = some (some v) → Vis X.env.scope x → ∃ u, RelV v u ∧ Look X.env s.heap m x u
 cell : ∀ x c, X.env.cells.lookup x = some c → ∃ v, s.heap.IsCell c v
 free : H X.env.locals = none
 freeC : ∀ x c, X.env.cells.lookup x = some c → H c = none
 pin : ∀ p ∈ X.pn ++ pins, s.heap.get? p.1 = some p.2 ∧ H p.1 = none ∧ p.1 ≠ X.env.locals ∧ p.1 ∉ X.fs ∧ ∀ v, p.2.data ≠ .cell v
 hok : HOk X.prog X.w H s.heap
 len : σ.length = X.N.length
section
variable {X : Cx} {pins : List (Addr × Obj)} {σ : List (Option V)} {H H' : Hp} {s : Shared} {h' : Heap}
theorem Cx.Ok.WY (ok : X.Ok) {b : Addr} {o : Obj} (e : X.base.get? b = some o) : b ∉ X.fs := fun hb => by
 have := (ok.lG.mem hb).1
 rw [e] at this; cases this
theorem Inv.bs (I : Inv X pins σ H s) : ∀ b o, X.base.get? b = some o → s.heap.get? b = some o ∧ H b = none := fun b o e =>
 ⟨I.base.keep b o (I.ok.bs b o e).1 (I.ok.bs b o e).2 (I.ok.WY e) (I.ok.noex b o e), I.base.free b o (I.ok.bs b o e).1 (I.ok.bs b o e).2 (I.ok.noex b o e)⟩
theorem Inv.bk (I : Inv X pins σ H s) : ∀ b o, X.base.get? b = some o → s.heap.get? b = some o := fun b o e => (I.bs b o e).1
theorem Inv.mod (I : Inv X pins σ H s) : Mod X.K X.mg X.base := I.ok.mod
theorem Inv.kIn (I : Inv X pins σ H s) : X.K.In s.heap := I.ok.mod.kin.keeps I.bk
theorem Inv.lt (I : Inv X pins σ H s) : X.env.locals < s.heap.objs.size := let ⟨_, hn, _⟩ := I.loc; hn.lt
theorem Inv.sz (I : Inv X pins σ H s) : X.s₀.heap.objs.size ≤ s.heap.objs.size := Nat.le_trans I.ok.above (Nat.le_of_lt I.lt)
theorem Inv.Uv (I : Inv X pins σ H s) {a : Addr} (h : s.heap.objs.size ≤ a) : a ∉ X.fs := fun hb => by
 obtain ⟨_, o, ho, _⟩ := I.ok.lG.mem hb
 exact absurd (Nat.lt_of_lt_of_le (Heap.lt_size ho) (Nat.le_trans I.sz h)) (Nat.lt_irrefl _)
theorem Inv.cne (I : Inv X pins σ H s) : ∀ x c, X.env.cells.lookup x = some c → c ≠ X.env.locals := fun x c e z => by
 obtain ⟨v, o, ho, hd⟩ := I.cell x c e
 obtain ⟨m, ⟨o', es, ep, ho', hd', _⟩, _⟩ := I.loc
 rw [z, ho'] at ho; cases ho; rw [hd'] at hd; cases hd
theorem Inv.lG (I : Inv X pins σ H s) : s.heap.FunFrames X.base X.outer := by
 have all : ∀ (l : List Env), (∀ b ∈ frs l, b ∈ X.fs) → X.s₀.heap.FunFrames X.base l → s.heap.FunFrames X.base l := by
  intro l
  induction l with
  | nil => intro _ _; trivial
  | cons env r ih =>
   intro hs hl
   obtain ⟨hk, ⟨L, o, hf, hn, ho, hd⟩, hr⟩ := hl
   have hL : L ∈ X.fs := hs L (by unfold frs; rw [List.filterMap_cons, hf]; exact List.mem_cons_self)
   obtain ⟨sl, e⟩ := I.base.slot L o ho (I.ok.frf L hL) hL fun z => I.ok.exfs L z hL
   exact ⟨hk, ⟨L, _, hf, hn, e, hd⟩, ih (fun b hb => hs b (by unfold frs; rw [List.filterMap_cons, hf]; exact List.mem_cons_of_mem _ hb)) hr⟩
 exact all X.outer (fun _ hb => hb) I.ok.lG
theorem Inv.stack (I : Inv X pins σ H s) : s.heap.FunFrames X.base X.stack := by
 rcases I.ok.stk with e | ⟨e, hf⟩
 ·rw [e]; exact I.lG
 ·rw [e]
  obtain ⟨m, hn, _⟩ := I.loc
  refine .cons (by rw [I.ok.kind]; decide) hf hn ?_ I.lG
  exact Heap.get?_none_of_le (Nat.le_trans I.ok.bsz I.ok.above)
theorem Inv.oV (I : Inv X pins σ H s) : ∀ b ∈ frs X.stack, b ∈ X.env.locals :: X.fs := fun b hb => by
 rcases I.ok.stk with e | ⟨e, hf⟩
 ·rw [e] at hb; exact List.mem_cons_of_mem _ hb
 ·rw [e] at hb
  unfold frs at hb
  rw [List.filterMap_cons, hf] at hb
  exact hb
theorem Inv.qP (I : Inv X pins σ H s) : ∀ b ∈ frs X.stack, H b = none := fun b hb => by
 rcases List.mem_cons.mp (I.oV b hb) with e | hb
 ·rw [e]; exact I.free
 ·obtain ⟨_, o, ho, _⟩ := I.ok.lG.mem hb
  exact I.base.free b o ho (I.ok.frf b hb) fun z => I.ok.exfs b z hb
theorem Inv.step {g' : Array GenState} {t' : Nat} {d' : Drawn} {ch : List Addr} (I : Inv X pins σ H s)
  (hch : ∀ b ∈ ch, (b ∈ X.ex ∨ X.s₀.heap.objs.size ≤ b) ∧ b ≠ X.env.locals ∧ (∀ x c, X.env.cells.lookup x = some c → c ≠ b) ∧ ∀ p ∈ X.pn ++ pins, p.1 ≠ b)
  (keep : ∀ b o, b ≠ X.env.locals → b ∉ X.fs → b ∉ ch → s.heap.get? b = some o → H b = none → h'.get? b = some o)
  (slot : ∀ b o, b ≠ X.env.locals → b ∈ X.fs → b ∉ ch → s.heap.get? b = some o → H b = none → ∃ sl, h'.get? b = some { o with slots := sl }) (free : ∀ b o, b ∉ ch → s.heap.get? b = some o → H b = none → H' b = none)
  (there : ∀ b o, b ∉ ch → s.heap.get? b = some o → ∃ o', h'.get? b = some o')
  (tups : ∀ b xs, H b = some (.tup xs) → H' b = some (.tup xs)) (frzs : ∀ b o u, H b = some (.frz o u) → H' b = some (.frz o u)) (tbls : ∀ b ps, H b = some (.tbl ps) → ∃ more, H' b = some (.tbl (ps ++ more)))
  (ns : ∀ m, s.heap.Ns X.env.locals m → h'.Ns X.env.locals m) (hok : HOk X.prog X.w H' h') (hg : AllBare g') :
  Inv X pins σ H' { s with heap := h', gens := g', drawn := d', toks := t' } := by
 have neL : ∀ b o, X.s₀.heap.get? b = some o → b ≠ X.env.locals := fun b o e => Nat.ne_of_lt (Nat.lt_of_lt_of_le (Heap.lt_size e) I.ok.above)
 have neC : ∀ b o, X.s₀.heap.get? b = some o → b ∉ X.ex → b ∉ ch := fun b o e hx hb => by
  rcases (hch b hb).1 with z | z
  ·exact hx z
  ·exact absurd (Nat.lt_of_lt_of_le (Heap.lt_size e) z) (Nat.lt_irrefl _)
 have cellK : ∀ x c, X.env.cells.lookup x = some c → ∀ v, s.heap.IsCell c v → h'.IsCell c v := fun x c e v ⟨o, ho, hd⟩ => by
  have nch : c ∉ ch := fun z => (hch c z).2.2.1 x c e rfl
  by_cases hc : c ∈ X.fs
  ·obtain ⟨sl, q⟩ := slot c o (I.cne x c e) hc nch ho (I.freeC x c e)
   exact ⟨_, q, hd⟩
  ·exact ⟨o, keep c o (I.cne x c e) hc nch ho (I.freeC x c e), hd⟩
 refine ⟨I.ok, I.os, hg, ⟨fun b o e n hb hx => ?_, fun b o e n hb hx => ?_, fun b o e n hx => ?_, fun b o e hx => ?_, fun b xs e => tups b xs (I.base.tups b xs e), fun b o xs e => frzs b o xs (I.base.frzs b o xs e), fun b ps e => ?_⟩, ?_, fun x c e => ?_, ?_, fun x c e => ?_, fun p hp => ?_, hok, I.len⟩
 ·exact keep b o (neL b o e) hb (neC b o e hx) (I.base.keep b o e n hb hx) (I.base.free b o e n hx)
 ·obtain ⟨sl, e1⟩ := I.base.slot b o e n hb hx
  obtain ⟨sl', e2⟩ := slot b _ (neL b o e) hb (neC b o e hx) e1 (I.base.free b o e n hx)
  exact ⟨sl', e2⟩
 ·obtain ⟨o', e1⟩ := I.base.there b o e hx
  exact free b o' (neC b o e hx) e1 (I.base.free b o e n hx)
 ·obtain ⟨o', e1⟩ := I.base.there b o e hx
  exact there b o' (neC b o e hx) e1
 ·obtain ⟨m1, e1⟩ := I.base.tbls b ps e
  obtain ⟨m2, e2⟩ := tbls b _ e1
  exact ⟨m1 ++ m2, by rw [e2, Array.append_assoc]⟩
 ·obtain ⟨m, hn, hl⟩ := I.loc
  refine ⟨m, ns m hn, fun i x v e1 e2 e3 => ?_⟩
  obtain ⟨u, r, l⟩ := hl i x v e1 e2 e3
  refine ⟨u, r, ?_⟩
  rcases l with l | ⟨k, c, e, z⟩
  ·exact .inl l
  ·exact .inr ⟨k, c, e, cellK x c e _ z⟩
 ·obtain ⟨v, z⟩ := I.cell x c e
  exact ⟨v, cellK x c e v z⟩
 ·obtain ⟨m, ⟨o, _, _, ho, _⟩, _⟩ := I.loc
  exact free _ o (fun z => (hch _ z).2.1 rfl) ho I.free
 ·obtain ⟨v, o, ho, hd⟩ := I.cell x c e
  exact free c o (fun z => (hch c z).2.2.1 x c e rfl) ho (I.freeC x c e)
 ·obtain ⟨e, n, ne, nf, d⟩ := I.pin p hp
  have nch : p.1 ∉ ch := fun z => (hch p.1 z).2.2.2 p hp rfl
  exact ⟨keep p.1 p.2 ne nf nch e n, free p.1 p.2 nch e n, ne, nf, d⟩
theorem Inv.un {t' : Nat} (I : Inv X pins σ H s) (u : Un X.fs [] H H' s.heap h') (hok : HOk X.prog X.w H' h') : Inv X pins σ H' { s with heap := h', toks := t' } := by
 obtain ⟨m, ⟨o, es, ep, ho, r⟩, _⟩ := id I.loc
 obtain ⟨sl, hL⟩ := u.any ho I.free (by simp)
 exact I.step (g' := s.gens) (d' := s.drawn) (ch := []) (fun _ z => nomatch z) (fun b o _ hb _ e n => u.keep b o e n hb (by simp)) (fun b o _ hb _ e n => u.slot b o e n hb (by simp)) (fun b o _ e n => u.free b o e n (by simp)) (fun b o _ e => u.there b o e (by simp)) u.tups u.frzs u.tbls (fun m' hm => by
  obtain ⟨o', es', ep', ho', r'⟩ := hm
  rw [ho] at ho'; cases ho'
  exact ⟨_, es', ep', hL, r'⟩) hok I.bare
theorem Inv.call {g' : Array GenState} {t' : Nat} {d' : Drawn} {ch : List Addr} (I : Inv X pins σ H s) (u : Un (frs X.stack) ch H H' s.heap h') (hok : HOk X.prog X.w H' h') (hg : AllBare g')
  (hch : ∀ b ∈ ch, (b ∈ X.ex ∨ X.s₀.heap.objs.size ≤ b) ∧ b ≠ X.env.locals ∧ (∀ x c, X.env.cells.lookup x = some c → c ≠ b) ∧ ∀ p ∈ X.pn ++ pins, p.1 ≠ b) :
  Inv X pins σ H' { s with heap := h', gens := g', drawn := d', toks := t' } := by
 obtain ⟨m, ⟨o, es, ep, ho, r⟩, _⟩ := id I.loc
 obtain ⟨sl, hL⟩ := u.any ho I.free fun z => (hch _ z).2.1 rfl
 exact I.step (ch := ch) hch (fun b o hL hb hc e n => u.keep b o e n (fun z => (List.mem_cons.mp (I.oV b z)).elim hL hb) hc) (fun b o _ _ hc e n => u.any e n hc) (fun b o hc e n => u.free b o e n hc) (fun b o hc e => u.there b o e hc) u.tups u.frzs u.tbls (fun m' hm => by
  obtain ⟨o', es', ep', ho', r'⟩ := hm
  rw [ho] at ho'; cases ho'
  exact ⟨_, es', ep', hL, r'⟩) hok hg
theorem Inv.turned {t' : Nat} {it : Addr} (I : Inv X pins σ H s) (k : ∀ b o, b ≠ it → s.heap.get? b = some o → h'.get? b = some o) (hn : H it = none) (hL : it ≠ X.env.locals)
  (h1 : it ∈ X.ex ∨ X.s₀.heap.objs.size ≤ it) (h2 : ∀ x c, X.env.cells.lookup x = some c → c ≠ it) (h3 : ∀ p ∈ X.pn ++ pins, p.1 ≠ it) : Inv X pins σ H { s with heap := h', toks := t' } := by
 have nit : ∀ b u, H b = some u → b ≠ it := fun b u e z => by rw [z, hn] at e; cases e
 refine I.step (g' := s.gens) (d' := s.drawn) (ch := [it]) (fun b hb => ?_) (fun b o _ _ hc e _ => k b o (fun z => hc (by simp [z])) e) (fun b o _ _ hc e _ => ⟨o.slots, k b o (fun z => hc (by simp [z])) e⟩) (fun _ _ _ _ n => n)
  (fun b o hc e => ⟨o, k b o (fun z => hc (by simp [z])) e⟩) (fun _ _ e => e) (fun _ _ _ e => e) (fun b ps e => ⟨#[], by rw [e]; simp⟩) (fun m hm => ?_) (fun b u e => ?_) I.bare
 ·have e : b = it := by simpa using hb
  subst e
  exact ⟨h1, hL, h2, h3⟩
 ·obtain ⟨o, es, ep, ho, r⟩ := hm
  exact ⟨o, es, ep, k _ o (Ne.symm hL) ho, r⟩
 ·refine (I.hok b u e).stay (fun c v hc q => k c v ?_ q) (fun _ q => q) fun _ _ q => q
  rcases hc with z | z
  ·rw [z]; exact nit b u e
  ·exact nit c _ z
theorem Inv.tok (I : Inv X pins σ H s) (t : Nat) : Inv X pins σ H { s with toks := t } := I.un (h' := s.heap) (t' := t) Un.refl I.hok
theorem Inv.kept {t' : Nat} (I : Inv X pins σ H s) (k : ∀ b u, s.heap.get? b = some u → h'.get? b = some u) : Inv X pins σ H { s with heap := h', toks := t' } := I.un (Un.kept k) (I.hok.kept k)
theorem Inv.laid {a : Addr} {o : HO} {t' : Nat} (I : Inv X pins σ H s) (k : ∀ b u, s.heap.get? b = some u → h'.get? b = some u) (hp : s.heap.objs.size ≤ a) (new : cj X.prog X.w (upd H a o) h' a o) :
  Inv X pins σ (upd H a o) { s with heap := h', toks := t' } := I.un (Un.laid k hp (I.hok.fresh hp)) (I.hok.laid k hp new)
theorem Inv.write {x e : Addr} {o : HO} {t' : Nat} (I : Inv X pins σ H s) (mu : Mut (H x)) (he : e = x ∨ H e = some (.own x)) (k : ∀ b u, b ≠ e → s.heap.get? b = some u → h'.get? b = some u) (heo : ∃ u, h'.get? e = some u)
  (new : cj X.prog X.w (upd H x o) h' x o) : Inv X pins σ (upd H x o) { s with heap := h', toks := t' } := I.un (Un.write mu he k heo) (I.hok.write mu he k heo new)
theorem Inv.lO {pins' : List (Addr × Obj)} (I : Inv X pins σ H s) (h : ∀ p ∈ pins', s.heap.get? p.1 = some p.2 ∧ H p.1 = none ∧ p.1 ≠ X.env.locals ∧ p.1 ∉ X.fs ∧ ∀ v, p.2.data ≠ .cell v) : Inv X pins' σ H s :=
 ⟨I.ok, I.os, I.bare, I.base, I.loc, I.cell, I.free, I.freeC, fun p hp => (List.mem_append.mp hp).elim (fun z => I.pin p (List.mem_append_left _ z)) (h p), I.hok, I.len⟩
theorem sI {N : List Str} (hN : N.Nodup) {i j : Nat} {x : Str} (a : N[i]? = some x) (b : N[j]? = some x) : i = j := by
 obtain ⟨h1, e1⟩ := List.getElem?_eq_some_iff.mp a
 obtain ⟨h2, e2⟩ := List.getElem?_eq_some_iff.mp b
 exact (List.getElem_inj hN).mp (e1.trans e2.symm)
theorem uX {M : Model} {A : Around} {E : Value → Shared → Prop} {i : Nat} {x : Str} {v : V} {u : Value} {Q : Unit → Shared → Prop} (I : Inv X pins σ H s) (hN : X.N.Nodup) (hi : X.N[i]? = some x) (hx : Loc X.env.scope x) (r : RelV v u)
  (h : ∀ s', Inv X pins (σ.set i (some v)) H s' → (∃ a, Heap.SameBut a s.heap s'.heap ∧ (a = X.env.locals ∨ X.env.cells.lookup x = some a)) → Q () s') (hf : X.fn x = true ∨ X.env.scope.names.lookup x = some .local := by first | exact .inl rfl | exact .inr rfl | assumption) : wpAny M A (storeName X.env x u) Q E s := by
 obtain ⟨m, hn, hl⟩ := id I.loc
 have hcls : (X.env.scope.kind == .class || (X.env.scope.kind == .module && X.env.locals != X.env.globals)) = false := by rw [I.ok.kind]; rfl
 have hiσ : i < σ.length := by rw [I.len]; exact (List.getElem?_eq_some_iff.mp hi).1
 have cne := I.cne
 have tracked : ∀ {a : Addr} {h' : Heap}, (∃ o, s.heap.get? a = some o ∧ H a = none) → Heap.SameBut a s.heap h' → HOk X.prog X.w H h' := fun {a h'} ha hs b ob e => by
  obtain ⟨_, _, hfree⟩ := ha
  refine (I.hok b ob e).stay (fun c w' hc q => (hs.2 c ?_).trans q) (fun _ q => q) fun _ _ q => q
  rintro rfl
  rcases hc with rfl | hc
  ·rw [hfree] at e; cases e
  ·rw [hfree] at hc; cases hc
 rcases hx with hk | hk
 ·refine wpAny_storeName_local hk hn (fun h' hn' hs => ?_) hcls
  obtain ⟨oL, _, _, hoL, _⟩ := id hn
  refine h _ ⟨I.ok, I.os, I.bare, ⟨fun b o e n hb hx => ?_, fun b o e n hb hx => ?_, I.base.free, fun b o e hx => ?_, I.base.tups, I.base.frzs, I.base.tbls⟩, ⟨_, hn', fun j y v' e1 e2 e3 => ?_⟩, fun y c e => ?_, I.free, I.freeC, fun p hp => ?_, tracked ⟨oL, hoL, I.free⟩ hs, by simpa using I.len⟩ ⟨_, hs, .inl rfl⟩
  ·exact (hs.2 b (Nat.ne_of_lt (Nat.lt_of_lt_of_le (Heap.lt_size e) I.ok.above))).trans (I.base.keep b o e n hb hx)
  ·obtain ⟨sl, e1⟩ := I.base.slot b o e n hb hx
   exact ⟨sl, (hs.2 b (Nat.ne_of_lt (Nat.lt_of_lt_of_le (Heap.lt_size e) I.ok.above))).trans e1⟩
  ·obtain ⟨o', e1⟩ := I.base.there b o e hx
   exact ⟨o', (hs.2 b (Nat.ne_of_lt (Nat.lt_of_lt_of_le (Heap.lt_size e) I.ok.above))).trans e1⟩
  ·by_cases hj : j = i
   ·subst hj
    rw [hi] at e1; cases e1
    rw [List.getElem?_set_self hiσ] at e2
    cases e2
    exact ⟨u, r, .inl ⟨hk, by simp⟩⟩
   ·rw [List.getElem?_set_ne (Ne.symm hj)] at e2
    obtain ⟨u', r', q⟩ := hl j y v' e1 e2 e3
    refine ⟨u', r', ?_⟩
    rcases q with ⟨k, e⟩ | ⟨k, c, e, z⟩
    ·refine .inl ⟨k, ?_⟩
     have : y ≠ x := fun e => hj (sI hN e1 (e ▸ hi))
     simp [this, e]
    ·exact .inr ⟨k, c, e, z.sameBut hs (cne y c e)⟩
  ·obtain ⟨w', z⟩ := I.cell y c e
   exact ⟨w', z.sameBut hs (cne y c e)⟩
  ·obtain ⟨e, n, ne, nf, d⟩ := I.pin p hp
   exact ⟨(hs.2 p.1 ne).trans e, n, ne, nf, d⟩
 ·have hfn : X.fn x = true := by
   rcases hf with z | z
   ·exact z
   ·rw [z] at hk; cases hk
  obtain ⟨c, hc⟩ := I.ok.has x (.inl hk)
  obtain ⟨w', z⟩ := I.cell x c hc
  refine wpAny_storeName_cell I.ok.kind hk hc z (fun h' hc' hs => ?_)
  obtain ⟨oc, hoc, hocd⟩ := id z
  refine h { s with heap := h' } ⟨I.ok, I.os, I.bare, ⟨fun b o e n hb hx => ?_, fun b o e n hb hx => ?_, I.base.free, fun b o e hx => ?_, I.base.tups, I.base.frzs, I.base.tbls⟩, ⟨m, hn.sameBut hs (Ne.symm (cne x c hc)), fun j y v' e1 e2 e3 => ?_⟩, fun y c' e => ?_, I.free, I.freeC, fun p hp => ?_, tracked ⟨oc, hoc, I.freeC x c hc⟩ hs, by simpa using I.len⟩ ⟨c, hs, .inr hc⟩
  ·exact (hs.2 b (Nat.ne_of_lt (Nat.lt_of_lt_of_le (Heap.lt_size e) (I.ok.cab x c hfn hc)))).trans (I.base.keep b o e n hb hx)
  ·obtain ⟨sl, e1⟩ := I.base.slot b o e n hb hx
   exact ⟨sl, (hs.2 b (Nat.ne_of_lt (Nat.lt_of_lt_of_le (Heap.lt_size e) (I.ok.cab x c hfn hc)))).trans e1⟩
  ·obtain ⟨o', e1⟩ := I.base.there b o e hx
   exact ⟨o', (hs.2 b (Nat.ne_of_lt (Nat.lt_of_lt_of_le (Heap.lt_size e) (I.ok.cab x c hfn hc)))).trans e1⟩
  ·by_cases hj : j = i
   ·subst hj
    rw [hi] at e1; cases e1
    rw [List.getElem?_set_self hiσ] at e2
    cases e2
    exact ⟨u, r, .inr ⟨.inl hk, c, hc, hc'⟩⟩
   ·rw [List.getElem?_set_ne (Ne.symm hj)] at e2
    obtain ⟨u', r', q⟩ := hl j y v' e1 e2 e3
    refine ⟨u', r', ?_⟩
    rcases q with q | ⟨k, c', e, z'⟩
    ·exact .inl q
    ·refine .inr ⟨k, c', e, z'.sameBut hs ?_⟩
     rintro rfl
     exact hj (sI hN e1 (I.ok.inj _ _ _ e hc ▸ hi))
  ·by_cases hcc : c' = c
   ·subst hcc; exact ⟨_, hc'⟩
   ·obtain ⟨w2, z2⟩ := I.cell y c' e
    exact ⟨w2, z2.sameBut hs hcc⟩
  ·obtain ⟨e, n, ne, nf, d⟩ := I.pin p hp
   refine ⟨(hs.2 p.1 ?_).trans e, n, ne, nf, d⟩
   intro q
   rw [q, hoc] at e
   have q' : oc = p.2 := Option.some.inj e
   exact d w' (by rw [← q']; exact hocd)
theorem j7 {M : Model} {A : Around} {E : Value → Shared → Prop} {i : Nat} {x : Str} {v : V} {u : Value} {Q : Unit → Shared → Prop} (I : Inv X pins σ H s) (hN : X.N.Nodup) (hi : X.N[i]? = some x) (hx : Loc X.env.scope x) (r : RelV v u)
  (h : ∀ s', Inv X pins (σ.set i (some v)) H s' → Q () s') (hf : X.fn x = true ∨ X.env.scope.names.lookup x = some .local := by first | exact .inl rfl | exact .inr rfl | assumption) : wpAny M A (storeName X.env x u) Q E s :=
 uX I hN hi hx r (fun s' I' _ => h s' I') hf
theorem Inv.call' {s' : Shared} {ch : List Addr} (I : Inv X pins σ H s) (ho : s'.os = s.os) (u : Un (frs X.stack) ch H H' s.heap s'.heap) (hok : HOk X.prog X.w H' s'.heap) (hg : AllBare s'.gens)
  (hch : ∀ b ∈ ch, (b ∈ X.ex ∨ X.s₀.heap.objs.size ≤ b) ∧ b ≠ X.env.locals ∧ (∀ x c, X.env.cells.lookup x = some c → c ≠ b) ∧ ∀ p ∈ X.pn ++ pins, p.1 ≠ b) : Inv X pins σ H' s' := by
 obtain ⟨h', g', d', t', o'⟩ := s'
 have e : o' = s.os := ho
 subst e
 exact I.call (g' := g') (t' := t') (d' := d') u hok hg hch
end
abbrev XK := Value → Option Addr → Hp → Prop
abbrev St := List (Option V)
abbrev VK := V → Hp → Prop
abbrev TE := St → Hp → VK → Prop
abbrev TT := St → Hp → (Bool → Hp → Prop) → Prop
abbrev TA := St → Hp → (List V → Hp → Prop) → Prop
structure Ends where
 nx : St → Hp → Prop
 rt : VK
 bk : St → Hp → Prop := fun _ _ => False
 ct : St → Hp → Prop := fun _ _ => False
abbrev TS := Ends → St → Hp → Prop
def EP (X : Cx) (pins : List (Addr × Obj)) (σ : St) (Q : VK) (u : Value) (s' : Shared) : Prop := ∃ v H', Inv X pins σ H' s' ∧ RelV v u ∧ Q v H'
def TP (X : Cx) (pins : List (Addr × Obj)) (σ : St) (Q : Bool → Hp → Prop) (b : Bool) (s' : Shared) : Prop := ∃ H', Inv X pins σ H' s' ∧ Q b H'
def AP (X : Cx) (pins : List (Addr × Obj)) (σ : St) (Q : List V → Hp → Prop) (us : List Value) (s' : Shared) : Prop := ∃ vs H', Inv X pins σ H' s' ∧ Vals vs us ∧ Q vs H'
def SP (X : Cx) (pins : List (Addr × Obj)) (D : Ends) (f : Flow) (s' : Shared) : Prop :=
 match f with
 | .next => ∃ σ' H', Inv X pins σ' H' s' ∧ D.nx σ' H'
 | .brk => ∃ σ' H', Inv X pins σ' H' s' ∧ D.bk σ' H'
 | .cont => ∃ σ' H', Inv X pins σ' H' s' ∧ D.ct σ' H'
 | .ret u => ∃ v σ' H', Inv X pins σ' H' s' ∧ RelV v u ∧ D.rt v H'
def PE (X : Cx) (e : Expr) (t : TE) : Prop :=
 ∀ (pins : List (Addr × Obj)) (s : Shared) (σ : St) (H : Hp) (Q : VK), Inv X pins σ H s → t σ H Q → wpAny (model X.prog X.w) X.A (eval e X.env) (EP X pins σ Q) X.xe s
def PT (X : Cx) (e : Expr) (t : TT) : Prop :=
 ∀ (pins : List (Addr × Obj)) (s : Shared) (σ : St) (H : Hp) (Q : Bool → Hp → Prop), Inv X pins σ H s → t σ H Q → wpAny (model X.prog X.w) X.A (isTrue e X.env (eval e X.env)) (TP X pins σ Q) X.xe s
def PW (X : Cx) (e : Expr) (t : TT) : Prop :=
 ∀ (whole : Sem Value) (pins : List (Addr × Obj)) (s : Shared) (σ : St) (H : Hp) (Q : Bool → Hp → Prop), Inv X pins σ H s → t σ H Q → wpAny (model X.prog X.w) X.A (isTrue e X.env whole) (TP X pins σ Q) X.xe s
theorem PW.pt {X : Cx} {e : Expr} {t : TT} (h : PW X e t) : PT X e t := h _
def PA (X : Cx) (es : List Expr) (t : TA) : Prop :=
 ∀ (pos : Pos) (pins : List (Addr × Obj)) (s : Shared) (σ : St) (H : Hp) (Q : List V → Hp → Prop), Inv X pins σ H s → t σ H Q → wpAny (model X.prog X.w) X.A (spliced (backTo pos (starEach es X.env))) (AP X pins σ Q) X.xe s
def PS (X : Cx) (st : Stmt) (t : TS) : Prop :=
 ∀ (pins : List (Addr × Obj)) (s : Shared) (σ : St) (H : Hp) (D : Ends), Inv X pins σ H s → t D σ H → wpAny (model X.prog X.w) X.A (exec st X.env) (SP X pins D) X.xe s
def PSs (X : Cx) (st : List Stmt) (t : TS) : Prop :=
 ∀ (pins : List (Addr × Obj)) (s : Shared) (σ : St) (H : Hp) (D : Ends), Inv X pins σ H s → t D σ H → wpAny (model X.prog X.w) X.A (execs st X.env) (SP X pins D) X.xe s
theorem thn {α : Type} {t : Sem α} {Q Q' : α → Shared → Prop} {M : Model} {A : Around} {E : Value → Shared → Prop} {s : Shared} (h : wpAny M A t Q E s) (hQ : ∀ a s, Q a s → Q' a s) : wpAny M A t Q' E s := wpAny_mono h hQ fun _ _ x => x
theorem thE {t : Sem Value} {X : Cx} {pins : List (Addr × Obj)} {σ : St} {Q : VK} {Q' : Value → Shared → Prop} {M : Model} {A : Around} {E : Value → Shared → Prop} {s : Shared} (h : wpAny M A t (EP X pins σ Q) E s) (hQ : ∀ u s x H, Inv X pins σ H s → RelV x u → Q x H → Q' u s) : wpAny M A t Q' E s := thn h fun u s z => by
 obtain ⟨x, H, I, r, q⟩ := z
 exact hQ u s x H I r q
theorem thA {t : Sem (List Value)} {X : Cx} {pins : List (Addr × Obj)} {σ : St} {Q : List V → Hp → Prop} {Q' : List Value → Shared → Prop} {M : Model} {A : Around} {E : Value → Shared → Prop} {s : Shared} (h : wpAny M A t (AP X pins σ Q) E s) (hQ : ∀ u s x H, Inv X pins σ H s → Vals x u → Q x H → Q' u s) : wpAny M A t Q' E s := thn h fun u s z => by
 obtain ⟨x, H, I, r, q⟩ := z
 exact hQ u s x H I r q
theorem thT {t : Sem Bool} {X : Cx} {pins : List (Addr × Obj)} {σ : St} {Q : Bool → Hp → Prop} {Q' : Bool → Shared → Prop} {M : Model} {A : Around} {E : Value → Shared → Prop} {s : Shared} (h : wpAny M A t (TP X pins σ Q) E s) (hQ : ∀ u s H, Inv X pins σ H s → Q u H → Q' u s) : wpAny M A t Q' E s := thn h fun u s z => by
 obtain ⟨H, I, q⟩ := z
 exact hQ u s H I q
section
variable {X : Cx}
def Ho (i : Nat) : TE := fun σ H Q => ∃ v, σ[i]? = some (some v) ∧ Q v H
def tC (v : V) : TE := fun _ H Q => Q v H
theorem JK {i : Nat} {x : Str} {pos : Pos} (hN : X.N[i]? = some x) (hv : Vis X.env.scope x) (hd : (x == ("__debug__" : Str)) = false := by decide) (hcd : (x == ("__classdict__" : Str)) = false := by decide) : PE X (.Name x pos) (Ho i) := by
 intro pins s σ H Q I h
 obtain ⟨v, e, h⟩ := h
 obtain ⟨m, hn, hl⟩ := I.loc
 obtain ⟨u, r, l⟩ := hl i x v hN e hv
 have fin : EP X pins σ Q u s := ⟨v, H, I, r, h⟩
 rcases l with ⟨hk, hm⟩ | ⟨hk, c, hc, hcell⟩
 ·exact wpAny_Name (wpAny_loadName_local I.ok.kind hk hn hm fin) hd
 ·rcases hk with hk | hk
  ·exact wpAny_Name (wpAny_loadName_cell I.ok.kind hk hc hcell fin) hd
  ·exact wpAny_Name (wpAny_loadName_free I.ok.kind hk hc hcell fin hcd) hd
theorem Ug {i j pos} : PE X (.Constant (.int i) j pos) (tC (.int i)) := fun _ _ _ H _ I h => wpAny_Constant_int ⟨.int i, H, I.tok _, ⟨_, rfl⟩, h⟩
theorem Wb {b j pos} : PE X (.Constant (.bool b) j pos) (tC (.bl b)) := fun _ _ _ H _ I h => Constant_bool ⟨.bl b, H, I, rfl, h⟩
theorem Ud {j pos} : PE X (.Constant .none j pos) (tC .non) := fun _ _ _ H _ I h => Constant_none ⟨.non, H, I, rfl, h⟩
theorem Ua {x j pos} : PE X (.Constant (.str x) j pos) (tC (.str x)) := fun _ _ _ H _ I h => Calls.Constant_str ⟨.str x, H, I.tok _, ⟨_, rfl⟩, h⟩
def Gl (X : Cx) (x : Str) : Prop := X.env.kindOf x = some .globalImplicit
theorem qZ {E : Value → Shared → Prop} {pins : List (Addr × Obj)} {s : Shared} {σ : St} {H : Hp} {x : Str} {u : Value} {pos : Pos} {Q : Value → Shared → Prop} (I : Inv X pins σ H s) (hg : Gl X x) (hm : X.mg x = some u) (h : Q u s)
  (hd : (x == ("__debug__" : Str)) = false := by decide) : wpAny (model X.prog X.w) X.A (eval (.Name x pos) X.env) Q E s :=
 Calls.Name_function_global I.ok.kind hg (Calls.loadGlobal_global (by rw [I.ok.glob]; exact I.mod.glob.keeps I.bk) hm h) hd
theorem pL {E : Value → Shared → Prop} {pins : List (Addr × Obj)} {s : Shared} {σ : St} {H : Hp} {x : Str} {u : Value} {pos : Pos} {Q : Value → Shared → Prop} (I : Inv X pins σ H s) (hg : Gl X x) (hm : X.mg x = none) (hv : bootBuiltins x = some u) (h : Q u s)
  (hn : x ≠ "__name__" := by decide) (hd : (x == ("__debug__" : Str)) = false := by decide) : wpAny (model X.prog X.w) X.A (eval (.Name x pos) X.env) Q E s := by
 obtain ⟨mb, h1, h2⟩ := I.mod.blt
 exact Calls.Name_function_global I.ok.kind hg (Calls.loadGlobal_builtin (by rw [I.ok.glob]; exact I.mod.glob.keeps I.bk) hm (by rw [I.ok.blt]; exact h1.keeps I.bk) ((h2 x hn).trans hv) h) hd
theorem Ph {x : Str} {v : V} {u : Value} {pos : Pos} (hg : Gl X x) (hm : X.mg x = some u) (r : RelV v u) (hd : (x == ("__debug__" : Str)) = false := by decide) : PE X (.Name x pos) (tC v) :=
 fun _ _ _ H _ I h => qZ I hg hm ⟨v, H, I, r, h⟩ hd
theorem Pu {x : Str} {v : V} {u : Value} {pos : Pos} (hg : Gl X x) (hm : X.mg x = none) (hv : bootBuiltins x = some u) (r : RelV v u) (hn : x ≠ "__name__" := by decide) (hd : (x == ("__debug__" : Str)) = false := by decide) : PE X (.Name x pos) (tC v) :=
 fun _ _ _ H _ I h => pL I hg hm hv ⟨v, H, I, r, h⟩ hn hd
variable {a b : Expr} {ta tb : TE} {pos : Pos}
def tB (t : TE) : TT := fun σ H Q => t σ H fun x H1 => ∃ c, x = .bl c ∧ Q c H1
theorem Tt {e : Expr} {t : TE} (h : PE X e t) (he : ∀ whole, isTrue e X.env whole = (do let v ← whole; standAt e.pos; holding [v] (truthy v)) := by intro _; rfl) : PT X e (tB t) := by
 intro pins s σ H Q I hw
 refine isTrue_plain (thE (h pins s σ H _ I hw) fun v s1 x H1 I1 r1 q1 => ?_) (he _)
 obtain ⟨d, rfl, q⟩ := q1
 cases r1
 exact wpAny_truthy_bool ⟨H1, I1, q⟩
variable {tA tB' : TT} {rest : List Expr}
def Sy (t u : TT) : TT := fun σ H Q => t σ H fun c H1 => if c = true then u σ H1 Q else Q false H1
def tOr (t u : TT) : TT := fun σ H Q => t σ H fun c H1 => if c = true then Q true H1 else u σ H1 Q
def Sh (t : TT) : TT := fun σ H Q => t σ H fun c H1 => Q (!c) H1
theorem Ov (ha : PT X a tA) : PW X (.BoolOp .And [a] pos) tA := by
 intro wh pins s σ H Q I h
 refine isTrue_and (thn (ha pins s σ H Q I h) fun c s1 e => ?_)
 cases c with
 | true => exact isTrue_and_nil e
 | false => exact e
theorem Tq (ha : PT X a tA) : PW X (.BoolOp .Or [a] pos) tA := by
 intro wh pins s σ H Q I h
 refine isTrue_or (thn (ha pins s σ H Q I h) fun c s1 e => ?_)
 cases c with
 | false => exact isTrue_or_nil e
 | true => exact e
theorem Tr (ha : PT X a tA) (hb : PW X (.BoolOp .And (b :: rest) pos) tB') : PW X (.BoolOp .And (a :: b :: rest) pos) (Sy tA tB') := by
 intro wh pins s σ H Q I h
 refine isTrue_and (thT (ha pins s σ H _ I h) fun c s1 H1 I1 q1 => ?_)
 cases c with
 | true => exact hb wh pins s1 σ H1 Q I1 q1
 | false => exact ⟨H1, I1, q1⟩
theorem VP (ha : PT X a tA) (hb : PW X (.BoolOp .Or (b :: rest) pos) tB') : PW X (.BoolOp .Or (a :: b :: rest) pos) (tOr tA tB') := by
 intro wh pins s σ H Q I h
 refine isTrue_or (thT (ha pins s σ H _ I h) fun c s1 H1 I1 q1 => ?_)
 cases c with
 | true => exact ⟨H1, I1, q1⟩
 | false => exact hb wh pins s1 σ H1 Q I1 q1
theorem Tw (ha : PT X a tA) : PT X (.UnaryOp .Not a pos) (Sh tA) := by
 intro pins s σ H Q I h
 exact isTrue_not (ha pins s σ H (fun c H1 => Q (!c) H1) I h)
def HN (ta tb : TE) : TE := fun σ H Q => ta σ H fun x H1 => ∃ c, x = .bl c ∧ if c = true then tb σ H1 Q else Q (.bl false) H1
def Wx (ta tb : TE) : TE := fun σ H Q => ta σ H fun x H1 => ∃ c, x = .bl c ∧ if c = true then Q (.bl true) H1 else tb σ H1 Q
def Ht (ta : TE) : TE := fun σ H Q => ta σ H fun x H1 => ∃ c, x = .bl c ∧ Q (.bl (!c)) H1
theorem Ub {op} {t : TE} (h : PE X a t) : PE X (.BoolOp op [a] pos) t := fun pins s σ H Q I hw => BoolOp_one (h pins s σ H Q I hw)
theorem Ui (ha : PE X a ta) (hb : PE X (.BoolOp .And (b :: rest) pos) tb) : PE X (.BoolOp .And (a :: b :: rest) pos) (HN ta tb) := by
 intro pins s σ H Q I h
 refine BoolOp_and (thE (ha pins s σ H _ I h) fun v s1 x H1 I1 r1 q1 => ?_)
 obtain ⟨c, rfl, q1⟩ := q1
 cases r1
 refine wpAny_truthy_bool ?_
 cases c with
 | true => exact hb pins s1 σ H1 Q I1 q1
 | false => exact ⟨.bl false, H1, I1, rfl, q1⟩
theorem Uc (ha : PE X a ta) : PE X (.UnaryOp .Not a pos) (Ht ta) := by
 intro pins s σ H Q I h
 refine UnaryOp_ (thE (ha pins s σ H _ I h) fun v s1 x H1 I1 r1 q1 => ?_)
 obtain ⟨c, rfl, q1⟩ := q1
 cases r1
 exact not_of (wpAny_truthy_bool ⟨.bl (!c), H1, I1, rfl, q1⟩)
def tIf (t : TT) (ta tb : TE) : TE := fun σ H Q => t σ H fun c H1 => if c = true then ta σ H1 Q else tb σ H1 Q
theorem JM {c : Expr} (hc : PT X c tA) (ha : PE X a ta) (hb : PE X b tb) : PE X (.IfExp c a b pos) (tIf tA ta tb) := by
 intro pins s σ H Q I h
 refine wpAny_IfExp (thT (hc pins s σ H _ I h) fun d s1 H1 I1 q1 => ?_)
 cases d with
 | true => exact ha pins s1 σ H1 Q I1 q1
 | false => exact hb pins s1 σ H1 Q I1 q1
end
def SqL (K : PySem.W.Frag) (H : Hp) (a : Addr) (xs : List V) : Prop :=
 Rd H a (.lst xs) ∨
  ∃ (o : Obj) (its : Array Value) (n : Nat), K.lookup a = some o ∧ o.cls = .type "list" ∧ o.dict = none ∧ o.data = .seq its n ∧ its.size ≤ sizeLine ∧ Vals xs its.toList
def SqT (K : PySem.W.Frag) (H : Hp) (a : Addr) (xs : List V) : Prop :=
 Rd H a (.tup xs) ∨
  ∃ (o : Obj) (its : Array Value) (n : Nat), K.lookup a = some o ∧ o.cls = .type "tuple" ∧ o.data = .seq its n ∧ its.size ≤ sizeLine ∧ Vals xs its.toList
def Xc : Value → Option V
 | .none => some .non
 | .bool b => some (.bl b)
 | .int i _ => some (.int i)
 | .str x _ => some (.str x)
 | .bytes b _ => some (.byt b)
 | .float b _ => some (.flt b)
 | .ref a => some (.ref a)
 | .type n => some (.ty n)
 | _ => none
theorem RelV.abs {x : V} {u : Value} (r : RelV x u) : Xc u = some x := by
 cases x with
 | non => cases r; rfl
 | bl _ => cases r; rfl
 | int _ => obtain ⟨t, rfl⟩ := r; rfl
 | str _ => obtain ⟨t, rfl⟩ := r; rfl
 | byt _ => obtain ⟨t, rfl⟩ := r; rfl
 | flt _ => obtain ⟨t, rfl⟩ := r; rfl
 | ref _ => cases r; rfl
 | ty _ => cases r; rfl
theorem RelV.inj {x y : V} {u : Value} (r : RelV x u) (q : RelV y u) : x = y := Option.some.inj (r.abs.symm.trans q.abs)
theorem Vals.inj : ∀ {xs ys : List V} {us : List Value}, Vals xs us → Vals ys us → xs = ys
 | _, _, _, .nil, .nil => rfl
 | _, _, _, .cons r t, .cons r' t' => by rw [r.inj r', Vals.inj t t']
section
variable {X : Cx} {pins : List (Addr × Obj)} {σ : St} {H : Hp} {s : Shared} {a : Addr} {xs ys : List V}
theorem SqL.of {K : PySem.W.Frag} (h : H a = some (.lst xs)) : SqL K H a xs := .inl (.inl h)
theorem SqT.of {K : PySem.W.Frag} (h : H a = some (.tup xs)) : SqT K H a xs := .inl (.inl h)
theorem Inv.list (I : Inv X pins σ H s) (h : SqL X.K H a xs) : ∃ its : List Value, Vals xs its ∧ PlainL s.heap a its.toArray ∧ xs.length ≤ sizeLine := by
 rcases h with h | ⟨o, its, n, hk, hc, hd, hs, hz, r⟩
 ·obtain ⟨z, its, n, r, e⟩ := h.ok I.hok
  exact ⟨its, r, ⟨_, n, e, rfl, rfl, rfl⟩, z⟩
 ·refine ⟨its.toList, r, ⟨o, n, I.kIn a o hk, hc, hd, by simpa using hs⟩, ?_⟩
  have e := r.length
  simp only [Array.length_toList] at e
  omega
theorem Inv.tuple (I : Inv X pins σ H s) (h : SqT X.K H a xs) : ∃ its : List Value, Vals xs its ∧ IsTup s.heap a its.toArray ∧ xs.length ≤ sizeLine := by
 rcases h with h | ⟨o, its, n, hk, hc, hs, hz, r⟩
 ·obtain ⟨z, its, r, p⟩ := h.ok I.hok
  exact ⟨its, r, p, z⟩
 ·refine ⟨its.toList, r, ⟨o, I.kIn a o hk, hc, n, by simpa using hs⟩, ?_⟩
  have e := r.length
  simp only [Array.length_toList] at e
  omega
theorem Inv.n6 (I : Inv X pins σ H s) (h : SqL X.K H a xs) (h' : SqL X.K H a ys) : xs = ys := by
 obtain ⟨its, r, ⟨o, n, e, _, _, d⟩, _⟩ := I.list h
 obtain ⟨its', r', ⟨o', n', e', _, _, d'⟩, _⟩ := I.list h'
 rw [e] at e'; cases e'
 rw [d] at d'
 injection d' with d1 _
 have : its = its' := by simpa using congrArg Array.toList d1
 subst this
 exact r.inj r'
theorem Inv.lH (I : Inv X pins σ H s) (h : SqT X.K H a xs) (h' : SqT X.K H a ys) : xs = ys := by
 obtain ⟨its, r, ⟨o, e, _, n, d⟩, _⟩ := I.tuple h
 obtain ⟨its', r', ⟨o', e', _, n', d'⟩, _⟩ := I.tuple h'
 rw [e] at e'; cases e'
 rw [d] at d'
 injection d' with d1 _
 have : its = its' := by simpa using congrArg Array.toList d1
 subst this
 exact r.inj r'
end
abbrev Cx.wish (X : Cx) (E : Value → Shared → Prop) : Cx := { X with xe := E }
abbrev Cx.nox (X : Cx) : Cx := X.wish fun _ _ => False
theorem Cx.Ok.wish {X : Cx} (ok : X.Ok) (E : Value → Shared → Prop) : (X.wish E).Ok :=
 ⟨ok.mod, ok.kind, ok.glob, ok.blt, ok.above, ok.inj, ok.has, ok.cab, ok.hd, ok.frames, ok.stk, ok.exf, ok.bs, ok.bsz, ok.noex, ok.exfs, ok.lG, ok.frf⟩
theorem Cx.Ok.jZ {X : Cx} {E : Value → Shared → Prop} (ok : (X.wish E).Ok) : X.Ok :=
 ⟨ok.mod, ok.kind, ok.glob, ok.blt, ok.above, ok.inj, ok.has, ok.cab, ok.hd, ok.frames, ok.stk, ok.exf, ok.bs, ok.bsz, ok.noex, ok.exfs, ok.lG, ok.frf⟩
section
variable {X : Cx} {pins : List (Addr × Obj)} {σ : St} {H : Hp} {s : Shared} {E : Value → Shared → Prop}
theorem Inv.wish (I : Inv X pins σ H s) (E : Value → Shared → Prop) : Inv (X.wish E) pins σ H s := ⟨I.ok.wish E, I.os, I.bare, I.base, I.loc, I.cell, I.free, I.freeC, I.pin, I.hok, I.len⟩
theorem Inv.jZ (I : Inv (X.wish E) pins σ H s) : Inv X pins σ H s := ⟨I.ok.jZ, I.os, I.bare, I.base, I.loc, I.cell, I.free, I.freeC, I.pin, I.hok, I.len⟩
theorem SP.jZ {D : Ends} {f : Flow} {s' : Shared} (h : SP (X.wish E) pins D f s') : SP X pins D f s' := by
 cases f with
 | next => obtain ⟨σ', H', I, q⟩ := h; exact ⟨σ', H', I.jZ, q⟩
 | brk => obtain ⟨σ', H', I, q⟩ := h; exact ⟨σ', H', I.jZ, q⟩
 | cont => obtain ⟨σ', H', I, q⟩ := h; exact ⟨σ', H', I.jZ, q⟩
 | ret u => obtain ⟨v, σ', H', I, r, q⟩ := h; exact ⟨v, σ', H', I.jZ, r, q⟩
theorem PSs.nox {st : List Stmt} {t : TS} (h : PSs X.nox st t) : PSs X st t := fun pins s σ H D I hw =>
 wpAny_mono (h pins s σ H D (I.wish _) hw) (fun _ _ q => q.jZ) fun _ _ z => False.elim z
end
section
variable {X : Cx} {st : Stmt} {rest : List Stmt} {t u : TS} {e : Expr} {te : TE} {pos : Pos}
def Hu : TS := fun D σ H => D.nx σ H
def Mz (t u : TS) : TS := fun D σ H => t { D with nx := u D } σ H
theorem OJ : PSs X [] Hu := fun _ _ σ H _ I h => wpAny_execs_nil ⟨σ, H, I, h⟩
theorem JB (h1 : PS X st t) (h2 : PSs X rest u) : PSs X (st :: rest) (Mz t u) := by
 intro pins s σ H D I h
 refine wpAny_execs_cons (thn (h1 pins s σ H { D with nx := u D } I h) fun f s1 q => ?_)
 cases f with
 | next =>
  obtain ⟨σ', H', I', q⟩ := q
  exact h2 pins s1 σ' H' D I' q
 | ret v => exact q
 | brk => exact q
 | cont => exact q
theorem Oz (h1 : PS X st t) : PSs X [st] t := by
 intro pins s σ H D I h
 refine wpAny_execs_cons (thn (h1 pins s σ H D I h) fun f s1 q => ?_)
 cases f with
 | next => exact wpAny_execs_nil q
 | ret v => exact q
 | brk => exact q
 | cont => exact q
theorem Inv.quiet {pins : List (Addr × Obj)} {σ : St} {H : Hp} {s : Shared} (I : Inv X pins σ H s) : interactive X.env = false := by simp [interactive, I.ok.kind]
def Hw (te : TE) : TS := fun D σ H => te σ H fun _ H1 => D.nx σ H1
theorem O3 (he : PE X e te) (hs : swapsWith e none pos.line X.env = pure false := by rfl) : PS X (.Expr e pos) (Hw te) := by
 intro pins s σ H D I h
 exact wpAny_Expr_any (thE (he pins s σ H _ I h) fun v s1 x H1 I1 r1 q1 => ⟨σ, H1, I1, q1⟩) I.quiet hs
def Sd (te : TE) : TS := fun D σ H => te σ H D.rt
theorem TQ (he : PE X e te) : PS X (.Return (some e) pos) (Sd te) := by
 intro pins s σ H D I h
 exact wpAny_Return_some (thE (he pins s σ H _ I h) fun v s1 x H1 I1 r1 q1 => ⟨x, σ, H1, I1, r1, q1⟩)
def Vw : TS := fun D _ H => D.rt .non H
def Sw (c : TT) (t u : TS) : TS := fun D σ H => c σ H fun b H1 => if b = true then t D σ H1 else u D σ H1
theorem V0 {c : Expr} {a b : List Stmt} {tc : TT} (hc : PT X c tc) (ha : PSs X a t) (hb : PSs X b u) : PS X (.If c a b pos) (Sw tc t u) := by
 intro pins s σ H D I h
 refine wpAny_If (thT (hc pins s σ H _ I h) fun d s1 H1 I1 q1 => ?_)
 cases d with
 | true => exact ha pins s1 σ H1 D I1 q1
 | false => exact hb pins s1 σ H1 D I1 q1
end
abbrev TG := V → St → Hp → (St → Hp → Prop) → Prop
abbrev TGs := List V → St → Hp → (St → Hp → Prop) → Prop
def PG (X : Cx) (target : Expr) (t : TG) : Prop :=
 ∀ (pins : List (Addr × Obj)) (s : Shared) (σ : St) (H : Hp) (v : V) (u : Value) (Q : St → Hp → Prop), Inv X pins σ H s → RelV v u → t v σ H Q →
  wpAny (model X.prog X.w) X.A (assign target X.env u) (fun _ s' => ∃ σ' H', Inv X pins σ' H' s' ∧ Q σ' H') X.xe s
def PGs (X : Cx) (ts : List Expr) (t : TGs) : Prop :=
 ∀ (pins : List (Addr × Obj)) (s : Shared) (σ : St) (H : Hp) (vs : List V) (us : List Value) (Q : St → Hp → Prop), Inv X pins σ H s → Vals vs us → t vs σ H Q →
  wpAny (model X.prog X.w) X.A (assignInOrder ((assignEach ts X.env).map (·.2)) us) (fun _ s' => ∃ σ' H', Inv X pins σ' H' s' ∧ Q σ' H') X.xe s
abbrev Rr := V → V → V → Hp → (Hp → Prop) → Prop
def Rt (X : Cx) (t : Rr) : Prop :=
 ∀ (pins : List (Addr × Obj)) (s : Shared) (σ : St) (H : Hp) (o i v : V) (ov iv u : Value) (Q : Hp → Prop), Inv X pins σ H s → RelV o ov → RelV i iv → RelV v u → t o i v H Q →
  wpAny (model X.prog X.w) X.A (setItem ov iv u) (fun _ s' => ∃ H', Inv X pins σ H' s' ∧ Q H') X.xe s
abbrev TIp := V → V → Hp → VK → Prop
section
variable {X : Cx} {pos : Pos}
def mG (i : Nat) : TG := fun v σ H Q => Q (σ.set i (some v)) H
theorem CT {i : Nat} {x : Str} (hN : X.N.Nodup) (hi : X.N[i]? = some x) (hx : Loc X.env.scope x) (hf : X.fn x = true ∨ X.env.scope.names.lookup x = some .local := by first | exact .inl rfl | exact .inr rfl | assumption) : PG X (.Name x pos) (mG i) := by
 intro pins s σ H v u Q I r h
 exact wpAny_assign_Name (j7 I hN hi hx r (fun s' I' => ⟨_, H, I', h⟩) hf)
def Vg : TGs := fun vs σ H Q => vs = [] ∧ Q σ H
def K1 (t : TG) (u : TGs) : TGs := fun vs σ H Q => ∃ v r, vs = v :: r ∧ t v σ H fun σ' H' => u r σ' H' Q
theorem Pb : PGs X [] Vg := by
 intro pins s σ H vs us Q I r h
 obtain ⟨e, h⟩ := h
 subst e
 cases r
 exact assignInOrder_nil ⟨σ, H, I, h⟩
theorem JH {e : Expr} {es : List Expr} {t : TG} {u : TGs} (h1 : PG X e t) (h2 : PGs X es u)
  (hs : (assignEach (e :: es) X.env).map (·.2) = assign e X.env :: (assignEach es X.env).map (·.2) := by rfl) : PGs X (e :: es) (K1 t u) := by
 intro pins s σ H vs us Q I r h
 obtain ⟨v, vr, e1, h⟩ := h
 subst e1
 cases r with
 | cons r rr =>
  rw [hs]
  refine assignInOrder_cons (thn (h1 pins s σ H _ _ _ I r h) fun _ s1 ⟨σ1, H1, I1, q1⟩ => ?_)
  exact h2 pins s1 σ1 H1 _ _ Q I1 rr q1
def W7 (K : PySem.W.Frag) (n : Nat) (t : TGs) : TG := fun v σ H Q => ∃ a xs, v = .ref a ∧ SqT K H a xs ∧ xs.length = n ∧ t xs σ H Q
theorem T7 {es : List Expr} {k : Nat} {t : TGs} {n : Nat} (hc : X.calm = true) (h : PGs X es t)
  (hn : (assignEach es X.env).length = n := by rfl) (hst : (assignEach es X.env).findIdx? (·.1) = none := by rfl) : PG X (.Tuple es k pos) (W7 X.K n t) := by
 intro pins s σ H v u Q I r hw
 obtain ⟨a, xs, e1, hq, hl, hw⟩ := hw
 subst e1
 cases r
 obtain ⟨its, rv, ht, hz⟩ := I.tuple hq
 refine assign_Tuple_tuple (I.ok.hd hc) ht (by simp [hn, ← hl, rv.length]) hst fun h' hx => ?_
 have I1 : Inv X pins σ H { s with heap := h' } := I.kept (t' := s.toks) fun b o e => hx b o (Nat.ne_of_lt (Heap.lt_size e)) e
 exact h pins _ σ H xs _ Q I1 (by simpa using rv) hw
def Ve (to ti : TE) (t : Rr) : TG := fun v σ H Q => to σ H fun o H1 => ti σ H1 fun i H2 => t o i v H2 fun H3 => Q σ H3
theorem T8 {o i : Expr} {to ti : TE} {t : Rr} (ho : PE X o to) (hi : PE X i ti) (hs : Rt X t)
  (ha : ∀ v, assign (.Subscript o i pos) X.env v = (do
   let ov ← holding [v] (eval o X.env)
   let iv ← holding [v, ov] (eval i X.env)
   standAt pos
   holding [v, ov, iv] (setItem ov iv v)
   release [v, ov, iv] []) := by intro _; rfl) : PG X (.Subscript o i pos) (Ve to ti t) := by
 intro pins s σ H v u Q I r h
 rw [ha]
 refine wpAny_bind (wpAny_holding (thE (ho pins s σ H _ I h) fun ov s1 x H1 I1 r1 q1 => ?_))
 refine wpAny_bind (wpAny_holding (thE (hi pins s1 σ H1 _ I1 q1) fun iv s2 y H2 I2 r2 q2 => ?_))
 refine wpAny_bind (wpAny_standAt (wpAny_bind (wpAny_holding (thn (hs pins s2 σ H2 x y v ov iv u _ I2 r1 r2 r q2) fun _ s3 ⟨H3, I3, q3⟩ => ?_))))
 exact wpAny_release ⟨σ, H3, I3, q3⟩
def ye (te : TE) (g : TG) : TS := fun D σ H => te σ H fun x H1 => g x σ H1 D.nx
theorem TY {tg e : Expr} {te : TE} {g : TG} (he : PE X e te) (hg : PG X tg g) (hs : swapsWithSole [tg] e pos.line X.env = pure false := by rfl) (hw : swappedStores [tg] e X.env = pure none := by rfl)
  (h1 : (assignEach [tg] X.env).map (·.2) = [assign tg X.env] := by rfl) : PS X (.Assign [tg] e pos) (ye te g) := by
 intro pins s σ H D I h
 refine wpAny_Assign_stores (thE (he pins s σ H _ I h) fun v s1 x H1 I1 r1 q1 => ?_) hs hw
 rw [h1]
 exact thn (hg pins s1 σ H1 x v _ I1 r1 q1) fun _ s2 q => q
theorem TF {i : Nat} {x : Str} {e : Expr} {te : TE} {pos' : Pos} (hN : X.N.Nodup) (hi : X.N[i]? = some x) (hx : Loc X.env.scope x) (he : PE X e te) (hs : swapsWith e (some (.Name x pos')) pos.line X.env = pure false := by rfl) (hf : X.fn x = true ∨ X.env.scope.names.lookup x = some .local := by first | exact .inl rfl | exact .inr rfl | assumption) :
  PS X (.Assign [.Name x pos'] e pos) (ye te (mG i)) := by
 intro pins s σ H D I h
 refine wpAny_Assign_Name (thE (he pins s σ H _ I h) fun v s1 y H1 I1 r1 q1 => ?_) hs
 exact j7 I1 hN hi hx r1 (fun s2 I2 => ⟨_, H1, I2, q1⟩) hf
def Sg (i j : Nat) (ta : TA) : TS := fun D σ H => ta σ H fun vs H1 => ∃ v w, vs = [v, w] ∧ D.nx ((σ.set i (some v)).set j (some w)) H1
theorem TV {i j : Nat} {x y : Str} {a b : Expr} {ta : TA} {px py pt : Pos} {kt k2 pt2} (hc : X.calm = true) (hN : X.N.Nodup) (hi : X.N[i]? = some x) (hj : X.N[j]? = some y) (hij : i ≠ j)
  (hx : X.env.scope.names.lookup x = some .local) (hy : X.env.scope.names.lookup y = some .local) (ha : PA X [a, b] ta)
  (hw : swappedStores [.Tuple [.Name x px, .Name y py] kt pt] (.Tuple [a, b] k2 pt2) X.env = pure (some [x, y]))
  (hs : swapsWithSole [.Tuple [.Name x px, .Name y py] kt pt] (.Tuple [a, b] k2 pt2) pos.line X.env = pure false := by rfl) :
  PS X (.Assign [.Tuple [.Name x px, .Name y py] kt pt] (.Tuple [a, b] k2 pt2) pos) (Sg i j ta) := by
 intro pins s σ H D I h
 rw [exec_Assign_arm]
 refine wpAny_bind (wpAny_standAt ?_)
 rw [hs]
 refine wpAny_bind (wpAny_pure ?_)
 rw [if_neg (by decide)]
 refine wpAny_bind (Tuple_ (thA (ha _ pins s σ H _ I h) fun us s1 vs H1 I1 r1 q1 => ?_))
 obtain ⟨v, w, e1, q1⟩ := q1
 subst e1
 obtain ⟨u1, u2, rfl, rv, rw'⟩ : ∃ u1 u2, us = [u1, u2] ∧ RelV v u1 ∧ RelV w u2 := by
  cases r1 with
  | cons p q =>
   cases q with
   | cons p' q' =>
    cases q'
    exact ⟨_, _, rfl, p, p'⟩
 refine wpAny_newObj_type ?_ (by show 2 ≤ sizeLine; decide)
 have I2 : Inv X pins σ H1 { s1 with heap := s1.heap.push { cls := .type "tuple", data := .seq [u1, u2].toArray } } := I1.kept (t' := s1.toks) fun b o e => Heap.get?_push_of_some _ e
 rw [hw]
 refine wpAny_bind (wpAny_pure ?_)
 show wpAny (model X.prog X.w) X.A (do rule "assign.swapped-stores"; let items ← unpackItems (.ref s1.heap.objs.size) 2 none; assignInOrder [fun v => bindName X.env y v, fun v => bindName X.env x v] items.reverse; pure Flow.next) _ _ _
 refine wpAny_bind (wpAny_rule (wpAny_bind (unpackItems_tuple (items := #[u1, u2]) (I.ok.hd hc) (IsTup.new s1.heap _) fun h' hx' => ?_)))
 have I3 := I2.kept (h' := h') (t' := s1.toks) fun b o e => hx' b o (Nat.ne_of_lt (Heap.lt_size e)) e
 show wpAny _ _ (assignInOrder [fun v => bindName X.env y v, fun v => bindName X.env x v] [u2, u1] >>= fun _ => pure Flow.next) _ _ _
 refine wpAny_bind (assignInOrder_cons (wpAny_bindName (j7 I3 hN hj (.inl hy) rw' (fun s2 I4 => ?_) (.inr hy))))
 refine assignInOrder_cons (wpAny_bindName (j7 I4 hN hi (.inl hx) rv (fun s3 I5 => assignInOrder_nil (wpAny_pure ?_)) (.inr hx)))
 rw [List.set_comm _ _ (Ne.symm hij)] at I5
 exact ⟨_, H1, I5, q1⟩
def Wy (i : Nat) (te : TE) (ti : TIp) : TS := fun D σ H => ∃ x, σ[i]? = some (some x) ∧ te σ H fun y H1 => ti x y H1 fun z H2 => D.nx (σ.set i (some z)) H2
def ipI (f : Int → Int → Int) : TIp := fun x y H Q => ∃ i j, x = .int i ∧ y = .int j ∧ Q (.int (f i j)) H
end
structure It where
 go : Nat → Hp → Prop
 yld : Nat → Hp → V → Hp → Prop
 stop : Nat → Hp → Prop
def oR (X : Cx) (pins : List (Addr × Obj)) (H : Hp) (b : Addr) : Prop :=
 H b = none ∧ b ≠ X.env.locals ∧ b ∉ X.fs ∧ (b ∈ X.ex ∨ X.s₀.heap.objs.size ≤ b) ∧ (∀ x c, X.env.cells.lookup x = some c → c ≠ b) ∧ ∀ p ∈ X.pn ++ pins, p.1 ≠ b
theorem Inv.BK {X : Cx} {pins : List (Addr × Obj)} {σ : St} {H H' : Hp} {s : Shared} {b : Addr} (I : Inv X pins σ H s) (hb : s.heap.objs.size ≤ b) (hn : H' b = none) : oR X pins H' b := by
 refine ⟨hn, Nat.ne_of_gt (Nat.lt_of_lt_of_le I.lt hb), I.Uv hb, .inr (Nat.le_trans I.sz hb), fun x c e z => ?_, fun p hp z => ?_⟩
 ·obtain ⟨v, q⟩ := I.cell x c e
  exact absurd (Nat.lt_of_lt_of_le q.lt (by rw [z]; exact hb)) (Nat.lt_irrefl _)
 ·exact absurd (Nat.lt_of_lt_of_le (Heap.lt_size (I.pin p hp).1) (by rw [z]; exact hb)) (Nat.lt_irrefl _)
structure Turn (P : Program) (w : World) (K : PySem.W.Frag) (tg : Expr) (J : It) (fp : List Addr) (it : Addr) (tn : Nat → Heap → Prop) : Prop where
 mem : it ∈ fp
 obj : ∀ i h, tn i h → ∀ b ∈ fp, ∃ o, h.get? b = some o ∧ ∀ v, o.data ≠ .cell v
 keep : ∀ i h h', tn i h → (∀ b ∈ fp, ∀ o, h.get? b = some o → h'.get? b = some o) → tn i h'
 item : ∀ (X : Cx), X.prog = P → X.w = w → X.K = K → X.calm = true → ∀ (i : Nat) (pins : List (Addr × Obj)) (s : Shared) (σ : St) (H : Hp) (E : Value → Shared → Prop), Inv X pins σ H s → (∀ b ∈ fp, oR X pins H b) → tn i s.heap → J.go i H →
  wpAny (model P w) X.A (pyNext (.ref it)) (fun r s1 => ∃ u, r = some u ∧
   wpAny (model P w) X.A (letOwnedTupleGo tg (.ref it) u) (fun _ s2 => ∃ x H', Inv X pins σ H' s2 ∧ RelV x u ∧ J.yld i H x H' ∧ tn (i + 1) s2.heap ∧ ∀ b ∈ fp, H' b = none) E s1) E s
 done : ∀ (X : Cx), X.prog = P → X.w = w → X.K = K → X.calm = true → ∀ (i : Nat) (pins : List (Addr × Obj)) (s : Shared) (σ : St) (H : Hp) (E : Value → Shared → Prop), Inv X pins σ H s → (∀ b ∈ fp, oR X pins H b) → tn i s.heap → J.stop i H →
  wpAny (model P w) X.A (pyNext (.ref it)) (fun r s1 => r = none ∧ Inv X pins σ H s1) E s
 self : ∀ (A : Around) (i : Nat) (s : Shared) (Q : Value → Shared → Prop) (E : Value → Shared → Prop), tn i s.heap → Q (.ref it) s → wpAny (model P w) A (pyIter (.ref it)) Q E s
abbrev TI := St → Hp → (It → Hp → Prop) → Prop
def PIE (X : Cx) (pins : List (Addr × Obj)) (σ : St) (tg : Expr) (R : It → Hp → Prop) (itv : Value) (s2 : Shared) : Prop :=
 ∃ (it : Addr) (fp : List Addr) (tn : Nat → Heap → Prop) (J : It) (H' : Hp), itv = .ref it ∧ Inv X pins σ H' s2 ∧ Turn X.prog X.w X.K tg J fp it tn ∧ tn 0 s2.heap ∧ (∀ b ∈ fp, oR X pins H' b) ∧ R J H'
def PI (X : Cx) (tg iter : Expr) (wi : TI) : Prop :=
 ∀ (pins : List (Addr × Obj)) (s : Shared) (σ : St) (H : Hp) (R : It → Hp → Prop), Inv X pins σ H s → wi σ H R →
  wpAny (model X.prog X.w) X.A (eval iter X.env) (fun v s1 => wpAny (model X.prog X.w) X.A (pyIter v) (PIE X pins σ tg R) X.xe s1) X.xe s
theorem Du {M : Model} {A : Around} {E : Value → Shared → Prop} {s : Shared} {tg : Expr} {it : Addr} {u : Value} {o : Obj} {n : String} {vs : Array Value} {Q : Unit → Shared → Prop} (ho : s.heap.get? it = some o) (hc : o.cls = .type n) (hd : o.data = .fields vs)
  (hn : ["enumerate", "zip", "dict_itemiterator", "dict_reverseitemiterator", "odict_iterator", "itertools.zip_longest", "itertools.pairwise"].contains n = false) (hQ : Q () s) : wpAny M A (letOwnedTupleGo tg (.ref it) u) Q E s := by
 unfold letOwnedTupleGo
 cases tg <;> first
  | exact wpAny_pure hQ
  | (cases u <;> first
    | exact wpAny_pure hQ
    | (refine wpAny_bind (wpAny_load ho ?_)
       rw [hc, hd]
       show wpAny M A (if (["enumerate", "zip", "dict_itemiterator", "dict_reverseitemiterator", "odict_iterator", "itertools.zip_longest", "itertools.pairwise"].contains n && vs[0]? == some (rawInt _)) = true then _ else _) Q E s
       rw [if_neg (by intro h; rw [hn, Bool.false_and] at h; cases h)]
       exact wpAny_pure hQ))
def Itl (K : PySem.W.Frag) (a : Addr) : It :=
 ⟨fun i H => ∃ xs x, SqL K H a xs ∧ xs[i]? = some x, fun i H x H' => H' = H ∧ ∀ xs, SqL K H a xs → xs[i]? = some x, fun i H => ∃ xs, SqL K H a xs ∧ xs.length ≤ i⟩
def Itt (K : PySem.W.Frag) (a : Addr) : It :=
 ⟨fun i H => ∃ xs x, SqT K H a xs ∧ xs[i]? = some x, fun i H x H' => H' = H ∧ ∀ xs, SqT K H a xs → xs[i]? = some x, fun i H => ∃ xs, SqT K H a xs ∧ xs.length ≤ i⟩
def Itr (lo : Int) (n : Nat) : It := ⟨fun i _ => i < n, fun i H x H' => H' = H ∧ x = .int (lo + i), fun i _ => n ≤ i⟩
theorem Ed {P : Program} {w : World} {K : PySem.W.Frag} {tg : Expr} (a it : Addr) : Turn P w K tg (Itl K a) [it] it (fun i h => h.IsListIter it a i) where
 mem := by simp
 obj := fun i h st b hb => by
  have e : b = it := by simpa using hb
  subst e
  obtain ⟨o, e, c, d⟩ := st
  exact ⟨o, e, fun v z => by rw [d] at z; cases z⟩
 keep := fun i h h' st k => st.at fun o e => k it (by simp) o e
 item := by
  intro X hP hw hK hc i pins s σ H E I hf st hg
  subst hP hw hK
  obtain ⟨xs, x, hq, hx⟩ := hg
  obtain ⟨its, rv, p, hz⟩ := I.list hq
  obtain ⟨u, hu, ru⟩ := rv.get hx
  obtain ⟨f0, f1, f2, f3, f4, f5⟩ := hf it (by simp)
  refine wpAny_pyNext_list_item st p.isList (x := u) (by simpa using hu) fun h' st' sb => ?_
  have I1 : Inv X pins σ H { s with heap := h' } := I.turned (t' := s.toks) (fun b o hb e => (sb.2 b hb).trans e) f0 f1 f3 f4 f5
  obtain ⟨o, e, c, d⟩ := id st'
  exact ⟨u, rfl, Du (s := { s with heap := h' }) e c d (by decide) ⟨x, H, I1, ru, ⟨rfl, fun ys hy => by rw [I.n6 hy hq]; exact hx⟩, st', fun b hb => (hf b hb).1⟩⟩
 done := by
  intro X hP hw hK hc i pins s σ H E I hf st hg
  subst hP hw hK
  obtain ⟨xs, hq, hx⟩ := hg
  obtain ⟨its, rv, p, hz⟩ := I.list hq
  obtain ⟨f0, f1, f2, f3, f4, f5⟩ := hf it (by simp)
  have hl := rv.length
  exact wpAny_pyNext_list_end (I.ok.hd hc) st p.isList (by simp; omega) fun h' eb => ⟨rfl, I.turned (t' := s.toks) (fun b o hb e => eb b o hb e) f0 f1 f3 f4 f5⟩
 self := fun _ _ _ _ _ st h => wpAny_pyIter_listiter st h
theorem zM {P : Program} {w : World} {K : PySem.W.Frag} {tg : Expr} (a it : Addr) : Turn P w K tg (Itt K a) [it] it (fun i h => h.IsTupleIter it a i) where
 mem := by simp
 obj := fun i h st b hb => by
  have e : b = it := by simpa using hb
  subst e
  obtain ⟨o, e, c, d⟩ := st
  exact ⟨o, e, fun v z => by rw [d] at z; cases z⟩
 keep := fun i h h' st k => st.at fun o e => k it (by simp) o e
 item := by
  intro X hP hw hK hc i pins s σ H E I hf st hg
  subst hP hw hK
  obtain ⟨xs, x, hq, hx⟩ := hg
  obtain ⟨its, rv, p, hz⟩ := I.tuple hq
  obtain ⟨u, hu, ru⟩ := rv.get hx
  obtain ⟨f0, f1, f2, f3, f4, f5⟩ := hf it (by simp)
  refine wpAny_pyNext_tuple_item st (show s.heap.IsTuple a its.toArray from p) (x := u) (by simpa using hu) fun h' st' sb => ?_
  have I1 : Inv X pins σ H { s with heap := h' } := I.turned (t' := s.toks) (fun b o hb e => (sb.2 b hb).trans e) f0 f1 f3 f4 f5
  obtain ⟨o, e, c, d⟩ := id st'
  exact ⟨u, rfl, Du (s := { s with heap := h' }) e c d (by decide) ⟨x, H, I1, ru, ⟨rfl, fun ys hy => by rw [I.lH hy hq]; exact hx⟩, st', fun b hb => (hf b hb).1⟩⟩
 done := by
  intro X hP hw hK hc i pins s σ H E I hf st hg
  subst hP hw hK
  obtain ⟨xs, hq, hx⟩ := hg
  obtain ⟨its, rv, p, hz⟩ := I.tuple hq
  obtain ⟨f0, f1, f2, f3, f4, f5⟩ := hf it (by simp)
  have hl := rv.length
  exact wpAny_pyNext_tuple_end (I.ok.hd hc) st (show s.heap.IsTuple a its.toArray from p) (by simp; omega) fun h' eb => ⟨rfl, I.turned (t' := s.toks) (fun b o hb e => eb b o hb e) f0 f1 f3 f4 f5⟩
 self := fun _ _ _ _ _ st h => wpAny_pyIter_tupleiter st h
theorem zN {P : Program} {w : World} {K : PySem.W.Frag} {tg : Expr} (it : Addr) (lo : Int) (n : Nat) : Turn P w K tg (Itr lo n) [it] it (fun i h => IsRangeIter h it (lo + (i : Nat) * 1) ((n : Int) - (i : Nat)) 1) where
 mem := by simp
 obj := fun i h st b hb => by
  have e : b = it := by simpa using hb
  subst e
  exact ⟨_, st, fun v z => by
   have z' : Data.fields _ = Data.cell v := z
   cases z'⟩
 keep := fun i h h' st k => k it (by simp) _ st
 item := by
  intro X hP hw hK hc i pins s σ H E I hf st hg
  subst hP hw hK
  obtain ⟨f0, f1, f2, f3, f4, f5⟩ := hf it (by simp)
  have W := Walks.range (prog := X.prog) (w := X.w) (I.ok.hd hc) it lo 1 n
  refine W.item i s _ _ hg st fun v h' tk hv st' kk => ?_
  obtain ⟨t, rfl⟩ := hv
  have I1 : Inv X pins σ H { s with heap := h', toks := tk } := I.turned (fun b o hb e => kk b o (by simpa using hb) e) f0 f1 f3 f4 f5
  refine ⟨_, rfl, Du (s := { s with heap := h', toks := tk }) (n := "range_iterator") st' rfl rfl (by decide) ⟨.int (lo + i), H, I1, ⟨t, ?_⟩, ⟨rfl, rfl⟩, st', fun b hb => (hf b hb).1⟩⟩
  rw [Int.mul_one]
 done := by
  intro X hP hw hK hc i pins s σ H E I hf st hg
  subst hP hw hK
  obtain ⟨f0, f1, f2, f3, f4, f5⟩ := hf it (by simp)
  exact wpAny_pyNext_range_end (I.ok.hd hc) st (by have : n ≤ i := hg; omega) fun h' eb => ⟨rfl, I.turned (t' := s.toks) (fun b o hb e => eb b o hb e) f0 f1 f3 f4 f5⟩
 self := fun _ _ _ _ _ st h => wpAny_pyIter_rangeiter st h
section
variable {X : Cx} {tg : Expr}
theorem IK {pins : List (Addr × Obj)} {σ : St} {H : Hp} {s : Shared} {R : It → Hp → Prop} {E : Value → Shared → Prop} {lo hi : Int} {t u v : Tok} {tk : Nat} (I : Inv X pins σ H s) (h1 : -(2 ^ 62) ≤ lo) (h2 : lo < 2 ^ 62) (h3 : -(2 ^ 62) ≤ hi) (h4 : hi < 2 ^ 62)
  (q : R (Itr lo (hi - lo).toNat) H) : wpAny (model X.prog X.w) X.A (pyIter (.ref s.heap.objs.size)) (PIE X pins σ tg R) E { s with heap := s.heap.push { cls := .type "range", data := .fields #[.int lo t, .int hi u, .int 1 v] }, toks := tk } := by
 refine wpAny_pyIter_range (IsRange.new ..) (small_one h1 h2 h3 h4) ?_
 have I1 : Inv X pins σ H { s with heap := s.heap.push { cls := .type "range", data := .fields #[.int lo t, .int hi u, .int 1 v] }, toks := tk } := I.kept fun b o e => Heap.get?_push_of_some _ e
 refine ⟨(s.heap.push { cls := .type "range", data := .fields #[.int lo t, .int hi u, .int 1 v] }).objs.size, [(s.heap.push { cls := .type "range", data := .fields #[.int lo t, .int hi u, .int 1 v] }).objs.size], _, _, H, rfl,
  I1.kept (t' := tk) fun b o e => Heap.get?_push_of_some _ e, zN _ lo (hi - lo).toNat, ?_, fun b hb => ?_, q⟩
 ·have e1 : lo + ((0 : Nat) : Int) * 1 = lo := by simp
  have e2 : (((hi - lo).toNat : Nat) : Int) - ((0 : Nat) : Int) = Builtin.Range.rangeSize lo hi 1 := by rw [rangeSize_one]; split <;> omega
  show IsRangeIter _ _ (lo + ((0 : Nat) : Int) * 1) ((((hi - lo).toNat : Nat) : Int) - ((0 : Nat) : Int)) 1
  rw [e1, e2]
  exact Heap.get?_push_size _ rfl
 ·have e : b = (s.heap.push { cls := .type "range", data := .fields #[.int lo t, .int hi u, .int 1 v] }).objs.size := by simpa using hb
  subst e
  exact I1.BK (Nat.le_refl _) (I1.hok.fresh (Nat.le_refl _))
def tH (ta : TA) : TI := fun σ H R => ta σ H fun vs H1 => ∃ j : Int, vs = [.int j] ∧ -(2 ^ 62) ≤ j ∧ j < 2 ^ 62 ∧ R (Itr 0 j.toNat) H1
theorem Fp {a : Expr} {ta : TA} {p pos : Pos} (hg : Gl X "range") (hm : X.mg "range" = none) (ha : PA X [a] ta) (hs : starEach [a] X.env = [(false, eval a X.env)] := by rfl) : PI X tg (.Call (.Name "range" p) [a] [] pos) (tH ta) := by
 intro pins s σ H R I h
 refine Call_ (pL I hg hm boot_range (PyProof.Rows.callWith_type1 (thA (ha pos pins s σ H _ I h) fun us s1 vs H1 I1 r1 q1 => ?_) hs rfl))
 obtain ⟨j, e, q1, q2, q⟩ := q1
 subst e
 cases r1 with
 | cons r rr =>
  cases rr
  obtain ⟨t, rfl⟩ := r
  exact call_range_1 (IK I1 (by omega) (by omega) q1 q2 (by simpa using q))
def Sx (wi : TI) (g : TG) (tb : TS) : TS := fun D σ H => wi σ H fun J H1 => ∃ W : Nat → Nat → St → Hp → Prop, (∃ m, W 0 m σ H1) ∧ ∀ i m σ H, W i m σ H →
 (J.stop i H ∧ D.nx σ H) ∨ (J.go i H ∧ ∃ N : St → Hp → Prop, (∀ σ' H', N σ' H' → ∃ m', m' < m ∧ W (i + 1) m' σ' H') ∧ ∀ x H', J.yld i H x H' → g x σ H' fun σ2 H2 => tb { D with nx := N, ct := N, bk := D.nx } σ2 H2)
def je (fp : List Addr) (h : Heap) : List (Addr × Obj) := fp.filterMap fun b => (h.get? b).map fun o => (b, o)
theorem jK {fp : List Addr} {h : Heap} {b : Addr} {o : Obj} (hb : b ∈ fp) (e : h.get? b = some o) : (b, o) ∈ je fp h := List.mem_filterMap.mpr ⟨b, hb, by rw [e]; rfl⟩
theorem pC {fp : List Addr} {h : Heap} {p : Addr × Obj} (hp : p ∈ je fp h) : p.1 ∈ fp ∧ h.get? p.1 = some p.2 := by
 obtain ⟨b, hb, e⟩ := List.mem_filterMap.mp hp
 cases q : h.get? b with
 | none => rw [q] at e; cases e
 | some o =>
  rw [q] at e
  have e' : (b, o) = p := Option.some.inj e
  subst e'
  exact ⟨hb, q⟩
theorem Inv.pinned {pins : List (Addr × Obj)} {σ : St} {H : Hp} {s : Shared} {fp : List Addr} (I : Inv X pins σ H s) (hf : ∀ b ∈ fp, oR X pins H b) (ho : ∀ b ∈ fp, ∃ o, s.heap.get? b = some o ∧ ∀ v, o.data ≠ .cell v) : Inv X (pins ++ je fp s.heap) σ H s :=
 I.lO fun p hp => (List.mem_append.mp hp).elim (fun z => I.pin p (List.mem_append_right _ z)) fun z => by
  obtain ⟨hb, e⟩ := pC z
  obtain ⟨f0, f1, f2, _⟩ := hf p.1 hb
  obtain ⟨o, e', d⟩ := ho p.1 hb
  rw [e] at e'; cases e'
  exact ⟨e, f0, f1, f2, d⟩
theorem Inv.j4 {pins pl : List (Addr × Obj)} {σ : St} {H : Hp} {s : Shared} (I : Inv X (pins ++ pl) σ H s) : Inv X pins σ H s := I.lO fun p hp => I.pin p (List.mem_append_right _ (List.mem_append_left _ hp))
theorem TX {iter : Expr} {body : List Stmt} {wi : TI} {g : TG} {tb : TS} {pos : Pos} (hp : PassesOwn (model X.prog X.w) X.A X.env X.xe) (hc : X.calm = true) (hi : PI X tg iter wi) (hg : PG X tg g) (hb : PSs X body tb)
  (hs : ∀ x, foldedSetIterable iter X.env x = pure x := by intro _; rfl) : PS X (.For tg iter body [] pos) (Sx wi g tb) := by
 intro pins s σ H D I h
 refine wpAny_For (thn (hi pins s σ H _ I h) fun v s1 h1 => thn h1 fun itv s2 h2 => ?_) hs
 obtain ⟨it, fp, tn, J, H2, e, I2, T, st2, f2, W, ⟨m0, w0⟩, turn⟩ := h2
 subst e
 -- what stays true of the iterator's objects through the loop
 have stat : ∀ {H' : Hp}, (∀ b ∈ fp, H' b = none) → ∀ b ∈ fp, oR X pins H' b := fun hn b hb => ⟨hn b hb, (f2 b hb).2⟩
 refine codeAny_forLoop_any (fun n s' => ∃ i σ' H', Inv X pins σ' H' s' ∧ tn i s'.heap ∧ (∀ b ∈ fp, H' b = none) ∧ W i n σ' H') ?_ m0 ⟨0, σ, H2, I2, st2, fun b hb => (f2 b hb).1, w0⟩
 rintro n s3 ⟨i, σ3, H3, I3, st3, fr3, w3⟩
 rcases turn i n σ3 H3 w3 with ⟨stop, qn⟩ | ⟨go, N, hN, step⟩
 ·refine wpAny_passesOwn hp (thn (T.done X rfl rfl rfl hc i pins s3 σ3 H3 X.xe I3 (stat fr3) st3 stop) fun r s4 ⟨hr, I4⟩ => ?_)
  subst hr
  exact wpAny_execs_nil ⟨σ3, H3, I4, qn⟩
 ·refine wpAny_passesOwn hp (thn (T.item X rfl rfl rfl hc i pins s3 σ3 H3 X.xe I3 (stat fr3) st3 go) fun r s4 ⟨u, hr, h4⟩ => ?_)
  subst hr
  refine wpAny_passesOwn hp (thn h4 fun _ s5 ⟨x, H5, I5, r5, y5, st5, fr5⟩ => ?_)
  have I5' := I5.pinned (stat fr5) (T.obj _ _ st5)
  refine wpAny_passesOwn hp (thn (hg _ s5 σ3 H5 x u _ I5' r5 (step x H5 y5)) fun _ s6 ⟨σ6, H6, I6, q6⟩ => ?_)
  refine wpAny_passesOwn hp (thn (hb _ s6 σ6 H6 _ I6 q6) fun f s7 q7 => ?_)
  have again : ∀ {σ7 : St} {H7 : Hp}, Inv X (pins ++ je fp s5.heap) σ7 H7 s7 → N σ7 H7 → ∃ m, m < n ∧ ∃ i σ' H', Inv X pins σ' H' s7 ∧ tn i s7.heap ∧ (∀ b ∈ fp, H' b = none) ∧ W i m σ' H' := fun {σ7 H7} I7 n7 => by
   obtain ⟨m', hm, w7⟩ := hN σ7 H7 n7
   refine ⟨m', hm, i + 1, σ7, H7, I7.j4, T.keep _ _ _ st5 fun b hb o e => (I7.pin (b, o) (List.mem_append_right _ (List.mem_append_right _ (jK hb e)))).1, fun b hb => ?_, w7⟩
   obtain ⟨o, e, d⟩ := T.obj _ _ st5 b hb
   exact (I7.pin (b, o) (List.mem_append_right _ (List.mem_append_right _ (jK hb e)))).2.1
  cases f with
  | next => obtain ⟨σ7, H7, I7, n7⟩ := q7; exact again I7 n7
  | cont => obtain ⟨σ7, H7, I7, n7⟩ := q7; exact again I7 n7
  | brk => obtain ⟨σ7, H7, I7, q7⟩ := q7; exact ⟨σ7, H7, I7.j4, q7⟩
  | ret v => obtain ⟨x7, σ7, H7, I7, r7, q7⟩ := q7; exact ⟨x7, σ7, H7, I7.j4, r7, q7⟩
end
theorem K4 {K : PySem.W.Frag} {a : Addr} {xs : List V} {g : TG} {tb : TS} {D : Ends} {σ : St} {H : Hp} (Pv : Nat → St → Hp → Prop) (h0 : Pv 0 σ H) (hl : ∀ i σ H, i ≤ xs.length → Pv i σ H → SqL K H a xs)
  (hs : ∀ i x σ H, xs[i]? = some x → Pv i σ H → g x σ H fun σ2 H2 => tb { D with nx := Pv (i + 1), ct := Pv (i + 1), bk := D.nx } σ2 H2) (hd : ∀ σ H, Pv xs.length σ H → D.nx σ H) :
  ∃ W : Nat → Nat → St → Hp → Prop, (∃ m, W 0 m σ H) ∧ ∀ i m σ H, W i m σ H →
   ((Itl K a).stop i H ∧ D.nx σ H) ∨ ((Itl K a).go i H ∧ ∃ N : St → Hp → Prop, (∀ σ' H', N σ' H' → ∃ m', m' < m ∧ W (i + 1) m' σ' H') ∧ ∀ x H', (Itl K a).yld i H x H' → g x σ H' fun σ2 H2 => tb { D with nx := N, ct := N, bk := D.nx } σ2 H2) := by
 refine ⟨fun i m σ H => m = xs.length - i ∧ i ≤ xs.length ∧ Pv i σ H, ⟨xs.length, by simp, Nat.zero_le _, h0⟩, ?_⟩
 rintro i m σ H ⟨rfl, hi, p⟩
 have q := hl i σ H hi p
 by_cases hlt : i < xs.length
 ·refine .inr ⟨⟨xs, xs[i], q, by simp [hlt]⟩, Pv (i + 1), fun σ' H' p' => ⟨xs.length - (i + 1), by omega, rfl, hlt, p'⟩, fun x H' y => ?_⟩
  obtain ⟨e, y⟩ := y
  subst e
  exact hs i x σ _ (y xs q) p
 ·have e : i = xs.length := by omega
  subst e
  exact .inl ⟨⟨xs, q, Nat.le_refl _⟩, hd σ H p⟩
theorem Gk {lo : Int} {n : Nat} {g : TG} {tb : TS} {D : Ends} {σ : St} {H : Hp} (Pv : Nat → St → Hp → Prop) (h0 : Pv 0 σ H)
  (hs : ∀ i σ H, i < n → Pv i σ H → g (.int (lo + i)) σ H fun σ2 H2 => tb { D with nx := Pv (i + 1), ct := Pv (i + 1), bk := D.nx } σ2 H2) (hd : ∀ σ H, Pv n σ H → D.nx σ H) :
  ∃ W : Nat → Nat → St → Hp → Prop, (∃ m, W 0 m σ H) ∧ ∀ i m σ H, W i m σ H →
   ((Itr lo n).stop i H ∧ D.nx σ H) ∨ ((Itr lo n).go i H ∧ ∃ N : St → Hp → Prop, (∀ σ' H', N σ' H' → ∃ m', m' < m ∧ W (i + 1) m' σ' H') ∧ ∀ x H', (Itr lo n).yld i H x H' → g x σ H' fun σ2 H2 => tb { D with nx := N, ct := N, bk := D.nx } σ2 H2) := by
 refine ⟨fun i m σ H => m = n - i ∧ i ≤ n ∧ Pv i σ H, ⟨n, by simp, Nat.zero_le _, h0⟩, ?_⟩
 rintro i m σ H ⟨rfl, hi, p⟩
 by_cases hlt : i < n
 ·refine .inr ⟨hlt, Pv (i + 1), fun σ' H' p' => ⟨n - (i + 1), by omega, rfl, hlt, p'⟩, fun x H' y => ?_⟩
  obtain ⟨e, y⟩ := y
  subst e y
  exact hs i σ _ hlt p
 ·have e : i = n := by omega
  subst e
  exact .inl ⟨Nat.le_refl _, hd σ H p⟩
abbrev R2 := V → V → Hp → VK → Prop
def OpR (X : Cx) (f : Value → Value → Sem Value) (r : R2) : Prop :=
 ∀ (pins : List (Addr × Obj)) (s : Shared) (σ : St) (H : Hp) (x y : V) (v u : Value) (Q : VK), Inv X pins σ H s → RelV x v → RelV y u → r x y H Q →
  wpAny (model X.prog X.w) X.A (f v u) (EP X pins σ Q) X.xe s
def UnR (X : Cx) (f : Value → Sem Value) (r : V → Hp → VK → Prop) : Prop :=
 ∀ (pins : List (Addr × Obj)) (s : Shared) (σ : St) (H : Hp) (x : V) (v : Value) (Q : VK), Inv X pins σ H s → RelV x v → r x H Q →
  wpAny (model X.prog X.w) X.A (f v) (EP X pins σ Q) X.xe s
def cO (X : Cx) (f : Value) (r : List V → Hp → VK → Prop) : Prop :=
 ∀ (pins : List (Addr × Obj)) (s : Shared) (σ : St) (H : Hp) (xs : List V) (us : List Value) (Q : VK), Inv X pins σ H s → Vals xs us → r xs H Q →
  wpAny (model X.prog X.w) X.A (call f us) (EP X pins σ Q) X.xe s
def Xe (X : Cx) (r : V → Hp → (Bool → Hp → Prop) → Prop) : Prop :=
 ∀ (pins : List (Addr × Obj)) (s : Shared) (σ : St) (H : Hp) (x : V) (v : Value) (Q : Bool → Hp → Prop), Inv X pins σ H s → RelV x v → r x H Q →
  wpAny (model X.prog X.w) X.A (truthy v) (TP X pins σ Q) X.xe s
def tOp (r : R2) (ta tb : TE) : TE := fun σ H Q => ta σ H fun x H1 => tb σ H1 fun y H2 => r x y H2 Q
def tUn (r : V → Hp → VK → Prop) (ta : TE) : TE := fun σ H Q => ta σ H fun x H1 => r x H1 Q
def rI (C : Int → Int → Prop) (g : Int → Int → V) : R2 := fun x y H Q => ∃ i j, x = .int i ∧ y = .int j ∧ C i j ∧ Q (g i j) H
def rI0 (g : Int → Int → V) : R2 := fun x y H Q => ∃ i j, x = .int i ∧ y = .int j ∧ Q (g i j) H
def rU (g : Int → V) : V → Hp → VK → Prop := fun x H Q => ∃ i, x = .int i ∧ Q (g i) H
section
variable {X : Cx} {a b c : Expr} {ta tb tc : TE} {pos : Pos}
theorem Vn (ha : PE X a ta) (hb : PE X b tb) {pins : List (Addr × Obj)} {s : Shared} {σ : St} {H : Hp} {R : V → V → Hp → Prop} (I : Inv X pins σ H s)
  (h : ta σ H fun x H1 => tb σ H1 fun y H2 => R x y H2) {Q : Value → Shared → Prop} {f : Value → Value → Sem Value}
  (hf : ∀ v u s2 x y H2, Inv X pins σ H2 s2 → RelV x v → RelV y u → R x y H2 → wpAny (model X.prog X.w) X.A (f v u) Q X.xe s2) :
  wpAny (model X.prog X.w) X.A (eval a X.env) (fun v s₁ => wpAny (model X.prog X.w) X.A (eval b X.env) (fun u s₂ => wpAny (model X.prog X.w) X.A (f v u) Q X.xe s₂) X.xe s₁) X.xe s := by
 refine thE (ha pins s σ H _ I h) fun v s1 x H1 I1 r1 q1 => ?_
 refine thE (hb pins s1 σ H1 _ I1 q1) fun u s2 y H2 I2 r2 q2 => ?_
 exact hf v u s2 x y H2 I2 r1 r2 q2
theorem V4 {op : Operator} {r : R2} (ho : OpR X (binaryOp op) r) (ha : PE X a ta) (hb : PE X b tb) : PE X (.BinOp a op b pos) (tOp r ta tb) := by
 intro pins s σ H Q I h
 exact wpAny_BinOp (Vn ha hb I h fun v u s2 x y H2 I2 rx ry q => ho pins s2 σ H2 x y v u Q I2 rx ry q)
theorem V2 {op : UnaryOp} {r : V → Hp → VK → Prop} (ho : UnR X (unaryOp op) r) (ha : PE X a ta) : PE X (.UnaryOp op a pos) (tUn r ta) := by
 intro pins s σ H Q I h
 exact UnaryOp_ (thE (ha pins s σ H _ I h) fun v s1 x H1 I1 r1 q1 => ho pins s1 σ H1 x v Q I1 r1 q1)
theorem opI {f : Value → Value → Sem Value} {C : Int → Int → Prop} {g : Int → Int → Int}
  (rule : ∀ (i j : Int) (t u : Tok) (s : Shared) (Q : Value → Shared → Prop) (E : Value → Shared → Prop), C i j → Q (.int (g i j) s.toks) { s with toks := s.toks + 1 } → wpAny (model X.prog X.w) X.A (f (.int i t) (.int j u)) Q E s) :
  OpR X f (rI C fun i j => .int (g i j)) := by
 intro pins s σ H x y v u Q I rx ry h
 obtain ⟨i, j, rfl, rfl, hc, q⟩ := h
 obtain ⟨t, rfl⟩ := rx
 obtain ⟨t', rfl⟩ := ry
 exact rule i j t t' s _ _ hc ⟨.int (g i j), H, I.tok _, ⟨_, rfl⟩, q⟩
theorem Wg {f : Value → Value → Sem Value} {g : Int → Int → Int}
  (rule : ∀ (i j : Int) (t u : Tok) (s : Shared) (Q : Value → Shared → Prop) (E : Value → Shared → Prop), Q (.int (g i j) s.toks) { s with toks := s.toks + 1 } → wpAny (model X.prog X.w) X.A (f (.int i t) (.int j u)) Q E s) :
  OpR X f (rI0 fun i j => .int (g i j)) := by
 intro pins s σ H x y v u Q I rx ry h
 obtain ⟨i, j, rfl, rfl, q⟩ := h
 obtain ⟨t, rfl⟩ := rx
 obtain ⟨t', rfl⟩ := ry
 exact rule i j t t' s _ _ ⟨.int (g i j), H, I.tok _, ⟨_, rfl⟩, q⟩
theorem PN {f : Value → Value → Sem Value} {g : Int → Int → Bool}
  (rule : ∀ (i j : Int) (t u : Tok) (s : Shared) (Q : Value → Shared → Prop) (E : Value → Shared → Prop), Q (.bool (g i j)) s → wpAny (model X.prog X.w) X.A (f (.int i t) (.int j u)) Q E s) :
  OpR X f (rI0 fun i j => .bl (g i j)) := by
 intro pins s σ H x y v u Q I rx ry h
 obtain ⟨i, j, rfl, rfl, q⟩ := h
 obtain ⟨t, rfl⟩ := rx
 obtain ⟨t', rfl⟩ := ry
 exact rule i j t t' s _ _ ⟨.bl (g i j), H, I, rfl, q⟩
def Vu (i j : Int) : Prop := 0 ≤ j ∧ j ≤ 1000000 ∧ i.natAbs < 2 ^ 64
def GQ (i j : Int) : Prop := (-(2 ^ 64) < i ∧ i < 2 ^ 64) ∨ (-(2 ^ 64) < j ∧ j < 2 ^ 64)
theorem GQ.ok {i j : Int} (h : GQ i j) : IntMulOk i j := by
 rcases h with ⟨h1, h2⟩ | ⟨h1, h2⟩
 ·exact .of_left (intBits_le_64 h1 h2)
 ·exact .of_right (intBits_le_64 h1 h2)
theorem Us : OpR X (binaryOp .Add) (rI0 fun i j => .int (i + j)) := Wg fun _ _ _ _ _ _ _ q => add_int q
theorem iM : OpR X (binaryOp .Sub) (rI0 fun i j => .int (i - j)) := Wg fun _ _ _ _ _ _ _ q => sub_int q
theorem Um : OpR X (binaryOp .Mult) (rI GQ fun i j => .int (i * j)) := opI fun _ _ _ _ _ _ _ hc q => mul_int q hc.ok
theorem iQ : OpR X (binaryOp .Mod) (rI (fun _ j => 0 < j) fun i j => .int (i % j)) := opI fun i j _ _ _ _ _ hc q => by
 have h1 : (0 : Int) < j := hc
 exact mod_int' (by omega) (by rw [Int.fmod_eq_emod_of_nonneg i (by omega)]; exact q)
theorem JT : OpR X (binaryOp .Pow) (rI Vu fun i j => .int (i ^ j.toNat)) := opI fun _ _ _ _ _ _ _ hc q => pow_int_small hc.1 hc.2.1 hc.2.2 q
theorem Aw : OpR X (binaryOp .LShift) (rI Vu fun i j => .int (i * 2 ^ j.toNat)) := opI fun _ _ _ _ _ _ _ hc q => lshift_int_small hc.1 hc.2.1 hc.2.2 q
theorem unI {f : Value → Sem Value} {g : Int → Int}
  (rule : ∀ (i : Int) (t : Tok) (s : Shared) (Q : Value → Shared → Prop) (E : Value → Shared → Prop), Q (.int (g i) s.toks) { s with toks := s.toks + 1 } → wpAny (model X.prog X.w) X.A (f (.int i t)) Q E s) :
  UnR X f (rU fun i => .int (g i)) := by
 intro pins s σ H x v Q I rx h
 obtain ⟨i, rfl, q⟩ := h
 obtain ⟨t, rfl⟩ := rx
 exact rule i t s _ _ ⟨.int (g i), H, I.tok _, ⟨_, rfl⟩, q⟩
theorem mJ : UnR X (unaryOp .USub) (rU fun i => .int (-i)) := unI fun _ _ _ _ _ q => neg_int q
end
def qz : V → V → Bool
 | .non, .non => true | .non, .int _ => true | .int _, .non => true | .non, .bl _ => true | .bl _, .non => true | .non, .str _ => true | .str _, .non => true
 | .int _, .int _ => true | .bl _, .bl _ => true | .str _, .str _ => true | .byt _, .byt _ => true
 | .int _, .str _ => true | .str _, .int _ => true | .bl _, .str _ => true | .str _, .bl _ => true
 | _, _ => false
def rEq : R2 := fun x y H Q => qz x y = true ∧ Q (.bl (decide (x = y))) H
def rNe : R2 := fun x y H Q => qz x y = true ∧ Q (.bl (!decide (x = y))) H
theorem DQ {i j : Int} : decide (V.int i = V.int j) = (i == j) := by
 rw [Bool.eq_iff_iff]
 simp
theorem Li {i j : Bool} : decide (V.bl i = V.bl j) = (i == j) := by
 rw [Bool.eq_iff_iff]
 simp
theorem DP {i j : Str} : decide (V.str i = V.str j) = (i == j) := by
 rw [Bool.eq_iff_iff]
 simp
theorem DR {i j : Array UInt8} : decide (V.byt i = V.byt j) = (i.toList == j.toList) := by
 rw [Bool.eq_iff_iff]
 cases i
 cases j
 simp
section
variable {X : Cx} {a b c : Expr} {ta tb tc : TE} {pos : Pos}
theorem bQ {pins : List (Addr × Obj)} {σ : St} {H : Hp} {s : Shared} {Q : VK} {k k' : Bool} (I : Inv X pins σ H s) (q : Q (.bl k) H) (e : k = k') : EP X pins σ Q (.bool k') s := by
 subst e
 exact ⟨.bl k, H, I, rfl, q⟩
theorem Wf : OpR X (compareOp .Eq) rEq := by
 intro pins s σ H x y v u Q I rx ry h
 obtain ⟨hs, q⟩ := h
 cases x with
 | non =>
  cases rx
  cases y with
  | non => cases ry; exact PySem.EqNone.eq_none_none (bQ I q (by simp))
  | bl j => cases ry; exact PySem.EqNone.eq_none_bool (bQ I q (by simp))
  | int j => obtain ⟨t', rfl⟩ := ry; exact PySem.EqNone.eq_none_int (bQ I q (by simp))
  | str j => obtain ⟨t', rfl⟩ := ry; exact PySem.EqNone.eq_none_str (bQ I q (by simp))
  | _ => exact absurd (show false = true from hs) Bool.false_ne_true
 | bl i =>
  cases rx
  cases y with
  | non => cases ry; exact PySem.EqNone.eq_bool_none (bQ I q (by simp))
  | bl j => cases ry; exact eq_bool (bQ I q Li)
  | str j => obtain ⟨t', rfl⟩ := ry; exact PySem.EqMixed.eq_bool_str (bQ I q (by simp))
  | _ => exact absurd (show false = true from hs) Bool.false_ne_true
 | int i =>
  obtain ⟨t, rfl⟩ := rx
  cases y with
  | non => cases ry; exact PySem.EqNone.eq_int_none (bQ I q (by simp))
  | int j => obtain ⟨t', rfl⟩ := ry; exact eq_int (bQ I q DQ)
  | str j => obtain ⟨t', rfl⟩ := ry; exact PySem.EqMixed.eq_int_str (bQ I q (by simp))
  | _ => exact absurd (show false = true from hs) Bool.false_ne_true
 | str i =>
  obtain ⟨t, rfl⟩ := rx
  cases y with
  | non => cases ry; exact PySem.EqNone.eq_str_none (bQ I q (by simp))
  | bl j => cases ry; exact PySem.EqMixed.eq_str_bool (bQ I q (by simp))
  | int j => obtain ⟨t', rfl⟩ := ry; exact PySem.EqMixed.eq_str_int (bQ I q (by simp))
  | str j => obtain ⟨t', rfl⟩ := ry; exact eq_str (bQ I q DP)
  | _ => exact absurd (show false = true from hs) Bool.false_ne_true
 | byt i =>
  obtain ⟨t, rfl⟩ := rx
  cases y with
  | byt j => obtain ⟨t', rfl⟩ := ry; exact PySem.W.eq_bytes (bQ I q DR)
  | _ => exact absurd (show false = true from hs) Bool.false_ne_true
 | _ => cases y <;> exact absurd (show false = true from hs) Bool.false_ne_true
theorem Wd : OpR X (compareOp .NotEq) rNe := by
 intro pins s σ H x y v u Q I rx ry h
 obtain ⟨hs, q⟩ := h
 cases x with
 | non =>
  cases rx
  cases y with
  | non => cases ry; exact PySem.EqNone.ne_none_none (bQ I q (by simp))
  | bl j => cases ry; exact PySem.EqNone.ne_none_bool (bQ I q (by simp))
  | int j => obtain ⟨t', rfl⟩ := ry; exact PySem.EqNone.ne_none_int (bQ I q (by simp))
  | str j => obtain ⟨t', rfl⟩ := ry; exact PySem.EqNone.ne_none_str (bQ I q (by simp))
  | _ => exact absurd (show false = true from hs) Bool.false_ne_true
 | bl i =>
  cases rx
  cases y with
  | non => cases ry; exact PySem.EqNone.ne_bool_none (bQ I q (by simp))
  | bl j => cases ry; exact ne_bool (bQ I q (congrArg not Li))
  | str j => obtain ⟨t', rfl⟩ := ry; exact PySem.EqMixed.ne_bool_str (bQ I q (by simp))
  | _ => exact absurd (show false = true from hs) Bool.false_ne_true
 | int i =>
  obtain ⟨t, rfl⟩ := rx
  cases y with
  | non => cases ry; exact PySem.EqNone.ne_int_none (bQ I q (by simp))
  | int j => obtain ⟨t', rfl⟩ := ry; exact ne_int (bQ I q (congrArg not DQ))
  | str j => obtain ⟨t', rfl⟩ := ry; exact PySem.EqMixed.ne_int_str (bQ I q (by simp))
  | _ => exact absurd (show false = true from hs) Bool.false_ne_true
 | str i =>
  obtain ⟨t, rfl⟩ := rx
  cases y with
  | non => cases ry; exact PySem.EqNone.ne_str_none (bQ I q (by simp))
  | bl j => cases ry; exact PySem.EqMixed.ne_str_bool (bQ I q (by simp))
  | int j => obtain ⟨t', rfl⟩ := ry; exact PySem.EqMixed.ne_str_int (bQ I q (by simp))
  | str j => obtain ⟨t', rfl⟩ := ry; exact ne_str (bQ I q (congrArg not DP))
  | _ => exact absurd (show false = true from hs) Bool.false_ne_true
 | byt i =>
  obtain ⟨t, rfl⟩ := rx
  cases y with
  | byt j => obtain ⟨t', rfl⟩ := ry; exact PySem.W.ne_bytes (bQ I q (congrArg not DR))
  | _ => exact absurd (show false = true from hs) Bool.false_ne_true
 | _ => cases y <;> exact absurd (show false = true from hs) Bool.false_ne_true
theorem gW : OpR X (compareOp .Lt) (rI0 fun i j => .bl (decide (i < j))) := PN fun _ _ _ _ _ _ _ q => lt_int q
theorem nQ : OpR X (compareOp .LtE) (rI0 fun i j => .bl (decide (i ≤ j))) := PN fun _ _ _ _ _ _ _ q => le_int q
theorem yI : OpR X (compareOp .Gt) (rI0 fun i j => .bl (decide (j < i))) := PN fun _ _ _ _ _ _ _ q => gt_int q
theorem JW : OpR X (compareOp .GtE) (rI0 fun i j => .bl (decide (j ≤ i))) := PN fun _ _ _ _ _ _ _ q => ge_int q
theorem Fv : OpR X (compareOp .In) (fun x y H Q => ∃ i j, x = .str i ∧ y = .str j ∧ Q (.bl (!(Builtin.Str.occurrences j i 0 j.length 1).isEmpty)) H) := by
 intro pins s σ H x y v u Q I rx ry h
 obtain ⟨i, j, rfl, rfl, q⟩ := h
 obtain ⟨t, rfl⟩ := rx
 obtain ⟨t', rfl⟩ := ry
 exact in_str (bQ I q rfl)
theorem sH : OpR X (compareOp .Is) (fun x y H Q => y = .non ∧ Q (.bl (decide (x = .non))) H) := by
 intro pins s σ H x y v u Q I rx ry h
 obtain ⟨rfl, q⟩ := h
 cases ry
 refine is_none_gen (bQ I q ?_)
 cases x <;> first
  | (cases rx; rfl)
  | (obtain ⟨t, rfl⟩ := rx; rfl)
theorem PB : OpR X (compareOp .IsNot) (fun x y H Q => y = .non ∧ Q (.bl (!decide (x = .non))) H) := by
 intro pins s σ H x y v u Q I rx ry h
 obtain ⟨rfl, q⟩ := h
 cases ry
 refine isnot_none_gen (bQ I q ?_)
 cases x <;> first
  | (cases rx; rfl)
  | (obtain ⟨t, rfl⟩ := rx; rfl)
theorem wR : OpR X (compareOp .NotIn) (fun x y H Q => ∃ i j, x = .str i ∧ y = .str j ∧ Q (.bl (!(!(Builtin.Str.occurrences j i 0 j.length 1).isEmpty))) H) := by
 intro pins s σ H x y v u Q I rx ry h
 obtain ⟨i, j, rfl, rfl, q⟩ := h
 obtain ⟨t, rfl⟩ := rx
 obtain ⟨t', rfl⟩ := ry
 exact notIn_str (bQ I q rfl)
theorem aO (b : Expr) {op : CmpOp} (h : op ≠ .In := by decide) (h2 : op ≠ .NotIn := by decide) : behindInMarks op b = false := by
 have e1 : (op == CmpOp.In) = false := by cases op <;> first | rfl | exact absurd rfl h
 have e2 : (op == CmpOp.NotIn) = false := by cases op <;> first | rfl | exact absurd rfl h2
 cases b <;> simp [behindInMarks, e1, e2]
theorem Pr {op : CmpOp} {r : R2} (ho : OpR X (compareOp op) r) (ha : PE X a ta) (hb : PE X b tb) (hm : behindInMarks op b = false) : PE X (.Compare a [op] [b] pos) (tOp r ta tb) := by
 intro pins s σ H Q I h
 exact wpAny_Compare1 (Vn ha hb I h fun v u s2 x y H2 I2 rx ry q => ho pins s2 σ H2 x y v u Q I2 rx ry q) hm
def yd (t : TE) : TT := fun σ H Q => t σ H fun x H' => ∃ k, x = .bl k ∧ Q k H'
theorem Ox {op : CmpOp} {r : R2} (ho : OpR X (compareOp op) r) (ha : PE X a ta) (hb : PE X b tb) (hm : behindInMarks op b = false) : PT X (.Compare a [op] [b] pos) (yd (tOp r ta tb)) := by
 intro pins s σ H Q I h
 refine wpAny_isTrue_Compare1 (thE (ha pins s σ H _ I h) fun v s1 x H1 I1 r1 q1 => thE (hb pins s1 σ H1 _ I1 q1) fun u s2 y H2 I2 r2 q2 =>
  thn (ho pins s2 σ H2 x y v u _ I2 r1 r2 q2) fun c s3 ⟨z, H3, I3, r3, k, e, q3⟩ => ?_) hm
 subst e
 cases r3
 exact wpAny_truthy_bool ⟨H3, I3, q3⟩
def rJ (r r' : R2) (ta tb tc : TE) : TE := fun σ H Q => ta σ H fun x H1 => tb σ H1 fun y H2 => r x y H2 fun z H3 => ∃ k, z = .bl k ∧
 (if k = true then tc σ H3 fun w' H4 => r' y w' H4 Q else Q (.bl false) H3)
theorem JQ {op op' : CmpOp} {r r' : R2} (ho : OpR X (compareOp op) r) (ho' : OpR X (compareOp op') r') (ha : PE X a ta) (hb : PE X b tb) (hc : PE X c tc)
  (hm : lastMarks [op, op'] [b, c] = false := by with_unfolding_all rfl) : PE X (.Compare a [op, op'] [b, c] pos) (rJ r r' ta tb tc) := by
 intro pins s σ H Q I h
 refine Compare_chain (thE (ha pins s σ H _ I h) fun v s1 x H1 I1 r1 q1 => chain_link (thE (hb pins s1 σ H1 _ I1 q1) fun u s2 y H2 I2 r2 q2 =>
  thn (ho pins s2 σ H2 x y v u _ I2 r1 r2 q2) fun d s3 ⟨z, H3, I3, r3, k, e, q3⟩ => ?_)) hm
 subst e
 cases r3
 refine wpAny_truthy_bool ?_
 cases k with
 | false => exact ite_ff ⟨.bl false, H3, I3, rfl, q3⟩
 | true => exact ite_tt (chain_last (thn (hc pins s3 σ H3 _ I3 q3) fun w' s4 ⟨z', H4, I4, r4, q4⟩ => ho' pins s4 σ H4 y z' u w' Q I4 r2 r4 q4))
theorem Jz {op op' : CmpOp} {r r' : R2} (ho : OpR X (compareOp op) r) (ho' : OpR X (compareOp op') r') (ha : PE X a ta) (hb : PE X b tb) (hc : PE X c tc)
  (hm : lastMarks [op, op'] [b, c] = false := by with_unfolding_all rfl) : PT X (.Compare a [op, op'] [b, c] pos) (yd (rJ r r' ta tb tc)) := by
 intro pins s σ H Q I h
 refine isTrue_chain (thE (ha pins s σ H _ I h) fun v s1 x H1 I1 r1 q1 => test_link (thE (hb pins s1 σ H1 _ I1 q1) fun u s2 y H2 I2 r2 q2 =>
  thn (ho pins s2 σ H2 x y v u _ I2 r1 r2 q2) fun d s3 ⟨z, H3, I3, r3, k, e, q3⟩ => ?_)) hm
 subst e
 cases r3
 refine wpAny_truthy_bool ?_
 cases k with
 | false =>
  obtain ⟨k', e', q'⟩ := q3
  cases e'
  exact ite_ff ⟨H3, I3, q'⟩
 | true =>
  refine ite_tt (test_last (thn (hc pins s3 σ H3 _ I3 q3) fun w' s4 ⟨z', H4, I4, r4, q4⟩ => thn (ho' pins s4 σ H4 y z' u w' _ I4 r2 r4 q4) fun d' s5 ⟨z2, H5, I5, r5, k2, e2, q5⟩ => ?_))
  subst e2
  cases r5
  exact wpAny_truthy_bool ⟨H5, I5, q5⟩
def Xd (K : PySem.W.Frag) (x : V) (H : Hp) (k : Bool) : Prop :=
 match x with
 | .non => k = false
 | .bl b => k = b
 | .int i => k = (i != 0)
 | .str y => y.length ≤ sizeLine ∧ k = ((y.length : Int) != 0)
 | .byt y => y.size ≤ sizeLine ∧ k = ((y.size : Int) != 0)
 | .ref p => (∃ xs, SqL K H p xs ∧ k = !xs.isEmpty) ∨ (∃ xs, SqT K H p xs ∧ k = !xs.isEmpty) ∨ ∃ kvs, H p = some (.dK kvs) ∧ k = !kvs.isEmpty
 | _ => False
theorem Bm {κ : Type} {kvs : List (κ × V)} {vs : List (κ × Value)} (r : KV kvs vs) : (!vs.isEmpty) = !kvs.isEmpty := by
 cases r <;> rfl
theorem tG {xs : List V} {its : List Value} (r : Vals xs its) : (!its.toArray.isEmpty) = !xs.isEmpty := by
 cases r <;> simp
theorem mU : (sizeLine : Nat) < 2 ^ 63 := by rw [sizeLine_eq]; decide
theorem R6 : Xe X (fun x H Q => ∃ k, Xd X.K x H k ∧ Q k H) := by
 intro pins s σ H x v Q I rx h
 obtain ⟨k, e, q⟩ := h
 have hl := mU
 have hs : sizeLine = 16777216 := sizeLine_eq
 cases x with
 | non =>
  cases rx
  have e' : k = false := e
  subst e'
  exact truthy_none ⟨H, I, q⟩
 | bl b =>
  cases rx
  have e' : k = b := e
  subst e'
  exact wpAny_truthy_bool ⟨H, I, q⟩
 | int i =>
  obtain ⟨t, rfl⟩ := rx
  have e' : k = (i != 0) := e
  subst e'
  exact PySem.P.truthy_int ⟨H, I, q⟩
 | str y =>
  obtain ⟨t, rfl⟩ := rx
  obtain ⟨hy, e'⟩ : y.length ≤ sizeLine ∧ k = ((y.length : Int) != 0) := e
  subst e'
  exact PySem.P.truthy_str (by omega) ⟨H, I.tok _, q⟩
 | byt y =>
  obtain ⟨t, rfl⟩ := rx
  obtain ⟨hy, e'⟩ : y.size ≤ sizeLine ∧ k = ((y.size : Int) != 0) := e
  subst e'
  exact PySem.W.truthy_bytes (by omega) ⟨H, I.tok _, q⟩
 | ref p =>
  cases rx
  have e' : (∃ xs, SqL X.K H p xs ∧ k = !xs.isEmpty) ∨ (∃ xs, SqT X.K H p xs ∧ k = !xs.isEmpty) ∨ ∃ kvs, H p = some (.dK kvs) ∧ k = !kvs.isEmpty := e
  rcases e' with ⟨xs, hx, e'⟩ | ⟨xs, hx, e'⟩ | ⟨kvs, hx, e'⟩
  ·subst e'
   obtain ⟨its, r, pl, hz⟩ := I.list hx
   have hlen := r.length
   exact wpAny_truthy_list pl.isList (by simp only [List.size_toArray]; omega) ⟨H, I.tok _, by rw [tG r]; exact q⟩
  ·subst e'
   obtain ⟨its, r, pl, hz⟩ := I.tuple hx
   have hlen := r.length
   exact truthy_tuple pl (by simp only [List.size_toArray]; omega) ⟨H, I.tok _, by rw [tG r]; exact q⟩
  ·subst e'
   obtain ⟨hz, hS, vs, r, m⟩ : kvs.length ≤ sizeLine ∧ (p == sysModules) = false ∧ ∃ vs, KV kvs vs ∧ s.heap.DictOf (dh X.prog X.w) p vs := I.hok p _ hx
   have hlen : kvs.length = vs.length := Paired.length r
   exact wpAny_truthy_dict hS m (by omega) ⟨H, I.tok _, by rw [Bm r]; exact q⟩
 | _ => exact (show False from e).elim
theorem Ax : OpR X (binaryOp .Add) (fun x y H Q => ∃ i j, x = .str i ∧ y = .str j ∧ i.length + j.length ≤ sizeLine ∧ Q (.str (i ++ j)) H) := by
 intro pins s σ H x y v u Q I rx ry h
 obtain ⟨i, j, rfl, rfl, hz, q⟩ := h
 obtain ⟨t, rfl⟩ := rx
 obtain ⟨t', rfl⟩ := ry
 exact add_str (fun t' tk => ⟨.str (i ++ j), H, I.tok _, ⟨_, rfl⟩, q⟩) hz
theorem vals1 {x : V} {us : List Value} (r : Vals [x] us) : ∃ u, us = [u] ∧ RelV x u := by
 cases r with
 | cons r1 r2 => cases r2; exact ⟨_, rfl, r1⟩
theorem vals2 {x y : V} {us : List Value} (r : Vals [x, y] us) : ∃ u w', us = [u, w'] ∧ RelV x u ∧ RelV y w' := by
 cases r with
 | cons r1 r2 =>
  cases r2 with
  | cons r3 r4 => cases r4; exact ⟨_, _, rfl, r1, r3⟩
theorem zu : cO X (.builtin "abs") (fun xs H Q => ∃ i, xs = [.int i] ∧ Q (.int (if i < 0 then -i else i)) H) := by
 intro pins s σ H xs us Q I r h
 obtain ⟨i, rfl, q⟩ := h
 obtain ⟨u, rfl, t, rfl⟩ := vals1 r
 exact call_abs_int fun u tk => ⟨.int (if i < 0 then -i else i), H, I.tok _, ⟨_, rfl⟩, q⟩
theorem Gr (hc : X.calm = true) : cO X (.builtin "max") (fun xs H Q => ∃ i j, xs = [.int i, .int j] ∧ Q (.int (if j > i then j else i)) H) := by
 intro pins s σ H xs us Q I r h
 obtain ⟨i, j, rfl, q⟩ := h
 obtain ⟨u, w', rfl, ⟨t, rfl⟩, ⟨t', rfl⟩⟩ := vals2 r
 refine max_two_ints (I.ok.hd hc) fun h' tk k => ⟨_, H, I.kept k, ?_, q⟩
 by_cases hj : j > i
 ·rw [if_pos hj, if_pos hj]; exact ⟨_, rfl⟩
 ·rw [if_neg hj, if_neg hj]; exact ⟨_, rfl⟩
theorem Gp (hc : X.calm = true) : cO X (.builtin "min") (fun xs H Q => ∃ i j, xs = [.int i, .int j] ∧ Q (.int (if j < i then j else i)) H) := by
 intro pins s σ H xs us Q I r h
 obtain ⟨i, j, rfl, q⟩ := h
 obtain ⟨u, w', rfl, ⟨t, rfl⟩, ⟨t', rfl⟩⟩ := vals2 r
 refine min_two_ints (I.ok.hd hc) fun h' tk k => ⟨_, H, I.kept k, ?_, q⟩
 by_cases hj : j < i
 ·rw [if_pos hj, if_pos hj]; exact ⟨_, rfl⟩
 ·rw [if_neg hj, if_neg hj]; exact ⟨_, rfl⟩
theorem vQ : cO X (.type "int") (fun xs H Q => (∃ i, xs = [.int i] ∧ Q (.int i) H) ∨ ∃ k, xs = [.bl k] ∧ Q (.int (if k then 1 else 0)) H) := by
 intro pins s σ H xs us Q I r h
 rcases h with ⟨i, rfl, q⟩ | ⟨k, rfl, q⟩
 ·obtain ⟨u, rfl, t, rfl⟩ := vals1 r
  exact call_int_int ⟨.int i, H, I, ⟨_, rfl⟩, q⟩
 ·obtain ⟨u, rfl, r1⟩ := vals1 r
  cases r1
  exact call_int_bool ⟨.int (if k then 1 else 0), H, I.tok _, ⟨_, rfl⟩, q⟩
theorem xJ : cO X (.type "str") (fun xs H Q => ∃ i, xs = [.int i] ∧ i.natAbs.log2 < 1920 ∧ Q (.str (toString i)) H) := by
 intro pins s σ H xs us Q I r h
 obtain ⟨i, rfl, hz, q⟩ := h
 obtain ⟨u, rfl, t, rfl⟩ := vals1 r
 exact PySem.P.str_of_int hz ⟨.str _, H, I.tok _, ⟨_, rfl⟩, q⟩
end
structure Vs (h : Heap) (x dx C : Addr) (mA : Str → Option Value) : Prop where
 obj : h.get? x = some (PySem.W.instObj C dx)
 ns : h.Ns1 dx mA
 ne : dx ≠ x
theorem Gb {h : Heap} {dx : Addr} {mA : Str → Option Value} (n : h.Ns1 dx mA) : ∃ od, h.get? dx = some od ∧ ∀ name, PySem.W.lookIn name od = some (mA name) := by
 obtain ⟨o, es, ep, ho, hd, hk, _, hm⟩ := n
 refine ⟨o, ho, fun name => ?_⟩
 have e := hm name
 unfold nsFind findBy at e
 rw [← Array.find?_toList] at e
 unfold PySem.W.lookIn
 rw [hd]
 dsimp only
 split
 ·rename_i y q
  rw [q] at e
  exact congrArg some e
 ·rename_i q
  rw [q] at e
  have a : es.toList.any (·.refKey) = false := by
   rw [List.any_eq_false]
   intro y hy
   obtain ⟨z, t, hkey⟩ := hk y (Array.mem_toList_iff.mp hy)
   simp [DictEntry.refKey, hkey]
  have a' : ¬ es.toList.any (·.refKey) = true := by rw [a]; exact Bool.false_ne_true
  rw [if_neg a']
  exact congrArg some e
theorem Vs.look {h : Heap} {x dx C : Addr} {mA : Str → Option Value} (I : Vs h x dx C mA) : ∃ od, PySem.W.InstAt h x (PySem.W.instObj C dx) C (some od) ∧ ∀ name, PySem.W.lookIn name od = some (mA name) :=
 let ⟨od, ho, hl⟩ := Gb I.ns
 ⟨od, ⟨I.obj, rfl, rfl, ho⟩, hl⟩
section
variable {prog : Program} {w : World} {A : Around} {E : Value → Shared → Prop} {s : Shared} {K : PySem.W.Frag} {x dx C f : Addr} {mA : Str → Option Value} {name : Str} {v : Value}
end
section
variable {P : Program} {w : World} {H H' : Hp} {h h' : Heap} {a C dx : Addr} {fs fs' : List (Str × V)}
theorem QX (hok : HOk P w H h) (e : H a = some (.ins C dx fs)) : ∃ mA, Vs h a dx C mA ∧ (∀ f, zH (fs.lookup f) (mA f)) ∧ PySem.Within mA (fs.map (·.1)) ∧ fs.length ≤ 1000 ∧ H dx = some (.own a) := by
 obtain ⟨d, z, ne, ob, mA, n, r, q⟩ := (show cj P w H h a (.ins C dx fs) from hok a _ e)
 exact ⟨mA, ⟨ob, n, ne⟩, r, q, z, d⟩
end
structure Cls (K : PySem.W.Frag) (C : Addr) : Prop where
 pg : PySem.W.plainGet K C Str.empty = true
 hd : PySem.W.hasDictIn K C = true
 po : PySem.W.plainOver K C = true
 sa : PySem.W.findIn K (.ref C) "__setattr__" = some (some (.builtin "object.__setattr__"))
theorem Cls.get {K : PySem.W.Frag} {C : Addr} (c : Cls K C) (f : Str) : PySem.W.plainGet K C f = true := c.pg
section
variable {X : Cx} {pins : List (Addr × Obj)} {σ : St} {H : Hp} {s : Shared} {a C dx : Addr} {fs : List (Str × V)} {f : Str} {v : V} {A : Around} {E : Value → Shared → Prop}
theorem Rp {prog : Program} {w : World} {env : Env} {e : Expr} {f : Str} {pos : Pos} {s : Shared} {Q : Value → Shared → Prop} (hb : attributeBase e f env (eval e env) = eval e env)
  (h : wpAny (model prog w) A (eval e env) (fun o s₁ => wpAny (model prog w) A (getAttr o f true) Q E s₁) E s) : wpAny (model prog w) A (eval (.Attribute e f pos) env) Q E s :=
 Attribute_any_ h (by rw [arm_eval_Attribute, hb])
end
section
variable {X : Cx} {o e value : Expr} {f : Str} {pos pos' tpos : Pos} {ta tv : TE}
end
section
variable {X : Cx} {pins : List (Addr × Obj)} {σ : St} {H : Hp} {s : Shared} {A : Around} {E : Value → Shared → Prop} {Q : Value → Shared → Prop} {c : Value} {b : Bool}
inductive lY (K : PySem.W.Frag) (H : Hp) : V → Value → Prop where
 | non : lY K H .non (.type "NoneType")
 | bl (x : Bool) : lY K H (.bl x) (.type "bool")
 | int (i : Int) : lY K H (.int i) (.type "int")
 | str (x : Str) : lY K H (.str x) (.type "str")
 | flt (x : UInt64) : lY K H (.flt x) (.type "float")
 | lst {a : Addr} {xs : List V} (e : H a = some (.lst xs)) : lY K H (.ref a) (.type "list")
 | frz {a : Addr} {o : Obj} {xs : List V} (e : H a = some (.frz o (.lst xs))) : lY K H (.ref a) (.type "list")
 | tup {a : Addr} {xs : List V} (e : H a = some (.tup xs)) : lY K H (.ref a) (.type "tuple")
 | dK {a : Addr} {kvs : List (Key × V)} (e : H a = some (.dK kvs)) : lY K H (.ref a) (.type "dict")
 | dT {a : Addr} {kvs : List (List Key × V)} (e : H a = some (.dT kvs)) : lY K H (.ref a) (.type "dict")
 | ins {a C dx : Addr} {fs : List (Str × V)} (e : H a = some (.ins C dx fs)) (cl : Cls K C) (ha : PySem.W.findIn K (.ref C) "__class__" = some (some (.builtin "object.__class__")))
   (hn : PySem.W.specialIn K (.builtin "object.__class__") "__get__" = some (some (.builtin "getset_descriptor.__get__"))) (htk : PySem.W.takesIn K (.builtin "object.__class__") = some true)
   (hm : PySem.W.mroIn K C (.type "object") = some true) : lY K H (.ref a) (.ref C)
theorem Gg {x : V} {u t : Value} (I : Inv X pins σ H s) (rx : RelV x u) (ty : lY X.K H x t) (e : PySem.W.kitOne X.K t c = some b) (h : ∀ tk, Q (.bool b) { s with toks := tk }) :
  wpAny (model X.prog X.w) A (call (.builtin "isinstance") [u, c]) Q E s := by
 cases ty with
 | non => cases (show u = Value.none from rx); exact PySem.W.kia_one PySem.W.kitx_none I.kIn True.intro e (fun z => nomatch z) h
 | bl y => cases (show u = Value.bool y from rx); exact PySem.W.kia_one PySem.W.kitx_bool I.kIn True.intro e (fun z => nomatch z) h
 | int i => obtain ⟨t, q⟩ := (show ∃ t, u = Value.int i t from rx); cases q; exact PySem.W.kia_one PySem.W.kitx_int I.kIn True.intro e (fun z => nomatch z) h
 | str y => obtain ⟨t, q⟩ := (show ∃ t, u = Value.str y t from rx); cases q; exact PySem.W.kia_one PySem.W.kitx_str I.kIn True.intro e (fun z => nomatch z) h
 | flt y => obtain ⟨t, q⟩ := (show ∃ t, u = Value.float y t from rx); cases q; exact PySem.W.kia_one PySem.W.kitx_float I.kIn True.intro e (fun z => nomatch z) h
 | @lst a xs ea =>
  cases (show u = Value.ref a from rx)
  obtain ⟨_, _, n, _, h1⟩ := (show cj X.prog X.w H s.heap a (.lst xs) from I.hok a _ ea)
  exact PySem.W.kia_one PySem.W.kitx_list I.kIn ⟨_, h1, rfl⟩ e (fun z => nomatch z) h
 | @frz a ob xs ea =>
  cases (show u = Value.ref a from rx)
  obtain ⟨_, _, _, n, _, h1⟩ := (show cj X.prog X.w H s.heap a (.frz ob (.lst xs)) from I.hok a _ ea)
  exact PySem.W.kia_one PySem.W.kitx_list I.kIn ⟨_, h1, rfl⟩ e (fun z => nomatch z) h
 | @tup a xs ea =>
  cases (show u = Value.ref a from rx)
  obtain ⟨_, _, _, p⟩ := (show cj X.prog X.w H s.heap a (.tup xs) from I.hok a _ ea)
  obtain ⟨o, h1, h2, _⟩ := p
  exact PySem.W.kia_one PySem.W.kitx_tuple I.kIn ⟨o, h1, h2⟩ e (fun z => nomatch z) h
 | @dK a kvs ea =>
  cases (show u = Value.ref a from rx)
  obtain ⟨_, _, vs, _, p⟩ := (show cj X.prog X.w H s.heap a (.dK kvs) from I.hok a _ ea)
  obtain ⟨o, es, ep, h1, h2, _⟩ := p
  exact PySem.W.kia_one PySem.W.kitx_dict I.kIn ⟨o, h1, h2.1⟩ e (fun z => nomatch z) h
 | @dT a kvs ea =>
  cases (show u = Value.ref a from rx)
  obtain ⟨_, _, xs, _, o, es, ep, h1, h2, _⟩ := (show cj X.prog X.w H s.heap a (.dT kvs) from I.hok a _ ea)
  exact PySem.W.kia_one PySem.W.kitx_dict I.kIn ⟨o, h1, h2.1⟩ e (fun z => nomatch z) h
 | @ins a C dx fs ea cl ha hn htk hm =>
  cases (show u = Value.ref a from rx)
  obtain ⟨mA, O, _⟩ := QX I.hok ea
  obtain ⟨od, J, _⟩ := O.look
  exact PySem.W.kia_one (PySem.W.kitx_own (cl.get _) cl.hd ha hn htk hm) I.kIn J e (fun z => nomatch z) h
end
structure fB (k : Nat) (A : Around) : Prop where
 hd : A.handled = none
 dp : A.depth + 3 * k + 5 < recursionLimit
 un : A.units + 16 * k + 200 < cLine
 gd : A.guards = some []
theorem fB.mono {j k : Nat} {A : Around} (r : fB k A) (h : j ≤ k) : fB j A := ⟨r.hd, by have := r.dp; omega, by have := r.un; omega, r.gd⟩
theorem fB.deeper {k : Nat} {A : Around} (r : fB (k + 1) A) (env : Env) : fB k (A.deeper env) :=
 ⟨r.hd, by have := r.dp; show A.depth + 1 + 3 * k + 5 < _; omega, by have := r.un; show A.units + 3 + 16 * k + 200 < _; omega, r.gd⟩
theorem Bl {A : Around} {C : Addr} {us : List Value} {kw : List (Str × Value)} : (A.under (.builtin "type.__call__" ⟨.ref C :: us, kw⟩)).depth = A.depth + 1 := by
 first | rfl | simp [Around.under, Code.weight, Code.isCreation, Code.isGuard, Code.isCaller, Code.frames, Code.isFrame, guardIds]
theorem Bk {A : Around} {C : Addr} {us : List Value} {kw : List (Str × Value)} : (A.under (.builtin "type.__call__" ⟨.ref C :: us, kw⟩)).units = A.units + 1 := by
 first | rfl | simp [Around.under, Code.cUnits, Code.frames, Code.isFrame]
theorem fB.make {k : Nat} {A : Around} (r : fB (k + 1) A) (C : Addr) (us : List Value) (kw : List (Str × Value)) : fB k (A.under (.builtin "type.__call__" ⟨.ref C :: us, kw⟩)) :=
 ⟨r.hd, by have := r.dp; rw [Bl]; omega, by have := r.un; rw [Bk]; omega, by have := r.gd; first | exact this | simpa [Around.under, Code.guards, Code.isGuard, pushGuards, guardIds] using this⟩
theorem fB.depth {k : Nat} {A : Around} (r : fB k A) : A.depth < recursionLimit := by have := r.dp; omega
theorem fB.bA {k : Nat} {A : Around} (r : fB k A) : A.units < cLine := by have := r.un; omega
def Sq : TA := fun _ H Q => Q [] H
def Hz (ta : TE) (tr : TA) : TA := fun σ H Q => ta σ H fun x H1 => tr σ H1 fun xs H2 => Q (x :: xs) H2
section
variable {X : Cx} {e : Expr} {es : List Expr} {te : TE} {t : TA} {pos : Pos}
theorem Uk : PA X [] Sq := fun _ _ _ _ H Q I h => Calls.spliced_nil ⟨[], H, I, .nil, h⟩
theorem Pz (ha : PE X e te) (hr : PA X es t) (hs : starEach (e :: es) X.env = (false, eval e X.env) :: starEach es X.env := by rfl) : PA X (e :: es) (Hz te t) := by
 intro pos pins s σ H Q I h
 rw [hs]
 show wpAny _ _ (spliced ((false, eval e X.env) :: backTo pos (starEach es X.env))) _ _ s
 refine Calls.spliced_cons (thE (ha pins s σ H _ I h) fun u s1 x H1 I1 r1 q1 => ?_)
 exact thA (hr pos pins s1 σ H1 _ I1 q1) fun us s2 xs H2 I2 r2 q2 => ⟨x :: xs, H2, I2, .cons r1 r2, q2⟩
def R7 (t : TA) : TE := fun σ H Q => t σ H fun xs H1 => xs.length ≤ sizeLine ∧ ∀ p, H1 p = none → Q (.ref p) (upd H1 p (.tup xs))
def Ss (t : TA) : TE := fun σ H Q => t σ H fun xs H1 => xs.length ≤ sizeLine ∧ ∀ p, H1 p = none → Q (.ref p) (upd H1 p (.lst xs))
theorem T9 {x1} (h : PA X es t) : PE X (.Tuple es x1 pos) (R7 t) := by
 intro pins s σ H Q I hq
 refine wpAny_Tuple_spliced (thn (h pos pins s σ H _ I hq) fun us s1 ⟨xs, H1, I1, r, z, q⟩ => ⟨by rw [← r.length]; exact z, ?_⟩)
 have hf : H1 s1.heap.objs.size = none := I1.hok.fresh (Nat.le_refl _)
 refine ⟨.ref s1.heap.objs.size, upd H1 s1.heap.objs.size (.tup xs), I1.laid (t' := s1.toks) (fun b u e => Heap.get?_push_of_some _ e) (Nat.le_refl _) ?_, rfl, q _ hf⟩
 exact ⟨z, us, r, ⟨_, Heap.get?_push_size _ rfl, rfl, _, rfl⟩⟩
theorem Ue (h : PA X es t) : PE X (.List es pos) (Ss t) := by
 intro pins s σ H Q I hq
 refine wpAny_List_spliced (thn (h pos pins s σ H _ I hq) fun us s1 ⟨xs, H1, I1, r, z, q⟩ => ⟨by rw [← r.length]; exact z, ?_⟩)
 have hf : H1 s1.heap.objs.size = none := I1.hok.fresh (Nat.le_refl _)
 refine ⟨.ref s1.heap.objs.size, upd H1 s1.heap.objs.size (.lst xs), I1.laid (t' := s1.toks) (fun b u e => Heap.get?_push_of_some _ e) (Nat.le_refl _) ?_, rfl, q _ hf⟩
 exact ⟨z, us, 0, r, Heap.get?_push_size _ rfl⟩
end
abbrev Sp := List V → Hp → VK → XK → Prop
abbrev CXT := List Env → Hp → Shared → XK → Value → Shared → Prop
structure Ce (P : Program) (w : World) (K : PySem.W.Frag) (mg : Str → Option Value) (base : Heap) (A : Around) (outer : List Env) (s : Shared) (H : Hp) : Prop where
 frames : A.frames = some outer
 mod : Mod K mg base
 bs : ∀ b o, base.get? b = some o → s.heap.get? b = some o ∧ H b = none
 bsz : base.objs.size ≤ s.heap.objs.size
 lG : s.heap.FunFrames base outer
 frf : ∀ b ∈ frs outer, H b = none
 hok : HOk P w H s.heap
 bare : AllBare s.gens
def CE (outer : List Env) (P : Program) (w : World) (H : Hp) (s : Shared) (Q : VK) (u : Value) (s' : Shared) : Prop :=
 ∃ v H', s'.os = s.os ∧ AllBare s'.gens ∧ Un (frs outer) [] H H' s.heap s'.heap ∧ HOk P w H' s'.heap ∧ RelV v u ∧ Q v H'
def CR (CX : CXT) (outer : List Env) (P : Program) (w : World) (H : Hp) (s : Shared) (Q : VK) (E : XK) (r : Result) (s' : Shared) : Prop :=
 match r with
 | .ok (.ret u) => CE outer P w H s Q u s'
 | .ok _ => False
 | .error e => CX outer H s E e s'
structure dH (P : Program) (w : World) (K : PySem.W.Frag) (mg : Str → Option Value) (base : Heap) (CX : CXT) (k : Nat) (f : Addr) (fd : FuncData) (ps : List Str) (sp : Sp) : Prop where
 len : ∀ vs H Q E, sp vs H Q E → vs.length = ps.length
 run : ∀ (A : Around) (outer : List Env) (s : Shared) (H : Hp) (args : Args) (us : List Value) (vs : List V) (Q : VK) (E : XK), fB k A → Ce P w K mg base A outer s H → BindsTo s fd args (ps.zip us) → Vals vs us → sp vs H Q E →
  codeAny (model P w) A (.call (.ref f) args) (CR CX outer P w H s Q E) s
theorem Ce.make {P : Program} {w : World} {K : PySem.W.Frag} {mg : Str → Option Value} {base : Heap} {A : Around} {outer : List Env} {s : Shared} {H : Hp} (e : Ce P w K mg base A outer s H) (C : Addr) (us : List Value) (kw : List (Str × Value)) :
  Ce P w K mg base (A.under (.builtin "type.__call__" ⟨.ref C :: us, kw⟩)) outer s H := ⟨by first | exact e.frames | (simpa [Around.under, Code.envs, Code.isFrame, pushEnvs] using e.frames), e.mod, e.bs, e.bsz, e.lG, e.frf, e.hok, e.bare⟩
section
variable {X : Cx} {pins : List (Addr × Obj)} {σ : St} {H : Hp} {s s' : Shared}
theorem Inv.env0 (I : Inv X pins σ H s) : Ce X.prog X.w X.K X.mg X.base X.A X.stack s H :=
 ⟨I.ok.frames, I.ok.mod, I.bs, Nat.le_trans I.ok.bsz I.sz, I.stack, I.qP, I.hok, I.bare⟩
theorem Inv.after {Q : VK} {u : Value} (I : Inv X pins σ H s) (h : CE X.stack X.prog X.w H s Q u s') : EP X pins σ Q u s' := by
 obtain ⟨v, H', os, bare, un, hok, r, q⟩ := h
 obtain ⟨hh, g, d, t, os'⟩ := s'
 obtain rfl : os' = s.os := os
 exact ⟨v, H', I.call (h' := hh) (g' := g) (d' := d) (t' := t) (ch := []) un hok bare (fun b z => absurd z (by simp)), r, q⟩
end
def rK (sp : Sp) (dvs : List V) (E : XK) (t : TA) : TE := fun σ H Q => t σ H fun vs H1 => sp (vs ++ dvs) H1 Q E
def Binds (K : PySem.W.Frag) (fd : FuncData) (ps : List Str) (ds : List Value) : Prop :=
 ∀ (s : Shared) (us : List Value), K.In s.heap → (us ++ ds).length = ps.length → BindsTo s fd ⟨us, []⟩ (ps.zip (us ++ ds))
theorem Binds.all {K : PySem.W.Frag} {fd : FuncData} {ps : List Str} (h : ∀ us : List Value, us.length = ps.length → bindArgs fd ⟨us, []⟩ = pure (ps.zip us)) : Binds K fd ps [] := fun s us _ hl => by
 rw [List.append_nil] at hl ⊢
 exact .of_eq (h us hl)
def m5 (CX : CXT) (X : Cx) (E : XK) : Prop := ∀ (pins : List (Addr × Obj)) (σ : St) (H : Hp) (s : Shared) (e : Value) (s' : Shared), Inv X pins σ H s → CX X.stack H s E e s' → X.xe e s'
section
variable {X : Cx} {CX : CXT} {k : Nat} {f C : Addr} {fd : FuncData} {ps : List Str} {sp : Sp} {dvs : List V} {ds : List Value} {E : XK} {x m : Str} {p pos apos : Pos} {e o : Expr} {es : List Expr} {ta : TE} {t : TA}
theorem SQ {pins : List (Addr × Obj)} {σ : St} {H : Hp} {s : Shared} {Q : VK} {us : List Value} {vs : List V} (F : dH X.prog X.w X.K X.mg X.base CX k f fd ps sp) (hr : fB k X.A) (hb : Binds X.K fd ps ds) (hd : Vals dvs ds) (hx : m5 CX X E)
  (I : Inv X pins σ H s) (r : Vals vs us) (h : sp (vs ++ dvs) H Q E) : wpAny (model X.prog X.w) X.A (call (.ref f) us) (EP X pins σ Q) X.xe s := by
 have r2 : Vals (vs ++ dvs) (us ++ ds) := r.append hd
 have hl : (us ++ ds).length = ps.length := by rw [← r2.length]; exact F.len _ _ _ _ h
 refine wpAny_call (codeAny_mono (F.run X.A X.stack s H ⟨us, []⟩ (us ++ ds) (vs ++ dvs) Q E hr I.env0 (hb s us I.kIn hl) r2 h) fun r s' hq => ?_)
 cases r with
 | error e => exact hx pins σ H s e s' I hq
 | ok fl =>
  cases fl with
  | ret u => exact I.after hq
  | next => exact False.elim hq
  | brk => exact False.elim hq
  | cont => exact False.elim hq
theorem CV (F : dH X.prog X.w X.K X.mg X.base CX k f fd ps sp) (hr : fB k X.A) (hg : Gl X x) (hm : X.mg x = some (.ref f)) (hk : PySem.W.keepIn X.K (.ref f) = true) (hb : Binds X.K fd ps ds) (hd : Vals dvs ds) (hx : m5 CX X E)
  (ha : PA X (e :: es) t) (hdb : (x == ("__debug__" : Str)) = false := by decide) (he : starEach (e :: es) X.env = (false, eval e X.env) :: starEach es X.env := by rfl) (hpl : (backTo pos (starEach es X.env)).any (·.1) = false := by rfl) :
  PE X (.Call (.Name x p) (e :: es) [] pos) (rK sp dvs E t) := by
 intro pins s σ H Q I h
 refine wpAny_Call_Name_kw (qZ I hg hm ?_ hdb)
 refine PySem.W.callWith_K (h₀ := X.base) I.ok.mod.kin hk (thA (ha pos pins s σ H _ I h) fun us s1 vs H1 I1 r q => ⟨I1.kIn, ?_⟩) he hpl
 exact SQ F hr hb hd hx I1 r q
end
section
variable {X : Cx} {CX : CXT} {k : Nat} {f C : Addr} {fd : FuncData} {ps ks : List Str} {sp : Sp} {E : XK} {x m : Str} {p pos apos kpos : Pos} {e o : Expr} {es : List Expr} {kws : List Keyword} {te ta : TE} {t tk : TA} {nm : Option Str}
variable {g : List Value → List Value → List Value} {gV : List V → List V → List V}
end
structure bI (N P : List Str) (sc : Scope) : Prop where
 kind : sc.kind = .function
 co : sc.isCoroutine = false
 gen : sc.isGenerator = false
 nd : N.Nodup
 pre : N.take P.length = P
 par : ∀ x ∈ P, sc.names.lookup x = some .local ∨ sc.names.lookup x = some .cell
 nofree : ∀ y ∈ sc.names, y.2 ≠ .free
theorem vU {kindOf : Str → Option NameKind} {x : Str} : ∀ {binds : List (Str × Value)} {m : Str → Option Value}, (∀ v, (x, v) ∉ binds) → bindL kindOf binds m x = m x
 | [], _, _ => rfl
 | (n, v) :: r, m, h => by
  unfold bindL
  rw [vU fun w hw => h w (List.mem_cons_of_mem _ hw)]
  split
  ·have : x ≠ n := by rintro rfl; exact h v List.mem_cons_self
   simp [this]
  ·rfl
theorem vW {kindOf : Str → Option NameKind} {x : Str} : ∀ {binds : List (Str × Value)} {m : Str → Option Value}, (∀ v, (x, v) ∉ binds) → bindC kindOf binds m x = m x
 | [], _, _ => rfl
 | (n, v) :: r, m, h => by
  unfold bindC
  rw [vW fun w hw => h w (List.mem_cons_of_mem _ hw)]
  split
  ·rfl
  ·have : x ≠ n := by rintro rfl; exact h v List.mem_cons_self
   simp [this]
theorem vV {kindOf : Str → Option NameKind} {x : Str} {v : Value} : ∀ {P : List Str} {vs : List Value} {i : Nat} {m : Str → Option Value}, P.Nodup → P[i]? = some x → vs[i]? = some v → kindOf x = some .local →
  bindL kindOf (P.zip vs) m x = some v
 | [], _, _, _, _, h, _, _ => by simp at h
 | _ :: _, [], _, _, _, _, h, _ => by simp at h
 | p :: P, w :: vs, 0, m, nd, h1, h2, hk => by
  simp at h1 h2; subst h1; subst h2
  show bindL kindOf ((p, w) :: P.zip vs) m p = _
  unfold bindL
  rw [vU fun v hv => (List.nodup_cons.mp nd).1 (List.of_mem_zip hv).1, if_pos hk]
  simp
 | p :: P, w :: vs, i + 1, m, nd, h1, h2, hk => by
  show bindL kindOf ((p, w) :: P.zip vs) m x = _
  unfold bindL
  exact vV (i := i) (List.nodup_cons.mp nd).2 (by simpa using h1) (by simpa using h2) hk
theorem vX {kindOf : Str → Option NameKind} {x : Str} {v : Value} : ∀ {P : List Str} {vs : List Value} {i : Nat} {m : Str → Option Value}, P.Nodup → P[i]? = some x → vs[i]? = some v → kindOf x ≠ some .local →
  bindC kindOf (P.zip vs) m x = some v
 | [], _, _, _, _, h, _, _ => by simp at h
 | _ :: _, [], _, _, _, _, h, _ => by simp at h
 | p :: P, w :: vs, 0, m, nd, h1, h2, hk => by
  simp at h1 h2; subst h1; subst h2
  show bindC kindOf ((p, w) :: P.zip vs) m p = _
  unfold bindC
  rw [vW fun v hv => (List.nodup_cons.mp nd).1 (List.of_mem_zip hv).1, if_neg hk]
  simp
 | p :: P, w :: vs, i + 1, m, nd, h1, h2, hk => by
  show bindC kindOf ((p, w) :: P.zip vs) m x = _
  unfold bindC
  exact vX (i := i) (List.nodup_cons.mp nd).2 (by simpa using h1) (by simpa using h2) hk
def start (N : List Str) (vs : List V) : St := vs.map some ++ List.replicate (N.length - vs.length) none
def uM (CX : CXT) (P : Program) (w : World) (K : PySem.W.Frag) (mg : Str → Option Value) (base : Heap) (N : List Str) (qual : Str) (scope : Scope) (f : Addr) (cd : Value) (A : Around) (outer : List Env) (s : Shared) (H : Hp) (E : XK) : Cx where
 prog := P
 w := w
 K := K
 mg := mg
 base := base
 A := A.deeper (envOfC qual scope s.heap.objs.size f cd)
 N := N
 s₀ := s
 H₀ := H
 env := envOfC qual scope s.heap.objs.size f cd
 outer := outer
 stack := envOfC qual scope s.heap.objs.size f cd :: outer
 ex := []
 calm := true
 fn := fun _ => true
 pn := []
 xe := fun e s' => wpAny (model P w) (A.deeper (envOfC qual scope s.heap.objs.size f cd)) (leaving (envOfC qual scope s.heap.objs.size f cd) e) (fun _ s'' => CX outer H s E e s'') (fun e' s'' => CX outer H s E e' s'') s'
theorem zp {sc : Scope} {n : Nat} {x : Str} (h : sc.names.lookup x = some .cell) : ∃ c, (cellsFrom n sc.names []).lookup x = some c := by
 have q := PySem.W.cellsFrom_some sc.names n [] (.inl h)
 exact Option.isSome_iff_exists.mp q
theorem Gh {CX : CXT} {P : Program} {w : World} {K : PySem.W.Frag} {mg : Str → Option Value} {base : Heap} {N ps : List Str} {qual : Str} {scope : Scope} {f : Addr} {cd : Value} {A : Around} {outer : List Env} {s s1 : Shared} {H : Hp} {E : XK} {us : List Value} {vs : List V}
  (S : bI N ps scope) (hd : A.handled = none) (e0 : Ce P w K mg base A outer s H) (hl : vs.length = ps.length) (r : Vals vs us)
  (x : InCallC s s.heap.objs.size (bindL (envOfC qual scope s.heap.objs.size f cd).kindOf (ps.zip us) fun _ => none) (cellsFrom (s.heap.objs.size + 1) scope.names []) (bindC (envOfC qual scope s.heap.objs.size f cd).kindOf (ps.zip us) fun _ => none) s1) :
  Inv (uM CX P w K mg base N qual scope f cd A outer s H E) [] (start N vs) H s1 := by
 have hpl : ps.length ≤ N.length := by have := congrArg List.length S.pre; rw [List.length_take] at this; omega
 obtain ⟨h1, tk, rfl, hk⟩ := x.done
 have noA : ∀ b : Addr, b ∉ (uM CX P w K mg base N qual scope f cd A outer s H E).ex := fun b z => absurd (show b ∈ ([] : List Addr) from z) (by simp)
 refine ⟨⟨e0.mod, S.kind, rfl, rfl, Nat.le_refl _, fun y z c h1 h2 => ?_, fun y hy => ?_, fun y c _ h => ?_, fun _ => hd, Around.frames_deeper e0.frames, .inr ⟨rfl, rfl⟩, fun b z => absurd z (noA b), e0.bs, e0.bsz, fun b _ _ => noA b, fun b z => absurd z (noA b), e0.lG, e0.frf⟩,
  rfl, e0.bare, Un.kept hk, ⟨_, x.toInCall.ns, fun i y v h1 h2 h3 => ?_⟩, fun y c h => ⟨_, x.cell y c h⟩, e0.hok.fresh (Nat.le_refl _), fun y c h => ?_, fun p hp => absurd (show p ∈ ([] : List (Addr × Obj)) from hp) (by simp), e0.hok.kept hk, ?_⟩
 ·exact name_of_addr x.apart (PySem.mem_of_lookup h1) (PySem.mem_of_lookup h2)
 ·have hy : scope.names.lookup y = some .cell ∨ scope.names.lookup y = some .free := hy
  rcases hy with hy | hy
  ·exact zp hy
  ·exact absurd rfl (S.nofree _ (PySem.mem_of_lookup hy))
 ·exact Nat.le_of_lt (x.above y c (PySem.mem_of_lookup h))
 ·have hi : i < vs.length := by
   unfold start at h2
   by_cases hi : i < vs.length
   ·exact hi
   ·rw [List.getElem?_append_right (by simpa using hi)] at h2
    rw [List.getElem?_replicate] at h2
    split at h2 <;> cases h2
  have ha : vs[i]? = some v := by
   unfold start at h2
   rw [List.getElem?_append_left (by simpa using hi), List.getElem?_map] at h2
   cases e : vs[i]? with
   | none => rw [e] at h2; cases h2
   | some a => rw [e] at h2; cases h2; rfl
  obtain ⟨u, hu, rv⟩ := r.get ha
  have hp : ps[i]? = some y := by
   rw [← S.pre, List.getElem?_take_of_lt (by omega)]; exact h1
  have ndP : ps.Nodup := by rw [← S.pre]; exact S.nd.sublist (List.take_sublist _ _)
  refine ⟨u, rv, ?_⟩
  rcases S.par y (List.mem_of_getElem? hp) with k | k
  ·exact .inl ⟨k, vV ndP hp hu k⟩
  ·obtain ⟨c, e⟩ := zp (n := s.heap.objs.size + 1) k
   refine .inr ⟨.inl k, c, e, ?_⟩
   have q := x.cell y c e
   rw [vX ndP hp hu (by show scope.names.lookup y ≠ _; rw [k]; decide)] at q
   exact q
 ·exact e0.hok.fresh (Nat.le_of_lt (x.above y c (PySem.mem_of_lookup h)))
 ·unfold start
  show _ = N.length
  rw [List.length_append, List.length_map, List.length_replicate]
  omega
theorem RJ {CX : CXT} {P : Program} {w : World} {K : PySem.W.Frag} {mg : Str → Option Value} {base : Heap} {k : Nat} {f : Addr} {name qual : Str} {params : Arguments} {body : List Stmt} {scope : Scope} {dV kV doc pm cdv ct oc : Value} {an od : Option Addr}
  {osl : Array (Option Value)} {N ps : List Str} {sp : Sp} (lk : K.lookup f = some ⟨oc, od, .func (PySem.W.fnOf name qual params body scope dV kV doc pm an cdv ct), osl⟩) (hcd : PySem.W.codeIn K cdv qual = true) (S : bI N ps scope)
  (len : ∀ vs H Q E, sp vs H Q E → vs.length = ps.length)
  (hbody : ∀ (A : Around) (outer : List Env) (s : Shared) (H : Hp) (vs : List V) (Q : VK) (E : XK), fB k (A.deeper (envOfC qual scope s.heap.objs.size f cdv)) → sp vs H Q E →
   ∃ t, PSs (uM CX P w K mg base N qual scope f cdv A outer s H E) body t ∧ t { nx := fun _ H' => Q .non H', rt := Q } (start N vs) H) :
  dH P w K mg base CX (k + 1) f (PySem.W.fnOf name qual params body scope dV kV doc pm an cdv ct) ps sp := by
 refine ⟨len, fun A outer s H args us vs Q E hr e0 hb r hsp => ?_⟩
 have hl := len _ _ _ _ hsp
 have KX : K.In s.heap := e0.mod.kin.keeps fun b o e => (e0.bs b o e).1
 have lim : s.heap.NoLimit := e0.mod.nolimit.keeps fun b o e => (e0.bs b o e).1
 have hkind : ∀ y ∈ ps.zip us, scope.names.lookup y.1 = some .local ∨ (scope.names.lookup y.1 = some .cell ∧ ((cellsFrom (s.heap.objs.size + 1) scope.names []).lookup y.1).isSome = true) := fun ⟨n, v⟩ hy => by
  rcases S.par n (List.of_mem_zip hy).1 with q | q
  ·exact .inl q
  ·exact .inr ⟨q, PySem.W.cellsFrom_some _ _ _ (.inl q)⟩
 refine codeAny_call_function hr.depth (KX _ _ lk) rfl S.co S.gen rfl (PySem.W.codeRec_of KX hcd) (hb _ _ _ _ ?_)
 refine wpAny_newFunctionEnv_cells S.kind hkind fun env he s1 x => ?_
 subst he
 refine ⟨lim.keeps x.toInCall.keep, codeAny_func ?_⟩
 obtain ⟨t, ht, hq⟩ := hbody A outer s H vs Q E (hr.deeper _) hsp
 have I : Inv (uM CX P w K mg base N qual scope f cdv A outer s H E) [] (start N vs) H s1 := Gh S hr.hd e0 hl r x
 refine wpAny_mono (ht [] s1 (start N vs) H _ I hq) (fun fl s' hs => ?_) fun e s' hs => hs
 have fin : ∀ {σ' : St} {H' : Hp} {v : V} {u : Value}, Inv (uM CX P w K mg base N qual scope f cdv A outer s H E) [] σ' H' s' → RelV v u → Q v H' → CE outer P w H s Q u s' :=
  fun {σ' H' v u} J rv q => ⟨v, H', J.os, J.bare, J.base, J.hok, rv, q⟩
 cases fl with
 | ret u =>
  obtain ⟨v, σ', H', J, rv, q⟩ := hs
  exact fin J rv q
 | next =>
  obtain ⟨σ', H', J, q⟩ := hs
  exact fin (v := V.non) (u := Value.none) J rfl q
 | brk =>
  obtain ⟨_, _, _, q⟩ := hs
  exact False.elim q
 | cont =>
  obtain ⟨_, _, _, q⟩ := hs
  exact False.elim q
section
variable {X : Cx} {x : Str} {p pos : Pos} {e : Expr} {es : List Expr} {t : TA} {id T : String} {r : List V → Hp → VK → Prop}
def tCB (r : List V → Hp → VK → Prop) (t : TA) : TE := fun σ H Q => t σ H fun vs H1 => r vs H1 Q
theorem JR (hc : cO X (.builtin id) r) (hg : Gl X x) (hm : X.mg x = none) (hv : bootBuiltins x = some (.builtin id)) (ha : PA X (e :: es) t) (hn : x ≠ "__name__" := by decide) (hdb : (x == ("__debug__" : Str)) = false := by decide)
  (he : starEach (e :: es) X.env = (false, eval e X.env) :: starEach es X.env := by rfl) (hpl : (backTo pos (starEach es X.env)).any (·.1) = false := by rfl) : PE X (.Call (.Name x p) (e :: es) [] pos) (tCB r t) := by
 intro pins s σ H Q I h
 refine wpAny_Call_Name_kw (pL I hg hm hv ?_ hn hdb)
 exact PyProof.Rows.callWith_builtin1 (thA (ha pos pins s σ H _ I h) fun us s1 vs H1 I1 r1 q1 => hc pins s1 σ H1 vs us Q I1 r1 q1) he hpl
theorem Ft (hc : cO X (.type T) r) (hg : Gl X x) (hm : X.mg x = none) (hv : bootBuiltins x = some (.type T)) (ha : PA X (e :: es) t) (hn : x ≠ "__name__" := by decide) (hdb : (x == ("__debug__" : Str)) = false := by decide)
  (he : starEach (e :: es) X.env = (false, eval e X.env) :: starEach es X.env := by rfl) (hpl : (backTo pos (starEach es X.env)).any (·.1) = false := by rfl) : PE X (.Call (.Name x p) (e :: es) [] pos) (tCB r t) := by
 intro pins s σ H Q I h
 refine wpAny_Call_Name_kw (pL I hg hm hv ?_ hn hdb)
 exact PyProof.Rows.callWith_type1 (thA (ha pos pins s σ H _ I h) fun us s1 vs H1 I1 r1 q1 => hc pins s1 σ H1 vs us Q I1 r1 q1) he hpl
end
end L2
namespace HT
open PySem PyProof.Rows
section
open PySem.SeqAt
open PySem.AutoSeq1 (wpAny_loadPart')
open PySem.MeetsSeq PySem.MeetsSeq2 PySem.MeetsSeq3
end
section
variable {prog : Program} {w : World} {A : Around} {E : Value → Shared → Prop} {s : Shared}
theorem Ri {t b : Addr} {vs ws : List Value} {Q : Value → Shared → Prop} (ht : IsTup s.heap t vs.toArray) (hb : IsTup s.heap b ws.toArray) (hv : vs ≠ [])
  (h1 : ws = [] → Q (.ref t) s) (h2 : ws ≠ [] → Q (.ref s.heap.objs.size) { s with heap := s.heap.push { cls := .type "tuple", data := .seq (vs ++ ws).toArray } })
  (hsz : vs.length + ws.length ≤ sizeLine) : wpAny (model prog w) A (binaryOp .Add (.ref t) (.ref b)) Q E s := by
 obtain ⟨⟨cls, dd, data, sl⟩, ho, hc, n, hd⟩ := id ht
 obtain ⟨⟨cls2, dd2, data2, sl2⟩, ho2, hc2, n2, hd2⟩ := id hb
 simp only at hc hd hc2 hd2
 subst hc hd hc2 hd2
 have e : vs.toArray ++ ws.toArray = (vs ++ ws).toArray := by simp
 by_cases hw : ws = []
 ·exact concat_meets ⟨_, ho, rfl⟩ ⟨_, ho2, rfl⟩ noFill_tuple_add seq_tuple_add PySem.F.slot_tuple_add PySem.F.entry_tuple_add (PySem.F.args_tuple_add_2 _ _)
   (tuple_addW1 t b vs.toArray ws.toArray n n2 dd dd2 sl sl2 (by simpa using hv) (by simp [hw])) ⟨ho, ho2, h1 hw⟩
 ·refine concat_meets ⟨_, ho, rfl⟩ ⟨_, ho2, rfl⟩ noFill_tuple_add seq_tuple_add PySem.F.slot_tuple_add PySem.F.entry_tuple_add (PySem.F.args_tuple_add_2 _ _)
   (tuple_addW2 t b vs.toArray ws.toArray n n2 dd dd2 sl sl2 (by simpa using hv) (by simpa using hw) (by rw [List.size_toArray, List.size_toArray]; exact hsz)) ⟨ho, ho2, ?_⟩
  rw [e]
  exact h2 hw
def sIx (n d : Nat) : Option Int → Nat
 | none => d
 | some v => if v < 0 then (v + (n : Int)).toNat else min v.toNat n
theorem SN (n d : Nat) (hd : d ≤ n) (o : Option Int) : sIx n d o ≤ n := by
 cases o with
 | none => exact hd
 | some v =>
  show (if v < 0 then (v + (n : Int)).toNat else min v.toNat n) ≤ n
  by_cases hv : v < 0
  ·rw [if_pos hv]; omega
  ·rw [if_neg hv]; exact Nat.min_le_right _ _
theorem Ea (v : Int) (n d : Nat) : (if v < 0 then max (v + (n : Int)) 0 else min v (n : Int)) = ((sIx n d (some v) : Nat) : Int) := by
 show (if v < 0 then max (v + (n : Int)) 0 else min v (n : Int)) = (((if v < 0 then (v + (n : Int)).toNat else min v.toNat n) : Nat) : Int)
 by_cases hv : v < 0
 ·simp only [if_pos hv]; omega
 ·simp only [if_neg hv]; omega
theorem Cd (lo hi : Option Int) (n : Nat) : Builtin.Slice.sliceAdjust lo hi 1 (n : Int) = (((sIx n 0 lo : Nat) : Int), ((sIx n n hi : Nat) : Int)) := by
 have h1 : ¬ ((1 : Int) < 0) := by omega
 unfold Builtin.Slice.sliceAdjust
 simp only [h1, if_false]
 refine Prod.ext ?_ ?_
 ·cases lo with
  | none => rfl
  | some v => exact Ea v n 0
 ·cases hi with
  | none => rfl
  | some v => exact Ea v n n
theorem Av (i j : Nat) : Builtin.Slice.slicePlaces (i : Int) (j : Int) 1 = j - i := by
 unfold Builtin.Slice.slicePlaces
 have h1 : (1 : Int) > 0 := by omega
 simp only [h1, if_true, Int.ediv_one]
 split <;> omega
theorem rP {v : Value} {o : Option Int} {Q : Option Int → Shared → Prop} (p : IsPart v o) (h : Q o s) : wpAny (model prog w) A (Builtin.Slice.slicePartIndex v) Q E s := by
 cases p with
 | none => exact slicePart_none h
 | int i t => exact slicePart_int h
theorem oW {sl : Addr} {vl vu : Value} {lo hi : Option Int} {n : Nat} {Q : Int × Int × Nat → Shared → Prop} (hs : s.heap.IsSliceOf sl vl vu .none) (pl : IsPart vl lo) (pu : IsPart vu hi)
  (h : Q (((sIx n 0 lo : Nat) : Int), 1, sIx n n hi - sIx n 0 lo) s) : wpAny (model prog w) A (Builtin.Slice.sliceApplied (.ref sl) (pure (n : Int))) Q E s := by
 obtain ⟨os, hos, hcs, hds⟩ := id hs
 unfold Builtin.Slice.sliceApplied Builtin.Slice.sliceFields
 refine wpAny_bind (wpAny_bind (wpAny_field hos hds (x := vl) rfl (wpAny_bind (wpAny_field hos hds (x := vu) rfl (wpAny_bind (wpAny_field hos hds (x := .none) rfl (wpAny_pure ?_)))))))
 refine wpAny_bind (slicePart_none ?_)
 show wpAny _ _ (if ((1 : Int) == 0) = true then _ else _) _ _ s
 rw [if_neg (by decide)]
 refine wpAny_bind (rP pl (wpAny_bind (rP pu (wpAny_bind (wpAny_pure ?_)))))
 show wpAny _ _ (match Builtin.Slice.sliceAdjust lo hi 1 (n : Int) with | (lo, hi) => pure (lo, (1 : Int), Builtin.Slice.slicePlaces lo hi 1)) _ _ s
 rw [Cd lo hi n]
 show wpAny _ _ (pure (((sIx n 0 lo : Nat) : Int), (1 : Int), Builtin.Slice.slicePlaces ((sIx n 0 lo : Nat) : Int) ((sIx n n hi : Nat) : Int) 1)) _ _ s
 rw [Av]
 exact wpAny_pure h
theorem JF (xs : Array Value) (i k : Nat) : ((List.range k).filterMap fun (m : Nat) => xs[((i : Int) + (m : Int) * 1).toNat]?).toArray = ((xs.toList.drop i).take k).toArray := by
 have e : (fun (m : Nat) => xs[((i : Int) + (m : Int) * 1).toNat]?) = fun m => xs[i + m]? := by
  funext m
  have : ((i : Int) + (m : Int) * 1).toNat = i + m := by omega
  rw [this]
 rw [e]
 have := pick_run xs i k
 rw [List.filterMap_map] at this
 have e2 : ((fun x => xs[x]?) ∘ fun x => i + x) = fun m => xs[i + m]? := rfl
 rw [e2] at this
 rw [this]
theorem oh {t sl : Addr} {items : Array Value} {vl vu : Value} {lo hi : Option Int} {Q : Value → Shared → Prop} (ht : IsTup s.heap t items) (hs : s.heap.IsSliceOf sl vl vu .none) (pl : IsPart vl lo) (pu : IsPart vu hi)
  (hw : ¬ (sIx items.size 0 lo = 0 ∧ sIx items.size items.size hi = items.size))
  (h : Q (.ref s.heap.objs.size) { s with heap := s.heap.push { cls := .type "tuple", data := .seq ((items.toList.drop (sIx items.size 0 lo)).take (sIx items.size items.size hi - sIx items.size 0 lo)).toArray } })
  (hsz : items.size ≤ sizeLine) : wpAny (model prog w) A (getItem (.ref t) (.ref sl)) Q E s := by
 have htake : sizeOk (.seq ((items.toList.drop (sIx items.size 0 lo)).take (sIx items.size items.size hi - sIx items.size 0 lo)).toArray) := by
  show ((items.toList.drop (sIx items.size 0 lo)).take (sIx items.size items.size hi - sIx items.size 0 lo)).toArray.size ≤ sizeLine
  rw [List.size_toArray, List.length_take, List.length_drop, Array.length_toList]
  omega
 have hj : sIx items.size items.size hi ≤ items.size := SN _ _ (Nat.le_refl _) hi
 obtain ⟨os, hos, hcs, hds⟩ := id hs
 have hTs : s.TypeIs (.ref sl) "slice" := ⟨os, hos, hcs⟩
 unfold getItem
 try with_reducible refine wpAny_holding ?_
 first | refine wpAny_bind (wpAny_pure ?_) | skip
 refine wpAny_bind (wpAny_sequenceKey ht.typeIs (by decide) ?_)
 refine wpAny_bind (wpAny_callSpecial?_slot (name := Str.ofString "__getitem__") ht.typeIs PyProof.Rows.slot_tuple_getitem
  (wpAny_call_entry PyProof.Rows.slot_tuple_getitem ht.typeIs entry_tuple_getitem ?_ (args_tuple_getitem _ _)))
 show wpAny _ _ (Builtin.Tuple.tupleItemsOf (.ref t) >>= _) _ _ s
 refine wpAny_bind (tupleItemsOf_ ht ?_)
 refine wpAny_bind (wpAny_typeOf hTs ?_)
 rw [if_pos (by decide)]
 refine wpAny_bind (oW hs pl pu ?_)
 have hno : ¬ ((((sIx items.size 0 lo : Nat) : Int) == 0 && (1 : Int) == 1 && (sIx items.size items.size hi - sIx items.size 0 lo) == items.size) = true) := by
  intro q
  rw [Bool.and_eq_true, Bool.and_eq_true] at q
  have q1 : ((sIx items.size 0 lo : Nat) : Int) = 0 := eq_of_beq q.1.1
  have q2 : sIx items.size items.size hi - sIx items.size 0 lo = items.size := eq_of_beq q.2
  exact hw ⟨by omega, by omega⟩
 show wpAny _ _ (if (((sIx items.size 0 lo : Nat) : Int) == 0 && (1 : Int) == 1 && (sIx items.size items.size hi - sIx items.size 0 lo) == items.size) = true then _ else _) _ _ s
 rw [if_neg hno, JF]
 first
  | exact wpAny_bind (m := Builtin.Tuple.tupleExact _) (wpAny_newObj_type (wpAny_pure ⟨_, rfl, wpAny_pure h⟩) htake)
  | exact wpAny_bind (m := Builtin.Tuple.tupleExact _) (wpAny_newObj_type (wpAny_bind (wpAny_pure (wpAny_pure ⟨_, rfl, wpAny_pure h⟩))) htake)
  | exact wpAny_bind (wpAny_bind (m := Builtin.Tuple.tupleExact _) (wpAny_newObj_type (wpAny_pure (wpAny_pure ⟨_, rfl, wpAny_pure h⟩)) htake))
  | exact wpAny_bind (wpAny_bind (m := Builtin.Tuple.tupleExact _) (wpAny_newObj_type (wpAny_pure ⟨_, rfl, wpAny_pure h⟩) htake))
end
end HT
namespace L2
open PySem PySem.Spec PyProof.Rows
abbrev TO := St → Hp → (Option Int → Hp → Prop) → Prop
def PO (X : Cx) (e : Option Expr) (t : TO) : Prop :=
 ∀ (pins : List (Addr × Obj)) (s : Shared) (σ : St) (H : Hp) (Q : Option Int → Hp → Prop), Inv X pins σ H s → t σ H Q →
  wpAny (model X.prog X.w) X.A (evalPart e X.env) (fun u s' => ∃ o H', Inv X pins σ H' s' ∧ IsPart u o ∧ Q o H') X.xe s
def v5 : TO := fun _ H Q => Q none H
def Hs (t : TE) : TO := fun σ H Q => t σ H fun x H1 => ∃ i, x = .int i ∧ Q (some i) H1
section
variable {X : Cx} {e : Expr} {te : TE} {lo hi : Option Expr} {tl th : TO} {pos p2 : Pos}
theorem O8 : PO X none v5 := by
 intro pins s σ H Q I h
 rw [evalPart_none]
 exact wpAny_pure ⟨none, H, I, .none, h⟩
theorem O7 (h : PE X e te) : PO X (some e) (Hs te) := by
 intro pins s σ H Q I hw
 rw [evalPart_some]
 refine thE (h pins s σ H _ I hw) fun u s1 x H1 I1 r1 q1 => ?_
 obtain ⟨i, rfl, q⟩ := q1
 obtain ⟨t, rfl⟩ := r1
 exact ⟨some i, H1, I1, .int i t, q⟩
def SlR (X : Cx) (r : V → Option Int → Option Int → Hp → VK → Prop) : Prop :=
 ∀ (pins : List (Addr × Obj)) (s : Shared) (σ : St) (H : Hp) (x : V) (v vl vu : Value) (lo hi : Option Int) (sl : Addr) (Q : VK), Inv X pins σ H s → RelV x v → s.heap.IsSliceOf sl vl vu .none → IsPart vl lo → IsPart vu hi → r x lo hi H Q →
  ∃ T id, typeLookup (.type T) "__getitem__" = pure (some (.builtin id)) ∧ s.TypeIs v T ∧ wpAny (model X.prog X.w) X.A (getItem v (.ref sl)) (EP X pins σ Q) X.xe s
def tSl (r : V → Option Int → Option Int → Hp → VK → Prop) (te : TE) (tl th : TO) : TE := fun σ H Q => te σ H fun x H1 => tl σ H1 fun l H2 => th σ H2 fun u H3 => r x l u H3 Q
theorem JL {r : V → Option Int → Option Int → Hp → VK → Prop} (hr : SlR X r) (he : PE X e te) (hl : PO X lo tl) (hu : PO X hi th) : PE X (.Subscript e (.Slice lo hi none p2) pos) (tSl r te tl th) := by
 intro pins s σ H Q I h
 refine Subscript_ (thE (he pins s σ H _ I h) fun v s1 x H1 I1 r1 q1 => ?_)
 refine wpAny_Slice (thn (hl pins s1 σ H1 _ I1 q1) fun vl s2 ⟨l, H2, I2, pl, q2⟩ => thn (hu pins s2 σ H2 _ I2 q2) fun vu s3 ⟨u, H3, I3, pu, q3⟩ => ?_)
 rw [evalPart_none]
 refine wpAny_pure ?_
 have I4 : Inv X pins σ H3 { s3 with heap := s3.heap.push { cls := .type "slice", data := .fields #[vl, vu, .none] } } := I3.kept (t' := s3.toks) fun b ob q => Heap.get?_push_of_some _ q
 obtain ⟨T, id, hT, ht, hg⟩ := hr pins { s3 with heap := s3.heap.push { cls := .type "slice", data := .fields #[vl, vu, .none] } } σ H3 x v vl vu l u s3.heap.objs.size Q I4 r1 (Heap.IsSliceOf.new ..) pl pu q3
 show wpAny (model X.prog X.w) X.A (subscriptTail e (.Slice lo hi none p2) v (.ref s3.heap.objs.size)) (EP X pins σ Q) X.xe { s3 with heap := s3.heap.push { cls := .type "slice", data := .fields #[vl, vu, .none] } }
 exact tail_any (ops := [.ref s3.heap.objs.size, v]) ht hT hg (by with_unfolding_all rfl)
def jy (xs : List V) (lo hi : Option Int) : List V := (xs.drop (HT.sIx xs.length 0 lo)).take (HT.sIx xs.length xs.length hi - HT.sIx xs.length 0 lo)
theorem qw (xs : List V) (lo hi : Option Int) : (jy xs lo hi).length ≤ xs.length := by
 unfold jy
 rw [List.length_take, List.length_drop]
 omega
def WD (K : PySem.W.Frag) : V → Option Int → Option Int → Hp → VK → Prop := fun x lo hi H Q => ∃ a xs, x = .ref a ∧ SqT K H a xs ∧
 ¬ (HT.sIx xs.length 0 lo = 0 ∧ HT.sIx xs.length xs.length hi = xs.length) ∧ ∀ p, H p = none → Q (.ref p) (upd H p (.tup (jy xs lo hi)))
theorem SM : SlR X (WD X.K) := by
 intro pins s σ H x v vl vu lo hi sl Q I rx hs pl pu h
 obtain ⟨a, xs, rfl, hx, hw, q⟩ := h
 cases rx
 obtain ⟨its, r, ht, hz⟩ := I.tuple hx
 have hlen : its.toArray.size = xs.length := by rw [List.size_toArray]; exact r.length.symm
 refine ⟨"tuple", _, PyProof.Rows.slot_tuple_getitem.lookup, ht.typeIs, ?_⟩
 refine HT.oh ht hs pl pu (by rw [hlen]; exact hw) ?_ (by rw [hlen]; exact hz)
 rw [hlen]
 refine ⟨.ref s.heap.objs.size, _, I.laid (t' := s.toks) (o := .tup (jy xs lo hi)) (fun b ob q => Heap.get?_push_of_some _ q) (Nat.le_refl _) ?_, rfl, q _ (I.hok.fresh (Nat.le_refl _))⟩
 exact ⟨Nat.le_trans (qw xs lo hi) hz, _, (r.drop (HT.sIx xs.length 0 lo)).take (HT.sIx xs.length xs.length hi - HT.sIx xs.length 0 lo), IsTup.new _ _⟩
def VN (K : PySem.W.Frag) : R2 := fun x y H Q => ∃ a b xs ys, x = .ref a ∧ y = .ref b ∧ SqT K H a xs ∧ SqT K H b ys ∧ xs ≠ [] ∧ xs.length + ys.length ≤ sizeLine ∧
 (ys = [] → Q (.ref a) H) ∧ (ys ≠ [] → ∀ p, H p = none → Q (.ref p) (upd H p (.tup (xs ++ ys))))
theorem Vals.wV {xs : List V} {us : List Value} (r : Vals xs us) : us = [] ↔ xs = [] := by
 cases r with
 | nil => simp
 | cons _ _ => simp
theorem PL : OpR X (binaryOp .Add) (VN X.K) := by
 intro pins s σ H x y v u Q I rx ry h
 obtain ⟨a, b, xs, ys, rfl, rfl, ha, hb, hx, hz, q1, q2⟩ := h
 cases rx
 cases ry
 obtain ⟨its, r1, p1, _⟩ := I.tuple ha
 obtain ⟨its2, r2, p2, _⟩ := I.tuple hb
 refine HT.Ri p1 p2 (fun z => hx (r1.wV.mp z)) (fun z => ⟨.ref a, H, I, rfl, q1 (r2.wV.mp z)⟩) (fun z => ?_) (by rw [← r1.length, ← r2.length]; exact hz)
 refine ⟨.ref s.heap.objs.size, _, I.laid (t' := s.toks) (o := .tup (xs ++ ys)) (fun b ob q => Heap.get?_push_of_some _ q) (Nat.le_refl _) ?_, rfl, q2 (fun w => z (r2.wV.mpr w)) _ (I.hok.fresh (Nat.le_refl _))⟩
 exact ⟨by rw [List.length_append]; exact hz, _, r1.append r2, IsTup.new _ _⟩
end
def ixN (n : Nat) (i : Int) : Option Nat := if 0 ≤ i then (if i < n then some i.toNat else none) else if -(n : Int) ≤ i then some (i + n).toNat else none
def atI {α : Type} (xs : List α) (i : Int) : Option α := (ixN xs.length i).bind fun j => xs[j]?
theorem Dq {n : Nat} {i : Int} {j : Nat} (h : ixN n i = some j) : seqIndex? i n = some j ∧ j < n ∧ -(n : Int) ≤ i ∧ i < n := by
 unfold ixN at h
 by_cases h0 : 0 ≤ i
 ·rw [if_pos h0] at h
  by_cases h1 : i < n
  ·rw [if_pos h1] at h
   have e : i.toNat = j := Option.some.inj h
   exact ⟨by rw [seqIndex_of h0 h1, e], by omega, by omega, h1⟩
  ·rw [if_neg h1] at h; cases h
 ·rw [if_neg h0] at h
  by_cases h1 : -(n : Int) ≤ i
  ·rw [if_pos h1] at h
   have e : (i + n).toNat = j := Option.some.inj h
   exact ⟨by rw [seqIndex_neg (by omega) h1, e], by omega, h1, by omega⟩
  ·rw [if_neg h1] at h; cases h
theorem xR {α : Type} {xs : List α} {i : Int} {v : α} (h : atI xs i = some v) : ∃ j, seqIndex? i xs.length = some j ∧ xs[j]? = some v ∧ j < xs.length ∧ -(xs.length : Int) ≤ i ∧ i < xs.length := by
 unfold atI at h
 cases e : ixN xs.length i with
 | none => rw [e] at h; cases h
 | some j =>
  rw [e] at h
  obtain ⟨h1, h2, h3, h4⟩ := Dq e
  exact ⟨j, h1, h, h2, h3, h4⟩
theorem cM {α : Type} {xs : List α} {j : Nat} {v : α} (h : xs[j]? = some v) : atI xs (j : Int) = some v := by
 have hj : j < xs.length := (List.getElem?_eq_some_iff.mp h).1
 have e : ixN xs.length (j : Int) = some j := by
  unfold ixN
  rw [if_pos (by omega), if_pos (by omega)]; simp
 unfold atI; rw [e]; exact h
def Eb (b : Expr) : Prop := ∀ o i, subscripted b false o i = operate [o, i] (getItem o i)
def IxR (X : Cx) (r : R2) : Prop :=
 ∀ (value slice : Expr) (pins : List (Addr × Obj)) (s : Shared) (σ : St) (H : Hp) (x y : V) (v u : Value) (Q : VK), Inv X pins σ H s → RelV x v → RelV y u → r x y H Q →
  subscripted slice false v u = operate [v, u] (getItem v u) → wpAny (model X.prog X.w) X.A (subscriptTail value slice v u) (EP X pins σ Q) X.xe s
def MtR (X : Cx) (id : String) (r : V → List V → Hp → VK → Prop) : Prop :=
 ∀ (pins : List (Addr × Obj)) (s : Shared) (σ : St) (H : Hp) (x : V) (xs : List V) (v : Value) (us : List Value) (Q : VK), Inv X pins σ H s → RelV x v → Vals xs us → r x xs H Q →
  wpAny (model X.prog X.w) X.A (call (.builtin id) (v :: us)) (EP X pins σ Q) X.xe s
section
variable {X : Cx} {a b : Expr} {ta tb : TE} {pos : Pos}
theorem V5 {r : R2} (hr : IxR X r) (ha : PE X a ta) (hb : PE X b tb) (hs : Eb b) : PE X (.Subscript a b pos) (tOp r ta tb) := by
 intro pins s σ H Q I h
 exact Subscript_ (Vn ha hb I h fun v u s2 x y H2 I2 rx ry q => hr a b pins s2 σ H2 x y v u Q I2 rx ry q (hs _ _))
def VG (K : PySem.W.Frag) : R2 := fun x y H Q => ∃ p xs i v, x = .ref p ∧ y = .int i ∧ SqL K H p xs ∧ atI xs i = some v ∧ Q v H
def WM (K : PySem.W.Frag) : R2 := fun x y H Q => ∃ p xs i v, x = .ref p ∧ y = .int i ∧ SqT K H p xs ∧ atI xs i = some v ∧ Q v H
def WN : R2 := fun x y H Q => ∃ z i c, x = .str z ∧ y = .int i ∧ z.length ≤ sizeLine ∧ atI z.cps.toList i = some c ∧ Q (.str ⟨#[c]⟩) H
theorem Dp : IxR X (VG X.K) := by
 intro value slice pins s σ H x y v u Q I rx ry h hs
 obtain ⟨p, xs, i, z, rfl, rfl, hq, he, q⟩ := h
 cases rx
 obtain ⟨t, rfl⟩ := ry
 obtain ⟨its, r, pl, hz⟩ := I.list hq
 obtain ⟨j, h1, h2, h3, h4, h5⟩ := xR he
 obtain ⟨w, ew, rw'⟩ := r.get h2
 have hl := r.length
 have hn := mU
 have fin : EP X pins σ Q w s := ⟨z, H, I, rw', q⟩
 by_cases h0 : 0 ≤ i
 ·have hj : i.toNat = j := by
   rw [seqIndex_of h0 h5] at h1
   exact Option.some.inj h1
  exact item_listR pl.isList h0 (by omega) (by rw [hj]; simpa using ew) fin hs
 ·have hj : (i + (its.toArray.size : Int)).toNat = j := by
   rw [seqIndex_neg (by omega) h4] at h1
   rw [List.size_toArray, ← hl]
   exact Option.some.inj h1
  exact subscriptTail_builtinR (x := w) pl.isList.typeIs slot_list_getitem.lookup
   (wpAny_getItem_list_neg (Q := fun r s' => r = w ∧ EP X pins σ Q r s') pl.isList (by omega) (by rw [List.size_toArray] <;> omega) (by omega) (by rw [hj]; simpa using ew) ⟨rfl, fin⟩) hs
theorem U6 : IxR X (WM X.K) := by
 intro value slice pins s σ H x y v u Q I rx ry h hs
 obtain ⟨p, xs, i, z, rfl, rfl, hq, he, q⟩ := h
 cases rx
 obtain ⟨t, rfl⟩ := ry
 obtain ⟨its, r, pl, hz⟩ := I.tuple hq
 obtain ⟨j, h1, h2, h3, h4, h5⟩ := xR he
 obtain ⟨w, ew, rw'⟩ := r.get h2
 have hl := r.length
 have hn := mU
 have fin : EP X pins σ Q w s := ⟨z, H, I, rw', q⟩
 exact subscriptTail_builtinR (x := w) pl.typeIs slot_tuple_getitem.lookup
  (getItem_tuple (j := j) (Q := fun r s' => r = w ∧ EP X pins σ Q r s') pl (by omega) (by omega) (by rw [List.size_toArray, ← hl]; exact h1) (by simpa using ew) ⟨rfl, fin⟩) hs
theorem U7 : IxR X WN := by
 intro value slice pins s σ H x y v u Q I rx ry h hs
 obtain ⟨z, i, c, rfl, rfl, hz, he, q⟩ := h
 obtain ⟨t, rfl⟩ := rx
 obtain ⟨t', rfl⟩ := ry
 obtain ⟨j, h1, h2, h3, h4, h5⟩ := xR he
 have hl : z.cps.toList.length = z.length := by simp [Str.length]
 rw [hl] at h1 h4 h5
 have hn := mU
 exact tail_any (typeIs_str s z t) slot_str_getitem.lookup (getItem_str (c := c) (by
  have e1 : decide (i < -(2 ^ 63 : Int)) = false := decide_eq_false (by omega)
  have e2 : decide (i ≥ 2 ^ 63) = false := decide_eq_false (by omega)
  rw [e1, e2, Bool.or_false]) (by rw [h1]; simpa using h2) ⟨.str ⟨#[c]⟩, H, I.tok _, ⟨_, rfl⟩, q⟩) hs
theorem Bj (its : List Value) (n j : Nat) (u : Value) : Obj.mapSeq (·.setIfInBounds j u) { cls := .type "list", data := .seq its.toArray n } = { cls := .type "list", data := .seq (its.set j u).toArray n } := by
 simp [Obj.mapSeq]
theorem Inv.lst {pins : List (Addr × Obj)} {σ : St} {H : Hp} {s : Shared} {p : Addr} {xs : List V} (I : Inv X pins σ H s) (h : H p = some (.lst xs)) :
  ∃ (its : List Value) (n : Nat), Vals xs its ∧ s.heap.get? p = some { cls := .type "list", data := .seq its.toArray n } ∧ xs.length ≤ sizeLine := by
 obtain ⟨z, its, n, r, e⟩ := I.hok p _ h
 exact ⟨its, n, r, e, z⟩
theorem Inv.UG {pins : List (Addr × Obj)} {σ : St} {H : Hp} {s : Shared} {p : Addr} {xs ys : List V} {its its' : List Value} {n n' : Nat} {f : Obj → Obj} (I : Inv X pins σ H s) (h : H p = some (.lst xs))
  (ho : s.heap.get? p = some { cls := .type "list", data := .seq its.toArray n }) (hf : f { cls := .type "list", data := .seq its.toArray n } = { cls := .type "list", data := .seq its'.toArray n' }) (r : Vals ys its') (hz : ys.length ≤ sizeLine) (t : Nat) :
  Inv X pins σ (upd H p (.lst ys)) { s with heap := s.heap.update p f, toks := t } := by
 have e : (s.heap.update p f).get? p = some { cls := .type "list", data := .seq its'.toArray n' } := by
  rw [Heap.get?_update_self f ho (by rw [hf] <;> rfl), hf]
 refine I.write (x := p) (e := p) (by rw [h]; trivial) (.inl rfl) (fun b u hb q => (Heap.get?_update_other _ _ (Ne.symm hb)).trans q) ⟨_, e⟩ ?_
 exact ⟨hz, its', n', r, e⟩
def Rz : V → V → V → Hp → (Hp → Prop) → Prop := fun o i v H Q => ∃ p xs k j, o = .ref p ∧ i = .int k ∧ H p = some (.lst xs) ∧ ixN xs.length k = some j ∧ Q (upd H p (.lst (xs.set j v)))
theorem set_list : Rt X Rz := by
 intro pins s σ H o i v ov iv u Q I ro ri rv h
 obtain ⟨p, xs, k, j, rfl, rfl, hp, hj, q⟩ := h
 cases ro
 obtain ⟨t, rfl⟩ := ri
 obtain ⟨its, n, r, ho, hz⟩ := I.lst hp
 obtain ⟨h1, h2, h3, h4⟩ := Dq hj
 have hl := r.length
 have hn := mU
 have I' : Inv X pins σ (upd H p (.lst (xs.set j v))) { s with heap := s.heap.update p (Obj.mapSeq (·.setIfInBounds j u)) } :=
  I.UG hp ho (Bj its n j u) (r.set rv j) (by rw [List.length_set]; exact hz) s.toks
 by_cases h0 : 0 ≤ k
 ·have hk : k.toNat = j := by
   rw [seqIndex_of h0 h4] at h1
   exact Option.some.inj h1
  exact PySem.W.ki_setAt ho h0 (by omega) (by rw [List.size_toArray, ← hl]; exact h4) (by rw [hk]; exact ⟨_, I', q⟩)
 ·have hk : (k + (its.toArray.size : Int)).toNat = j := by
   rw [seqIndex_neg (by omega) h3] at h1
   rw [List.size_toArray, ← hl]
   exact Option.some.inj h1
  exact PySem.W.ki_setBack ho (by omega) (by rw [List.size_toArray, ← hl]; exact h3) (by omega) (by rw [hk]; exact ⟨_, I', q⟩)
theorem wz (lo hi : Option Int) (n : Nat) : (sliceBounds lo hi none n).1 = ((HT.sIx n 0 lo : Nat) : Int) ∧ (sliceBounds lo hi none n).2.1 = ((HT.sIx n n hi : Nat) : Int) ∧ (sliceBounds lo hi none n).2.2 = 1 := by
 refine ⟨?_, ?_, rfl⟩
 ·cases lo with
  | none => simp [sliceBounds, HT.sIx]
  | some i =>
   simp only [sliceBounds, HT.sIx, Option.getD_none, show (1 : Int) > 0 by decide, if_true]
   by_cases h : i < 0
   ·simp only [h, if_true] <;> omega
   ·simp only [h, if_false] <;> omega
 ·cases hi with
  | none => simp [sliceBounds, HT.sIx]
  | some i =>
   simp only [sliceBounds, HT.sIx, Option.getD_none, show (1 : Int) > 0 by decide, if_true]
   by_cases h : i < 0
   ·simp only [h, if_true] <;> omega
   ·simp only [h, if_false] <;> omega
theorem uq (its : List Value) (lo hi : Option Int) : slicePick its.toArray lo hi none = ((its.drop (HT.sIx its.length 0 lo)).take (HT.sIx its.length its.length hi - HT.sIx its.length 0 lo)).toArray := by
 obtain ⟨h1, h2, h3⟩ := wz lo hi its.toArray.size
 unfold slicePick
 rw [h1, h2, h3]
 simp only [sliceRange_one, pick_run, List.size_toArray] <;> rfl
def WK (K : PySem.W.Frag) : V → Option Int → Option Int → Hp → VK → Prop := fun x lo hi H Q => ∃ a xs, x = .ref a ∧ SqL K H a xs ∧ ∀ p, H p = none → Q (.ref p) (upd H p (.lst (jy xs lo hi)))
theorem MT : SlR X (WK X.K) := by
 intro pins s σ H x v vl vu lo hi sl Q I rx hs pl pu h
 obtain ⟨a, xs, rfl, hx, q⟩ := h
 cases rx
 obtain ⟨its, r, ht, hz⟩ := I.list hx
 have hlen := r.length
 refine ⟨"list", _, slot_list_getitem.lookup, ht.isList.typeIs, ?_⟩
 refine wpAny_getItem_list_slice ht.isList hs pl pu .none (by simp) ?_ (by rw [List.size_toArray] <;> omega)
 rw [uq, ← hlen]
 refine ⟨.ref s.heap.objs.size, _, I.laid (t' := s.toks) (o := .lst (jy xs lo hi)) (fun b ob q => Heap.get?_push_of_some _ q) (Nat.le_refl _) ?_, rfl, q _ (I.hok.fresh (Nat.le_refl _))⟩
 exact ⟨Nat.le_trans (qw xs lo hi) hz, _, 0, (r.drop (HT.sIx xs.length 0 lo)).take (HT.sIx xs.length xs.length hi - HT.sIx xs.length 0 lo), Heap.get?_push_size _ rfl⟩
def eZ : V → Bool
 | .non => true
 | .bl _ => true
 | .int _ => true
 | .str _ => true
 | _ => false
def eqV : V → V → Bool
 | .non, .non => true
 | .bl a, .bl b => a == b
 | .bl a, .int b => (if a then 1 else 0) == b
 | .int a, .bl b => a == (if b then 1 else 0)
 | .int a, .int b => a == b
 | .str a, .str b => a == b
 | _, _ => false
theorem Lb {A : Around} {s : Shared} {y x : V} {u v : Value} (ry : RelV y u) (rx : RelV x v) (fy : eZ y = true) (fx : eZ x = true) : SeqAt.EqAt A s u v (eqV y x) := by
 cases y with
 | non =>
  cases ry
  cases x with
  | non => cases rx; exact SeqAt.EqAt.same _
  | bl b => cases rx; exact SeqAt.EqAt.none_bool b
  | int b => obtain ⟨t, rfl⟩ := rx; exact SeqAt.EqAt.none_int b t
  | str b => obtain ⟨t, rfl⟩ := rx; exact SeqAt.EqAt.none_str b t
  | _ => exact absurd (show false = true from fx) Bool.false_ne_true
 | bl a =>
  cases ry
  cases x with
  | non => cases rx; exact SeqAt.EqAt.bool_none a
  | bl b => cases rx; exact SeqAt.EqAt.bool_bool a b
  | int b => obtain ⟨t, rfl⟩ := rx; exact SeqAt.EqAt.bool_int a b t
  | str b => obtain ⟨t, rfl⟩ := rx; exact SeqAt.EqAt.bool_str a b t
  | _ => exact absurd (show false = true from fx) Bool.false_ne_true
 | int a =>
  obtain ⟨t', rfl⟩ := ry
  cases x with
  | non => cases rx; exact SeqAt.EqAt.int_none a t'
  | bl b => cases rx; exact SeqAt.EqAt.int_bool a t' b
  | int b => obtain ⟨t, rfl⟩ := rx; exact SeqAt.EqAt.int_int a t' b t
  | str b => obtain ⟨t, rfl⟩ := rx; exact SeqAt.EqAt.int_str a t' b t
  | _ => exact absurd (show false = true from fx) Bool.false_ne_true
 | str a =>
  obtain ⟨t', rfl⟩ := ry
  cases x with
  | non => cases rx; exact SeqAt.EqAt.str_none a t'
  | bl b => cases rx; exact SeqAt.EqAt.str_bool a t' b
  | int b => obtain ⟨t, rfl⟩ := rx; exact SeqAt.EqAt.str_int a t' b t
  | str b => obtain ⟨t, rfl⟩ := rx; exact SeqAt.EqAt.str_str a t' b t
  | _ => exact absurd (show false = true from fx) Bool.false_ne_true
 | _ => exact absurd (show false = true from fy) Bool.false_ne_true
def eqU (x : V) (u : Value) : Bool := match u with
 | .none => eqV .non x
 | .bool b => eqV (.bl b) x
 | .int i _ => eqV (.int i) x
 | .str z _ => eqV (.str z) x
 | _ => false
theorem La {x y : V} {u : Value} (r : RelV y u) (f : eZ y = true) : eqU x u = eqV y x := by
 cases y with
 | non => cases r; rfl
 | bl b => cases r; rfl
 | int i => obtain ⟨t, rfl⟩ := r; rfl
 | str z => obtain ⟨t, rfl⟩ := r; rfl
 | _ => exact absurd (show false = true from f) Bool.false_ne_true
theorem xU {x : V} : ∀ {xs : List V} {us : List Value}, Vals xs us → xs.all eZ = true → us.any (eqU x) = xs.any fun y => eqV y x
 | _, _, .nil, _ => rfl
 | y :: xs, u :: us, .cons r t, f => by
  rw [List.all_cons, Bool.and_eq_true] at f
  rw [List.any_cons, List.any_cons, La r f.1, xU t f.2]
theorem tD {A : Around} {s : Shared} {x : V} {v : Value} (rx : RelV x v) (fx : eZ x = true) : ∀ {xs : List V} {us : List Value}, Vals xs us → xs.all eZ = true → ∀ u ∈ us, SeqAt.EqAt A s u v (eqU x u)
 | _, _, .nil, _ => fun u hu => by cases hu
 | y :: xs, u :: us, .cons r t, f => fun u' hu => by
  rw [List.all_cons, Bool.and_eq_true] at f
  rcases List.mem_cons.mp hu with rfl | hu
  ·rw [La r f.1]; exact Lb r rx f.1 fx
  ·exact tD rx fx t f.2 u' hu
def inV (x : V) (xs : List V) : Bool := xs.any fun y => eqV y x
def rIn (K : PySem.W.Frag) (neg : Bool) : R2 := fun x y H Q => ∃ p xs, y = .ref p ∧ (SqL K H p xs ∨ SqT K H p xs) ∧ eZ x = true ∧ xs.all eZ = true ∧ Q (.bl (if neg then !inV x xs else inV x xs)) H
theorem Fw : OpR X (compareOp .In) (rIn X.K false) := by
 intro pins s σ H x y v u Q I rx ry h
 obtain ⟨p, xs, rfl, hq, fx, fs, q⟩ := h
 cases ry
 rcases hq with hq | hq
 ·obtain ⟨its, r, pl, hz⟩ := I.list hq
  refine SeqAt.in_listAt (eqU x) pl.isList (fun w hw => tD rx fx r fs w (by simpa using hw)) ⟨.bl _, H, I, rfl, ?_⟩
  rw [show its.toArray.any (eqU x) = its.any (eqU x) by simp, xU r fs]
  exact q
 ·obtain ⟨its, r, pl, hz⟩ := I.tuple hq
  refine SeqAt.in_tupleAt (eqU x) pl (fun w hw => tD rx fx r fs w (by simpa using hw)) ⟨.bl _, H, I, rfl, ?_⟩
  rw [show its.toArray.any (eqU x) = its.any (eqU x) by simp, xU r fs]
  exact q
theorem iG : cO X (.builtin "len") (fun xs H Q => ∃ p ys, xs = [.ref p] ∧ (SqL X.K H p ys ∨ SqT X.K H p ys) ∧ Q (.int ys.length) H) := by
 intro pins s σ H xs us Q I r h
 obtain ⟨p, ys, rfl, hq, q⟩ := h
 obtain ⟨u, rfl, rx⟩ := vals1 r
 cases rx
 have hn := mU
 rcases hq with hq | hq
 ·obtain ⟨its, r', pl, hz⟩ := I.list hq
  have hlen := r'.length
  exact Calls.call_len_list pl.isList (by simp only [List.size_toArray] <;> omega) ⟨.int ys.length, H, I.tok _, ⟨s.toks + 1, by rw [List.size_toArray, hlen]⟩, q⟩
 ·obtain ⟨its, r', pl, hz⟩ := I.tuple hq
  have hlen := r'.length
  exact len_tuple pl (by simp only [List.size_toArray] <;> omega) ⟨.int ys.length, H, I.tok _, ⟨s.toks + 1, by rw [List.size_toArray, hlen]⟩, q⟩
theorem xK : cO X (.builtin "len") (fun xs H Q => ∃ z, xs = [.str z] ∧ z.length ≤ sizeLine ∧ Q (.int z.length) H) := by
 intro pins s σ H xs us Q I r h
 obtain ⟨z, rfl, hz, q⟩ := h
 obtain ⟨u, rfl, t, rfl⟩ := vals1 r
 have hn := mU
 exact len_str (by omega) ⟨.int z.length, H, I.tok _, ⟨_, rfl⟩, q⟩
theorem fL : cO X (.type "tuple") (fun xs H Q => ∃ p ys, xs = [.ref p] ∧ ((SqL X.K H p ys ∧ ∀ l, H l = none → Q (.ref l) (upd H l (.tup ys))) ∨ (SqT X.K H p ys ∧ Q (.ref p) H))) := by
 intro pins s σ H xs us Q I r h
 obtain ⟨p, ys, rfl, h⟩ := h
 obtain ⟨u, rfl, rx⟩ := vals1 r
 cases rx
 rcases h with ⟨hq, q⟩ | ⟨hq, q⟩
 ·obtain ⟨its, r', pl, hz⟩ := I.list hq
  have hlen := r'.length
  refine call_tuple_list pl.isList (fun h' kp => ?_) (by simp only [List.size_toArray] <;> omega)
  have I1 : Inv X pins σ H { s with heap := h' } := I.kept (t' := s.toks) kp
  have I2 : Inv X pins σ (upd H h'.objs.size (.tup ys)) { s with heap := h'.push { cls := .type "tuple", data := .seq its.toArray } } :=
   I1.laid (t' := s.toks) (fun b o e => Heap.get?_push_of_some _ e) (Nat.le_refl _) (show cj X.prog X.w _ _ _ (.tup ys) from ⟨hz, its, r', IsTup.new _ _⟩)
  exact ⟨.ref h'.objs.size, _, I2, rfl, q _ (I1.hok.fresh (Nat.le_refl _))⟩
 ·obtain ⟨its, r', pl, hz⟩ := I.tuple hq
  exact call_tuple_same pl ⟨.ref p, H, I, rfl, q⟩
def tyV (K : PySem.W.Frag) (T : String) (x : V) (H : Hp) : Prop := match x with
 | .str _ => T = "str"
 | .int _ => T = "int"
 | .ref p => (T = "list" ∧ ∃ xs, SqL K H p xs) ∨ (T = "tuple" ∧ ∃ o, K.lookup p = some o ∧ o.cls = .type "tuple" ∧ o.dict = none) ∨
   (T = "dict" ∧ ((∃ kvs, H p = some (.dK kvs)) ∨ ∃ kvs, H p = some (.dT kvs))) ∨ (T = "set" ∧ ∃ S n, H p = some (.set S n))
 | _ => False
theorem zL {pins : List (Addr × Obj)} {σ : St} {H : Hp} {s : Shared} {T : String} {x : V} {v : Value} (I : Inv X pins σ H s) (r : RelV x v) (ty : tyV X.K T x H) :
  s.TypeIs v T ∧ ∀ a, v = .ref a → ∃ ob, s.heap.get? a = some ob ∧ ob.dict = none := by
 cases x with
 | str z =>
  obtain ⟨t, rfl⟩ := r
  cases (show T = "str" from ty)
  exact ⟨typeIs_str s z t, fun _ e => nomatch e⟩
 | int i =>
  obtain ⟨t, rfl⟩ := r
  cases (show T = "int" from ty)
  exact ⟨typeIs_int s i t, fun _ e => nomatch e⟩
 | ref p =>
  cases r
  rcases ty with ⟨rfl, xs, hq⟩ | ⟨rfl, o, hk, hc, hd⟩ | ⟨rfl, hk⟩ | ⟨rfl, S, n, hk⟩
  ·obtain ⟨its, _, pl, _⟩ := I.list hq
   refine ⟨pl.isList.typeIs, fun a e => ?_⟩
   cases e
   obtain ⟨o, n, e, c, hd, _⟩ := pl
   exact ⟨o, e, hd⟩
  ·refine ⟨⟨o, I.kIn p o hk, hc⟩, fun a e => ?_⟩
   cases e
   exact ⟨o, I.kIn _ o hk, hd⟩
  ·have z : ∃ o, s.heap.get? p = some o ∧ o.ExactDict := by
    rcases hk with ⟨kvs, hk⟩ | ⟨kvs, hk⟩
    ·obtain ⟨_, _, _, _, o, _, _, e, ex, _⟩ := I.hok p _ hk
     exact ⟨o, e, ex⟩
    ·obtain ⟨_, _, _, _, o, _, _, e, ex, _⟩ := I.hok p _ hk
     exact ⟨o, e, ex⟩
   obtain ⟨o, e, ex⟩ := z
   refine ⟨⟨o, e, ex.1⟩, fun a e2 => ?_⟩
   cases e2
   exact ⟨o, e, ex.2.1⟩
  ·obtain ⟨o, _, _, _, e, ex, _⟩ := I.hok p _ hk
   refine ⟨⟨o, e, ex.1⟩, fun a e2 => ?_⟩
   cases e2
   exact ⟨o, e, ex.2.1⟩
 | _ => exact False.elim ty
def tBM (K : PySem.W.Frag) (T : String) (r : V → List V → Hp → VK → Prop) (to : TE) (t : TA) : TE := fun σ H Q => to σ H fun x H1 => tyV K T x H1 ∧ t σ H1 fun xs H2 => r x xs H2 Q
variable {o e : Expr} {es : List Expr} {to : TE} {t : TA} {name : Str} {apos cpos : Pos} {T id : String} {r : V → List V → Hp → VK → Prop}
theorem Wa (pa : PlainAttrs T) (slot : Slot T name id) (hty : typeOf (.builtin id) = pure (.type "method_descriptor")) (hm : MtR X id r) (ho : PE X o to) (ha : PA X (e :: es) t)
  (hbase : attributeBase o name X.env (eval o X.env) = eval o X.env := by rfl)
  (hfew : ((backTo cpos (starEach (e :: es) X.env)).all (fun x => !x.1) && (backToKw cpos (keywordEach [] X.env)).all (fun x => x.1.isSome)
   && decide ((e :: es).length + ([] : List Keyword).length + (if ([] : List Keyword).isEmpty then 0 else 1) < 30)) = true := by rfl)
  (hline : (apos.endLine == cpos.line) = true := by rfl) (hs : starEach (e :: es) X.env = (false, eval e X.env) :: starEach es X.env := by rfl) (hplain : (backTo cpos (starEach es X.env)).any (·.1) = false := by rfl) :
  PE X (.Call (.Attribute o name apos) (e :: es) [] cpos) (tBM X.K T r to t) := by
 intro pins s σ H Q I h
 refine wpAny_Call_method_late hbase hfew hline rfl (thn (ho pins s σ H _ I h) fun v s1 ⟨x, H1, I1, r1, ty, q1⟩ => ?_)
 obtain ⟨h1, h2⟩ := zL I1 r1 ty
 refine ⟨T, id, pa, slot, hty, h1, h2, ?_⟩
 have hA := ha cpos pins s1 σ H1 _ I1 q1
 rw [hs] at hA ⊢
 refine Calls.callWith_builtin (by show (false || (backTo cpos (starEach es X.env)).any (·.1)) = false; rw [hplain] <;> rfl) (Calls.evalArgs_plain ?_)
 exact thA hA fun us s2 vs H2 I2 r2 q2 => hm pins s2 σ H2 x vs v us Q I2 r1 r2 q2
end
def MtM (X : Cx) (id : String) (r : V → List V → Hp → VK → Prop) : Prop :=
 ∀ (pins : List (Addr × Obj)) (s : Shared) (σ : St) (H : Hp) (x : V) (xs : List V) (v : Value) (us : List Value) (Q : VK), Inv X pins σ H s → RelV x v → Vals xs us → r x xs H Q →
  wpAny (model X.prog X.w) X.A (call (.builtin id) (v :: us)) (EP X pins σ Q) X.xe s
theorem Vals.one : ∀ {x : V} {us : List Value}, Vals [x] us → ∃ u, us = [u] ∧ RelV x u := fun h => by
 cases h with
 | cons r h =>
  cases h
  exact ⟨_, rfl, r⟩
theorem Vals.two : ∀ {x y : V} {us : List Value}, Vals [x, y] us → ∃ u v, us = [u, v] ∧ RelV x u ∧ RelV y v := fun h => by
 cases h with
 | cons r h =>
  cases h with
  | cons q h =>
   cases h
   exact ⟨_, _, rfl, r, q⟩
theorem Vals.rep {xs : List V} {us : List Value} (h : Vals xs us) : ∀ k : Nat, Vals (List.replicate k xs).flatten (List.replicate k us).flatten
 | 0 => .nil
 | k + 1 => by
  rw [List.replicate_succ, List.replicate_succ, List.flatten_cons, List.flatten_cons]
  exact Vals.append h (Vals.rep h k)
theorem foldl_rep (its : List Value) : ∀ (k : Nat) (acc : List Value),
  List.foldl (fun x1 x2 => x1 ++ x2) acc.toArray (List.replicate k its.toArray) = (acc ++ (List.replicate k its).flatten).toArray
 | 0, acc => by simp
 | k + 1, acc => by
  have e : acc.toArray ++ its.toArray = (acc ++ its).toArray := by simp
  have e2 : (acc ++ its) ++ (List.replicate k its).flatten = acc ++ (List.replicate (k + 1) its).flatten := by
   rw [List.replicate_succ, List.flatten_cons, List.append_assoc]
  rw [← e2, ← foldl_rep its k (acc ++ its), ← e, List.replicate_succ, List.foldl_cons]
section
variable {X : Cx} {pins : List (Addr × Obj)} {σ : St} {H : Hp} {s : Shared} {l b : Addr} {xs ys zs : List V}
theorem Inv.W0 {its its' : List Value} {n : Nat} {f : Array Value → Array Value} {t' : Nat} (I : Inv X pins σ H s) (hH : H l = some (.lst xs))
  (e : s.heap.get? l = some { cls := .type "list", data := .seq its.toArray n }) (hf : f its.toArray = its'.toArray) (hv : Vals ys its') (hz : ys.length ≤ sizeLine) :
  Inv X pins σ (upd H l (.lst ys)) { s with heap := s.heap.update l (Obj.mapSeq f), toks := t' } := by
 have q := PySem.IsL.update e f
 rw [hf] at q
 refine I.write (x := l) (e := l) (by rw [hH]; exact trivial) (.inl rfl) (fun b' u hb hu => (Heap.get?_update_other s.heap (Obj.mapSeq f) (Ne.symm hb)).trans hu) ⟨_, q⟩ ?_
 exact ⟨hz, its', _, hv, q⟩
theorem Inv.Wl {its : List Value} {t' : Nat} (I : Inv X pins σ H s) (hv : Vals ys its) (hz : ys.length ≤ sizeLine) :
  Inv X pins σ (upd H s.heap.objs.size (.lst ys)) { s with heap := s.heap.push { cls := .type "list", data := .seq its.toArray }, toks := t' } :=
 I.laid (fun _ _ q => Heap.get?_push_of_some _ q) (Nat.le_refl _) ⟨hz, its, 0, hv, Heap.get?_push_size _ rfl⟩
theorem Inv.fresh (I : Inv X pins σ H s) : H s.heap.objs.size = none := I.hok.fresh (Nat.le_refl _)
theorem Inv.Qo (I : Inv X pins σ H s) (hH : H l = some (.lst xs)) : xs.length ≤ sizeLine ∧ ∃ (its : List Value) (n : Nat), Vals xs its ∧ xs.length = its.length ∧ s.heap.get? l = some { cls := .type "list", data := .seq its.toArray n } := by
 obtain ⟨z, its, n, r, e⟩ := I.hok l _ hH
 exact ⟨z, its, n, r, r.length, e⟩
theorem J4 {n : Nat} (h : n ≤ sizeLine) : Builtin.List.listTooLong n = false := by
 unfold Builtin.List.listTooLong
 exact decide_eq_false (by omega)
end
section
variable {X : Cx}
def Oe : V → List V → Hp → VK → Prop := fun x vs H Q => ∃ l xs y, x = .ref l ∧ vs = [y] ∧ H l = some (.lst xs) ∧ xs.length < sizeLine ∧ Q .non (upd H l (.lst (xs ++ [y])))
theorem Ga : MtM X "list.append" Oe := by
 intro pins s σ H x vs v us Q I rx rv h
 obtain ⟨l, xs, y, rfl, rfl, hH, hz, q⟩ := h
 cases rx
 obtain ⟨u, rfl, ru⟩ := rv.one
 obtain ⟨z, its, n, r, hl, e⟩ := I.Qo hH
 refine call_meets F.slot_list_append ⟨_, e, rfl⟩ F.entry_list_append (F.args_list_append_2 _ _) (PySem.list_append l its.toArray n u (by rw [List.size_toArray]; omega)) ⟨e, ?_⟩
 refine ⟨.non, _, I.W0 (its' := its ++ [u]) hH e (by simp) (r.append (.cons ru .nil)) ?_, rfl, q⟩
 rw [List.length_append, List.length_singleton]
 omega
def WT : R2 := fun x y H Q => ∃ l b xs zs, x = .ref l ∧ y = .ref b ∧ H l = some (.lst xs) ∧ H b = some (.lst zs) ∧ xs.length + zs.length ≤ sizeLine ∧ ∀ p, H p = none → Q (.ref p) (upd H p (.lst (xs ++ zs)))
theorem Ur : OpR X (binaryOp .Add) WT := by
 intro pins s σ H x y v u Q I rx ry h
 obtain ⟨l, b, xs, zs, rfl, rfl, hH, hB, hz, q⟩ := h
 cases rx
 cases ry
 obtain ⟨z, its, n, r, hl, e⟩ := I.Qo hH
 obtain ⟨z2, its2, n2, r2, hl2, e2⟩ := I.Qo hB
 refine PySem.P.add_list e e2 ?_ (by rw [List.size_toArray, List.size_toArray]; omega)
 have ea : its.toArray ++ its2.toArray = (its ++ its2).toArray := by simp
 rw [ea]
 exact ⟨.ref _, _, I.Wl (t' := s.toks) (r.append r2) (by rw [List.length_append]; omega), rfl, q _ I.fresh⟩
def WL : R2 := fun x y H Q => ∃ l k xs, x = .ref l ∧ y = .int k ∧ H l = some (.lst xs) ∧ -(2 ^ 63) ≤ k ∧ k < 2 ^ 63 ∧ xs.length * k.toNat ≤ sizeLine ∧
 ∀ p, H p = none → Q (.ref p) (upd H p (.lst (List.replicate k.toNat xs).flatten))
theorem len_rep {α : Type} (xs : List α) (k : Nat) : (List.replicate k xs).flatten.length = k * xs.length := by
 induction k with
 | zero => simp
 | succ k ih => rw [List.replicate_succ, List.flatten_cons, List.length_append, ih, Nat.succ_mul, Nat.add_comm]
theorem Ul : OpR X (binaryOp .Mult) WL := by
 intro pins s σ H x y v u Q I rx ry h
 obtain ⟨l, k, xs, rfl, rfl, hH, h1, h2, hz, q⟩ := h
 cases rx
 obtain ⟨t, rfl⟩ := ry
 obtain ⟨z, its, n, r, hl, e⟩ := I.Qo hH
 have hlen : its.toArray.size * k.toNat ≤ sizeLine := by rw [List.size_toArray, ← hl]; exact hz
 have hcap : ¬ its.toArray.size * k.toNat > (2 ^ 63 - 1) / 8 := by
  have : (sizeLine : Nat) ≤ (2 ^ 63 - 1) / 8 := by decide
  omega
 have hfit : ¬ (!Builtin.List.listFitsIndex k) = true := by
  rw [fitsIndex_both h1 h2]
  exact Bool.false_ne_true
 have hlong : ¬ Builtin.List.listTooLong (its.toArray.size * k.toNat) = true := by
  rw [J4 hlen]
  exact Bool.false_ne_true
 have hnew : List.foldl (fun x1 x2 => x1 ++ x2) #[] (List.replicate (if its.toArray.isEmpty = true then 0 else k.toNat) its.toArray) = (List.replicate k.toNat its).flatten.toArray := by
  have f0 : ∀ m : Nat, List.foldl (fun x1 x2 => x1 ++ x2) #[] (List.replicate m its.toArray) = (List.replicate m its).flatten.toArray := fun m => by
   have := foldl_rep its m []
   rw [List.nil_append] at this
   exact this
  rw [f0]
  cases its with
  | nil => simp
  | cons a r' => rw [if_neg (by simp)]
 refine wpAny_binaryOp_repeat_ref (T := "list") (U := "int") (by decide) ⟨_, e, rfl⟩ (fun s' => typeIs_int s' k t) noFill_list_mul F.fills_int_mul F.slot_int_rmul repeat_list F.slot_int_index.lookup
  (call_meets F.slot_int_rmul (typeIs_int s k t) F.entry_int_rmul (F.args_int_rmul_2 _ _) (int___rmul___int_list k t l its.toArray n)
   ⟨e, rfl, ⟨_, e, rfl⟩, call_meets F.slot_list_mul ⟨_, e, rfl⟩ F.entry_list_mul (F.args_list_mul_2 _ _) (AutoListH.list___mul___list_int_3 l its.toArray n k t hfit hcap hlong) ⟨e, ?_⟩⟩)
 rw [hnew]
 exact ⟨.ref _, _, I.Wl (t' := s.toks) (r.rep k.toNat) (by rw [len_rep, Nat.mul_comm]; exact hz), rfl, q _ I.fresh⟩
end
section
variable {prog : Program} {w : World} {A : Around} {E : Value → Shared → Prop} {s : Shared}
end
section
variable {X : Cx}
end
end L2
namespace Att
open PySem PySem.W PySem.Calls PyProof.Rows
theorem qG {P : Params} {h : Heap} : ∀ (ns : List Int) (vs : List Value), WellAll P h vs (ns.map WData.int) → IntsAre vs ns := by
 intro ns
 induction ns with
 | nil =>
  intro vs w
  rw [List.map_nil] at w
  cases w
  exact .nil
 | cons n ns ih =>
  intro vs w
  rw [List.map_cons] at w
  cases w with
  | cons a b =>
   cases a
   exact .cons _ _ (ih _ b)
theorem En {l : OpenLaw} {n : Nat} (hn : l.most = some n) {P : Params} {h : Heap} {args : List WData} {vals : List Value}
  (hpre : l.row.toRowW.claim.pre args = true) (hwl : WellAll P h vals args) :
  ∃ a vs ns, vals = [Value.ref a] ∧ args = [WData.list (ns.map WData.int)] ∧ h.get? a = some { cls := .type "list", data := .seq vs.toArray } ∧ IntsAre vs ns ∧ ns.length ≤ n := by
 have hsh : WShape.hasAll [] args [.list .int] = true := (pre_splitW hpre).1
 have hc : l.pre.holds [] { args := args } = true := (pre_splitW hpre).2
 obtain ⟨d, r, rfl, h1, h2⟩ := hasAllW_cons hsh
 obtain rfl := hasAllW_nil h2
 obtain ⟨xs, rfl, h3⟩ := hasW_list h1
 obtain ⟨ns, rfl⟩ := items_int h3
 have hlen : ns.length ≤ n := by
  unfold OpenLaw.pre at hc
  have h4 : (WTm.not (.lt (.lit (.int (n : Int))) (.len (.arg 0)))).holds [] { args := [.list (ns.map .int)] } = true := by
   have h4 := (holds_andW hc).1
   rw [hn] at h4
   exact h4
  have h5 := condW_of h4 (w_not (w_lt w_lit (w_len_list (w_arg rfl))))
  rw [List.length_map] at h5
  refine Nat.le_of_not_lt fun q => ?_
  have q' : (n : Int) < ((ns.length : Nat) : Int) := by omega
  first
   | (rw [decide_eq_true q'] at h5; exact absurd h5 (by decide))
   | (simp at h5; omega)
 cases hwl with
 | cons w1 w2 =>
  cases w2
  cases w1 with
  | list ho hall => exact ⟨_, _, ns, rfl, rfl, ho, qG ns _ hall, hlen⟩
theorem Fo (l : OpenLaw) (args : List WData) : l.row.toRowW.claim.post args (.bool true) args = true :=
 postW_of (r := l.row.toRowW) (X := (true == true))
  (show WShape.has [] (.bool true) .bool = true by first | rfl | decide | simp [WShape.has, WShape.arms, WShape.armsAll])
  (show (WTm.eq .res (.lit (.bool true))).value [] { args := args, res := some (.bool true), after := args } = some (.bool (true == true)) from w_eq_bool (w_res rfl) w_lit) rfl
theorem zG {l : OpenLaw} {n : Nat} {q : Program} {loose : List Str} {XP : (Str → Option Value) → Heap → Prop} {YP : World → Heap → Prop} {d : DefRec}
  (hn : l.most = some n) (hdf : d.params.defaults = [])
  (call : ∀ (w : World) (s₀ s₁ : Shared) (mg mb : Str → Option Value) (fa : Addr) (o : Obj) (pm cd doc : Value) (a : Addr) (vs : List Value) (ns : List Int),
   Ground q loose [] XP w s₀ mg mb s₁.heap → YP w s₁.heap →
   s₁.heap.get? fa = some o → o.data = .func (docDef d.name d.params d.body d.scope pm cd doc) → s₁.heap.CodeRec cd d.name → mg d.name = some (.ref fa) →
   s₁.heap.get? a = some { cls := .type "list", data := .seq vs.toArray } → IntsAre vs ns → ns.length ≤ n → s₁.gens = #[] →
   codeAny (model l.prog w) callerA (.call (.ref fa) ⟨[.ref a], []⟩) (fun r s' => r = .ok (.ret (.bool true)) ∧ OldK s₁.heap s'.heap ∧ s'.os = s₁.os ∧ AllBare s'.gens) s₁) :
  WalkO q loose XP YP l.row.toRowW d [] (fun f vs => PySem.call f vs) := by
 intro w s₀ s₁ mg mb G Y fa o pm cd doc dV kV ho hd hcd hD hmg hg args vals as hpre hlay hrd hwl hlo
 obtain rfl : dV = .none := Dflts.none hD hdf
 obtain rfl : kV = .none := Dflts.noKw hD
 obtain ⟨a, vs, ns, rfl, rfl, hobj, hints, hlen⟩ := En hn hpre hwl
 refine enter_call (codeAny_mono (call w s₀ s₁ mg mb fa o pm cd doc a vs ns G Y ho (fd_plain hd) hcd hmg hobj hints hlen hg) fun r s' hq => ?_)
 obtain ⟨rfl, h2, h3, h4⟩ := hq
 exact ⟨.inl ⟨.bool true, .bool true, [], rfl, fun _ => rfl, .bool true, Fo l _, fun _ => ⟨List.Pairwise.nil, fun _ hm => (nomatch hm)⟩⟩, h2, h3, h4⟩
section
variable {prog : Program} {w : World} {A : Around} {E : Value → Shared → Prop} {s : Shared} {K : Frag}
end
end Att
namespace L2
open PySem PySem.Spec PyProof.Rows
theorem uR : ∀ {vs : List Value} {ns : List Int}, IntsAre vs ns → Vals (ns.map V.int) vs
 | _, _, .nil => .nil
 | _, _, .cons n t h => .cons ⟨t, rfl⟩ (uR h)
def Only (H : Hp) : Prop := ∀ b, H b = none ∨ ∃ o xs, H b = some (.frz o (.lst xs))
theorem Kf {P : Program} {w : World} {K : PySem.W.Frag} {mg mb : Str → Option Value} {CX : CXT} {k : Nat} {fa a : Addr} {fd : FuncData} {x : Str} {sp : Sp} {s₁ : Shared} {vs : List Value} {ns : List Int}
  (KX : K.In s₁.heap) (hns : s₁.heap.Ns mainGlobals mg) (hb : s₁.heap.Ns builtinsNs mb) (hbb : ∀ x : Str, x ≠ "__name__" → mb x = bootBuiltins x) (hlim : s₁.heap.NoLimit) (hg : s₁.gens = #[])
  (ha : s₁.heap.get? a = some { cls := .type "list", data := .seq vs.toArray }) (hi : IntsAre vs ns) (hl : ns.length ≤ sizeLine) (hr : fB k callerA)
  (F : ∀ base : Heap, K.In base → base.Ns mainGlobals mg → dH P w K mg base CX k fa fd [x] sp) (hbind : ∀ (s : Shared) (u : Value), BindsTo s fd ⟨[u], []⟩ [(x, u)])
  (hsp : ∀ H : Hp, Only H → SqL K H a (ns.map V.int) → sp [.ref a] H (fun v _ => v = .bl true) fun _ _ _ => False)
  (hCX : ∀ H e s', CX [] H s₁ (fun _ _ _ => False) e s' → False) :
  codeAny (model P w) callerA (.call (.ref fa) ⟨[.ref a], []⟩) (fun r s' => r = .ok (.ret (.bool true)) ∧ OldK s₁.heap s'.heap ∧ s'.os = s₁.os ∧ AllBare s'.gens) s₁ := by
 have rv := uR hi
 have lenV := hi.length
 -- from an abstract heap in which nothing but the script may be tracked
 have core : ∀ H : Hp, Only H → SqL K H a (ns.map V.int) → HOk P w H s₁.heap → (∀ b, H b ≠ none → b = a) → (H a ≠ none → K.lookup a = none) →
   codeAny (model P w) callerA (.call (.ref fa) ⟨[.ref a], []⟩) (fun r s' => r = .ok (.ret (.bool true)) ∧ OldK s₁.heap s'.heap ∧ s'.os = s₁.os ∧ AllBare s'.gens) s₁ := by
  intro H hO hS hok hA hK
  have base_of : ∀ {b : Addr} {o : Obj}, s₁.heap.get? b = some o → H b = none → (wY s₁.heap H).get? b = some o := fun e n => KJ e n
  have noA : ∀ {b : Addr} {o : Obj} {es : Array DictEntry} {ep : Nat}, s₁.heap.get? b = some o → o.data = .dict es ep → H b = none := fun {b o es ep} e d => by
   cases q : H b with
   | none => rfl
   | some u =>
    have e' : b = a := hA b (by rw [q]; simp)
    subst e'
    rw [ha] at e; cases e
    have d' : Data.seq vs.toArray _ = Data.dict es ep := d
    cases d'
  have nsK : ∀ {b : Addr} {m : Str → Option Value}, s₁.heap.Ns b m → (wY s₁.heap H).Ns b m := fun {b m} ⟨o, es, ep, e, d, r⟩ => ⟨o, es, ep, base_of e (noA e d), d, r⟩
  have hKb : K.In (wY s₁.heap H) := fun b o e => base_of (KX b o e) (by
   cases q : H b with
   | none => rfl
   | some u =>
    have e' : b = a := hA b (by rw [q]; simp)
    subst e'
    rw [hK (by rw [q]; simp)] at e; cases e)
  have hM : Mod K mg (wY s₁.heap H) := ⟨hKb, nsK hns, ⟨mb, nsK hb, hbb⟩, let ⟨mc, h1, h2⟩ := hlim; ⟨mc, nsK h1, h2⟩⟩
  have e0 : Ce P w K mg (wY s₁.heap H) callerA [] s₁ H := ⟨rfl, hM, fun b o e => Qh e, Nat.le_of_eq (Gi _ _), trivial, fun b hb => absurd (show b ∈ ([] : List Addr) from hb) (by simp), hok, .of_eq hg⟩
  refine codeAny_mono ((F _ hKb (nsK hns)).run callerA [] s₁ H ⟨[.ref a], []⟩ [.ref a] [.ref a] _ _ hr e0 (hbind s₁ (.ref a)) (.cons rfl .nil) (hsp H hO hS)) fun r s' h => ?_
  cases r with
  | error e => exact (hCX H e s' h).elim
  | ok fl =>
   cases fl with
   | next => exact False.elim h
   | brk => exact False.elim h
   | cont => exact False.elim h
   | ret u =>
    obtain ⟨v, H', os, bare, un, hok', r', q⟩ := h
    have q' : v = .bl true := q
    subst q'
    obtain rfl : u = Value.bool true := r'
    refine ⟨rfl, OldK.of_keep fun b o e => ?_, os, bare⟩
    cases q : H b with
    | none => exact un.keep b o e q (by intro z; exact absurd (show b ∈ ([] : List Addr) from z) (by simp)) (by simp)
    | some u =>
     rcases hO b with z | ⟨ob, xs, z⟩
     ·rw [q] at z; cases z
     ·have z2 := un.frzs b ob _ z
      obtain ⟨e1, _⟩ := hok b _ z
      obtain ⟨e2, _⟩ := hok' b _ z2
      rw [e] at e1; cases e1
      exact e2
 cases hk : K.lookup a with
 | some o =>
  -- the script is one of the module's own objects
  have e := KX a o hk
  rw [ha] at e
  cases e
  refine core (fun _ => none) (fun _ => .inl rfl) (.inr ⟨_, vs.toArray, _, hk, rfl, rfl, rfl, by rw [List.size_toArray, lenV]; exact hl, by simpa using rv⟩) (fun b u z => by have z' : (none : Option HO) = some u := z; cases z') (fun b z => absurd rfl z) fun z => absurd rfl z
 | none =>
  refine core (fun b => if b = a then some (.frz { cls := .type "list", data := .seq vs.toArray } (.lst (ns.map V.int))) else none) (fun b => ?_) (.inl (.inr ⟨{ cls := .type "list", data := .seq vs.toArray }, if_pos rfl⟩)) (fun b u z => ?_) (fun b z => ?_) fun _ => hk
  ·by_cases hb : b = a
   ·exact .inr ⟨_, _, if_pos hb⟩
   ·exact .inl (if_neg hb)
  ·by_cases hb : b = a
   ·have z' := (if_pos hb).symm.trans z
    cases z'
    subst hb
    exact ⟨ha, by rw [List.length_map]; exact hl, vs, _, rv, ha⟩
   ·have z' := (if_neg hb).symm.trans z
    cases z'
  ·by_cases hb : b = a
   ·exact hb
   ·exact absurd (if_neg hb) z
theorem Mp {l : PySem.W.OpenLaw} {n k : Nat} {q : Program} {loose : List Str} {XP : (Str → Option Value) → Heap → Prop} {YP : World → Heap → Prop} {d : DefRec} {K : Params → PySem.W.Frag} {CX : World → CXT} {sp : World → Sp} {x : Str}
  (hn : l.most = some n) (hn2 : n ≤ sizeLine) (hdf : d.params.defaults = []) (hr : fB k callerA)
  (hY : ∀ (w : World) (h : Heap), YP w h → (K w.params).In h)
  (F : ∀ (w : World) (mg : Str → Option Value) (fa : Addr) (h : Heap), (K w.params).In h → h.Ns mainGlobals mg → mg d.name = some (.ref fa) →
   ∃ fd : FuncData, (∀ (s : Shared) (u : Value), BindsTo s fd ⟨[u], []⟩ [(x, u)]) ∧
    ∀ base : Heap, (K w.params).In base → base.Ns mainGlobals mg → dH l.prog w (K w.params) mg base (CX w) k fa fd [x] (sp w))
  (hsp : ∀ (w : World) (H : Hp) (a : Addr) (ns : List Int), ns.length ≤ n → Only H → SqL (K w.params) H a (ns.map V.int) → sp w [.ref a] H (fun v _ => v = .bl true) fun _ _ _ => False)
  (hCX : ∀ (w : World) (H : Hp) (s : Shared) (e : Value) (s' : Shared), CX w [] H s (fun _ _ _ => False) e s' → False) :
  PySem.W.WalkO q loose XP YP l.row.toRowW d [] (fun f vs => PySem.call f vs) := by
 refine Att.zG hn hdf fun w s₀ s₁ mg mb fa o pm cd doc a vs ns G Y ho hd hcd hmg hobj hints hlen hg => ?_
 have KX := hY w _ Y
 obtain ⟨fd, hb, hF⟩ := F w mg fa _ KX G.T.g hmg
 exact Kf KX G.T.g G.T.b G.T.builtins G.T.nolimit hg hobj hints (Nat.le_trans hlen hn2) hr hF hb (fun H hO hS => hsp w H a ns hlen hO hS) fun H e s' => hCX w H s₁ e s'
def inClass (s : Stmt) (j : Nat) : Stmt := match s with
 | .ClassDef _ _ _ body _ _ _ _ _ _ _ => body.getD j (.Pass ⟨0, 0, 0, 0⟩)
 | _ => .Pass ⟨0, 0, 0, 0⟩
def bH (s : Stmt) : Arguments := match s with
 | .FunctionDef _ a _ _ _ _ _ _ _ _ => a
 | _ => { posonlyargs := [], args := [], vararg := none, kwonlyargs := [], kw_defaults := [], kwarg := none, defaults := [] }
def bx (s : Stmt) : List Stmt := match s with
 | .FunctionDef _ _ b _ _ _ _ _ _ _ => b
 | _ => []
def ak (s : Stmt) : Scope := match s with
 | .FunctionDef _ _ _ _ _ _ sc _ _ _ => sc
 | _ => { kind := .function, names := [], isGenerator := false, isCoroutine := false }
abbrev CX0 : CXT := fun _ _ _ _ _ _ => False
abbrev E0 : XK := fun _ _ _ => False
theorem Wc {X : Cx} : m5 CX0 X E0 := fun _ _ _ _ _ _ _ h => h.elim
structure Fun (K : PySem.W.Frag) (x qual : Str) (st : Stmt) (f : Addr) (fd : FuncData) : Prop where
 ex : ∃ (oc : Value) (od : Option Addr) (kV doc pm : Value) (an : Option Addr) (cdv ct : Value) (osl : Array (Option Value)),
  fd = PySem.W.fnOf x qual (bH st) (bx st) (ak st) .none kV doc pm an cdv ct ∧ K.lookup f = some ⟨oc, od, .func fd, osl⟩ ∧ PySem.W.codeIn K cdv qual = true
 kp : PySem.W.keepIn K (.ref f) = true
section
variable {P : Program} {w : World} {K : PySem.W.Frag} {mg : Str → Option Value} {base : Heap}
theorem Fun.ok {x qual : Str} {st : Stmt} {f : Addr} {fd : FuncData} {N ps : List Str} {k : Nat} {sp : Sp} (F : Fun K x qual st f fd) (S : bI N ps (ak st)) (len : ∀ vs H Q E, sp vs H Q E → vs.length = ps.length)
  (hbody : ∀ (cdv : Value) (A : Around) (outer : List Env) (s : Shared) (H : Hp) (vs : List V) (Q : VK) (E : XK), fB k (A.deeper (envOfC qual (ak st) s.heap.objs.size f cdv)) → sp vs H Q E →
   ∃ t, PSs (uM CX0 P w K mg base N qual (ak st) f cdv A outer s H E).nox (bx st) t ∧ t { nx := fun _ H' => Q .non H', rt := Q } (start N vs) H) : dH P w K mg base CX0 (k + 1) f fd ps sp := by
 obtain ⟨oc, od, kV, doc, pm, an, cdv, ct, osl, rfl, lk, hcd⟩ := F.ex
 refine RJ lk hcd S len fun A outer s H vs Q E hr hsp => ?_
 obtain ⟨t, h, q⟩ := hbody cdv A outer s H vs Q E hr hsp
 exact ⟨t, h.nox, q⟩
theorem Fun.binds {x qual : Str} {st : Stmt} {f : Addr} {fd : FuncData} {ps : List Str} (F : Fun K x qual st f fd)
  (h : ∀ (kV doc pm : Value) (an : Option Addr) (cdv ct : Value) (us : List Value), us.length = ps.length → bindArgs (PySem.W.fnOf x qual (bH st) (bx st) (ak st) .none kV doc pm an cdv ct) ⟨us, []⟩ = pure (ps.zip us)) : Binds K fd ps [] := by
 obtain ⟨oc, od, kV, doc, pm, an, cdv, ct, osl, rfl, lk, hcd⟩ := F.ex
 exact .all (h kV doc pm an cdv ct)
theorem aY {x qual : Str} {st : Stmt} {f : Addr} {oc : Value} {od an : Option Addr} {osl : Array (Option Value)} {kV doc pm cdv ct : Value} (l : K.lookup f = some ⟨oc, od, .func (PySem.W.fnOf x qual (bH st) (bx st) (ak st) .none kV doc pm an cdv ct), osl⟩)
  (c : PySem.W.codeIn K cdv qual = true) (k : PySem.W.keepIn K (.ref f) = true) : Fun K x qual st f (PySem.W.fnOf x qual (bH st) (bx st) (ak st) .none kV doc pm an cdv ct) := ⟨⟨oc, od, kV, doc, pm, an, cdv, ct, osl, rfl, l, c⟩, k⟩
end
section
variable {X : Cx}
end
def Same (H H' : Hp) : Prop := ∀ b o, H b = some o → H' b = some o
theorem Same.refl (H : Hp) : Same H H := fun _ _ h => h
theorem Same.trans {H H1 H2 : Hp} (a : Same H H1) (b : Same H1 H2) : Same H H2 := fun c o h => b c o (a c o h)
theorem Same.seq {K : PySem.W.Frag} {H H' : Hp} {a : Addr} {xs : List V} (e : Same H H') (h : SqL K H a xs) : SqL K H' a xs := by
 rcases h with (h | ⟨o, h⟩) | h
 ·exact .inl (.inl (e _ _ h))
 ·exact .inl (.inr ⟨o, e _ _ h⟩)
 ·exact .inr h
end L2
set_option maxHeartbeats 4000000
namespace L2
open PySem PySem.Spec PyProof.Rows
theorem ud {env : Env} : ∀ (names : List (Str × NameKind)) (acc : List (Str × Addr)),
  (∀ y ∈ names, y.2 = .free → ∃ c, env.cells.lookup y.1 = some c) → (∀ x c, acc.lookup x = some c → env.cells.lookup x = some c) →
  ∃ cl, (forIn names acc fun (y : Str × NameKind) (r : List (Str × Addr)) => (match y with
   | (name, kind) => if (kind == .free) = true then (do let a ← cellOf env name; pure (ForInStep.yield ((name, a) :: r))) else pure (ForInStep.yield r) : Sem (ForInStep (List (Str × Addr))))) = pure cl ∧
   (∀ x c, cl.lookup x = some c → env.cells.lookup x = some c) ∧ (∀ y ∈ names, y.2 = .free → ∃ c, cl.lookup y.1 = some c) ∧ (∀ x c, acc.lookup x = some c → ∃ c', cl.lookup x = some c')
 | [], acc, _, ha => ⟨acc, rfl, ha, fun _ h => (nomatch h), fun x c h => ⟨c, h⟩⟩
 | (n, k) :: r, acc, hf, ha => by
  have hf' : ∀ y ∈ r, y.2 = .free → ∃ c, env.cells.lookup y.1 = some c := fun y hy => hf y (List.mem_cons_of_mem _ hy)
  by_cases hk : k = .free
  ·subst hk
   obtain ⟨c0, e0⟩ := hf (n, .free) List.mem_cons_self rfl
   have hce : cellOf env n = pure c0 := by unfold cellOf; rw [e0]
   have ha2 : ∀ x c, ((n, c0) :: acc).lookup x = some c → env.cells.lookup x = some c := fun x c h => by
    rw [List.lookup_cons] at h
    cases hx : x == n with
    | true =>
     rw [hx] at h
     have e1 : x = n := by simpa using hx
     rw [e1, e0]
     exact h
    | false =>
     rw [hx] at h
     exact ha x c h
   obtain ⟨cl, e, h1, h2, h3⟩ := ud r ((n, c0) :: acc) hf' ha2
   refine ⟨cl, ?_, h1, fun y hy hz => ?_, fun x c h => ?_⟩
   ·rw [List.forIn_cons]
    simp only [beq_self_eq_true, if_true, hce]
    exact e
   ·rcases List.mem_cons.mp hy with q | q
    ·subst q
     exact h3 n c0 (by simp)
    ·exact h2 y q hz
   ·cases hx : x == n with
    | true => exact h3 x c0 (by rw [List.lookup_cons, hx])
    | false => exact h3 x c (by rw [List.lookup_cons, hx]; exact h)
  ·have hb : (k == NameKind.free) = false := by simpa using hk
   obtain ⟨cl, e, h1, h2, h3⟩ := ud r acc hf' ha
   refine ⟨cl, ?_, h1, fun y hy hz => ?_, h3⟩
   ·rw [List.forIn_cons]
    simp only [hb, Bool.false_eq_true, if_false]
    exact e
   ·rcases List.mem_cons.mp hy with q | q
    ·subst q
     exact absurd hz hk
    ·exact h2 y q hz
theorem DY {env : Env} {scope : Scope} (hf : ∀ y ∈ scope.names, y.2 = .free → ∃ c, env.cells.lookup y.1 = some c) :
  ∃ cl, closureFor scope env = pure cl ∧ (∀ x c, cl.lookup x = some c → env.cells.lookup x = some c) ∧ (∀ y ∈ scope.names, y.2 = .free → ∃ c, cl.lookup y.1 = some c) := by
 obtain ⟨cl, e, h1, h2, _⟩ := ud (env := env) scope.names [] hf (fun x c h => by simp at h)
 refine ⟨cl, ?_, h1, h2⟩
 unfold closureFor
 show (forIn scope.names [] _ >>= fun r => pure r) = _
 rw [show (forIn scope.names ([] : List (Str × Addr)) fun (y : Str × NameKind) (r : List (Str × Addr)) => (match y with
   | (name, kind) => if (kind == .free) = true then (do let a ← cellOf env name; pure (ForInStep.yield ((name, a) :: r))) else pure (ForInStep.yield r) : Sem (ForInStep (List (Str × Addr))))) = pure cl from e]
 rfl
section
variable {prog : Program} {w : World} {A : Around} {R : Result → Shared → Prop} {s : Shared}
theorem vN {elt tg iter : Expr} {ifs : List Expr} {scope : Scope} {pos : Pos} {it acc : Value} {env : Env} (J : Nat → Shared → Prop)
  (turn : ∀ n s, J n s → wpAny (model prog w) A (pyNext it) (fun r s1 => match r with
   | none => R (.ok .next) s1
   | some v => wpAny (model prog w) A (letOwnedTupleGo tg it v) (fun _ s1' => wpAny (model prog w) A (assign tg env v) (fun _ s2 =>
     wpAny (model prog w) A (forIn ifs true fun c r => if r = true then do let ok ← isTrue c env (eval c env); pure (ForInStep.yield ok) else pure (ForInStep.yield r)) (fun ok s3 =>
      if ok = true then wpAny (model prog w) A (eval elt env) (fun x s4 =>
       wpAny (model prog w) A (call (.builtin "list.append") [acc, x]) (fun _ s5 => ∃ m, m < n ∧ J m s5) (notedBy (model prog w) A env fun e z => R (.error e) z) s4) (notedBy (model prog w) A env fun e z => R (.error e) z) s3
      else ∃ m, m < n ∧ J m s3) (notedBy (model prog w) A env fun e z => R (.error e) z) s2) (notedBy (model prog w) A env fun e z => R (.error e) z) s1') (notedBy (model prog w) A env fun e z => R (.error e) z) s1) (notedBy (model prog w) A env fun e z => R (.error e) z) s)
  (n : Nat) (h : J n s) : codeAny (model prog w) A (.compLoop (.ListComp elt [⟨tg, iter, ifs, 0⟩] scope pos) 0 it acc env) R s := by
 refine codeAny_loop rfl J (fun n z hJ => ?_) n h
 show wpAny _ A ((compTurn (.ListComp elt [⟨tg, iter, ifs, 0⟩] scope pos) 0 it acc env).onRaise (fun y => do noteFrame y env; theTreesLotGoes y)) _ _ z
 refine wpAny_noted ?_
 rw [compTurn_list]
 refine wpAny_bind (wpAny_standAt (wpAny_bind (wpAny_mono (turn n z hJ) (fun r s1 h1 => ?_) fun _ _ q => q)))
 cases r with
 | none => exact wpAny_pure h1
 | some v =>
  refine wpAny_bind (wpAny_mono h1 (fun _ s1' h1' => ?_) fun _ _ q => q)
  refine wpAny_bind (wpAny_mono h1' (fun _ s2 h2 => wpAny_bind (wpAny_mono h2 (fun ok s3 h3 => ?_) fun _ _ q => q)) fun _ _ q => q)
  cases ok with
  | false => exact wpAny_pure ⟨rfl, h3⟩
  | true =>
   exact wpAny_bind (wpAny_bind (wpAny_mono h3 (fun x s4 h4 => wpAny_bind (wpAny_mono h4 (fun _ s5 h5 => wpAny_pure (wpAny_pure ⟨rfl, h5⟩)) fun _ _ q => q)) fun _ _ q => q))
end
def jk (mp : List (Option Nat)) (σ : St) : St := mp.map fun o => match o with
 | some j => (σ[j]?).join
 | none => none
def cA (X : Cx) (N : List Str) (scope : Scope) (cl : List (Str × Addr)) (C : Addr) (s : Shared) (H : Hp) (fp : List Addr) : Cx :=
 { X with N := N, s₀ := s, H₀ := H, env := compEnvC scope cl C X.env, outer := X.stack, stack := X.stack, ex := fp, fn := fun _ => false, pn := [], xe := fun _ _ => False }
def mC (NX : List Str) (names : List (Str × NameKind)) : List Str → List (Option Nat) → Bool
 | [], [] => true
 | x :: r, o :: q => (match o with
   | none => names.lookup x == some .local
   | some j => NX[j]? == some x && names.lookup x == some .free) && mC NX names r q
 | _, _ => false
theorem vB {NX : List Str} {names : List (Str × NameKind)} : ∀ {N : List Str} {mp : List (Option Nat)} {i j : Nat} {x : Str}, mC NX names N mp = true → N[i]? = some x → mp[i]? = some (some j) → NX[j]? = some x ∧ names.lookup x = some .free
 | [], _, i, _, _, _, h, _ => by simp at h
 | _ :: _, [], _, _, _, h, _, _ => by simp [mC] at h
 | y :: r, o :: q, 0, j, x, h, h1, h2 => by
  simp at h1 h2
  subst h1 h2
  unfold mC at h
  simp only [Bool.and_eq_true, beq_iff_eq] at h
  exact h.1
 | y :: r, o :: q, i + 1, j, x, h, h1, h2 => by
  unfold mC at h
  rw [Bool.and_eq_true] at h
  exact vB (i := i) h.2 (by simpa using h1) (by simpa using h2)
theorem vA {NX : List Str} {names : List (Str × NameKind)} : ∀ {N : List Str} {mp : List (Option Nat)}, mC NX names N mp = true → mp.length = N.length
 | [], [], _ => rfl
 | [], _ :: _, h => by simp [mC] at h
 | _ :: _, [], h => by simp [mC] at h
 | _ :: r, _ :: q, h => by
  unfold mC at h
  rw [Bool.and_eq_true] at h
  simp [vA h.2]
structure vY (NX : List Str) (kX : List (Str × NameKind)) (N : List Str) (mp : List (Option Nat)) (scope : Scope) : Prop where
 kind : scope.kind = .function
 nocell : ∀ y ∈ scope.names, y.2 ≠ .cell
 locs : ∀ y ∈ scope.names, y.2 = .local → scope.names.lookup y.1 = some .local
 fre : ∀ y ∈ scope.names, y.2 = .free → kX.lookup y.1 = some .cell ∨ kX.lookup y.1 = some .free
 map : mC NX scope.names N mp = true
def PTs (X : Cx) (cs : List Expr) (t : TT) : Prop :=
 ∀ (pins : List (Addr × Obj)) (s : Shared) (σ : St) (H : Hp) (Q : Bool → Hp → Prop), Inv X pins σ H s → t σ H Q →
  wpAny (model X.prog X.w) X.A (forIn cs true fun c r => if r = true then do let ok ← isTrue c X.env (eval c X.env); pure (ForInStep.yield ok) else pure (ForInStep.yield r)) (TP X pins σ Q) X.xe s
def Mw : TT := fun _ H Q => Q true H
theorem Ow {X : Cx} : PTs X [] Mw := fun _ _ _ H _ I h => wpAny_tests_nil ⟨H, I, h⟩
def uV (mp : List (Option Nat)) (wi : TI) (g : TG) (tc : TT) (te : TE) : TE := fun σ H Q => wi σ H fun J H1 =>
 ∃ W : Nat → Nat → List V → St → Hp → Prop, (∃ m, W 0 m [] (jk mp σ) H1) ∧ ∀ i m acc τ H2, W i m acc τ H2 →
  (J.stop i H2 ∧ ∀ d, H2 d = none → Q (.ref d) (upd H2 d (.lst acc))) ∨
  (J.go i H2 ∧ acc.length < sizeLine ∧ ∃ N : List V → St → Hp → Prop, (∀ acc' τ' H', N acc' τ' H' → ∃ m', m' < m ∧ W (i + 1) m' acc' τ' H') ∧ ∀ x H3, J.yld i H2 x H3 → g x τ H3 fun τ1 H4 => tc τ1 H4 fun b H5 =>
   if b = true then te τ1 H5 fun v H6 => N (acc ++ [v]) τ1 H6 else N acc τ1 H5)
theorem gw {env : Env} : ∀ {names : List (Str × NameKind)} {x : Str} {k : NameKind}, (names.map fun (n, k) => if (k == NameKind.free && env.scope.kind == .function && env.kindOf n == some .cell) then (n, NameKind.cell) else (n, k)).lookup x = some k →
  names.lookup x = some k ∨ (k = .cell ∧ names.lookup x = some .free)
 | [], _, _, h => by simp at h
 | (n, k0) :: r, x, k, h => by
  have ih := @gw env r x k
  rw [List.map_cons] at h
  by_cases hc : (k0 == NameKind.free && env.scope.kind == .function && env.kindOf n == some .cell) = true
  ·simp only [hc, if_true] at h
   cases hx : x == n with
   | true =>
    rw [List.lookup_cons, hx] at h
    have hk : k0 = .free := by
     rw [Bool.and_eq_true, Bool.and_eq_true] at hc
     simpa using hc.1.1
    right
    refine ⟨(Option.some.inj h).symm, ?_⟩
    rw [List.lookup_cons, hx, hk]
   | false =>
    rw [List.lookup_cons, hx] at h
    rw [List.lookup_cons, hx]
    exact ih h
  ·simp only [hc, if_false] at h
   cases hx : x == n with
   | true =>
    rw [if_neg (by simp), List.lookup_cons, hx] at h
    rw [List.lookup_cons, hx]
    exact .inl h
   | false =>
    rw [if_neg (by simp), List.lookup_cons, hx] at h
    rw [List.lookup_cons, hx]
    exact ih h
theorem na0 {b D E : Nat} (h : b < E) (hD : E = D) : b ≠ D := by omega
theorem na1 {b D E C : Nat} (h : b < E) (hD : E = D) (hC : C = D + 1) : b ≠ C := by omega
theorem na2 {C D : Nat} (hC : C = D + 1) : D ≠ C := by omega
theorem na3 {C D E : Nat} (hD : E = D) (hC : C = D + 1) : E ≤ C := by omega
theorem na4 {D E : Nat} (hD : E = D) : E ≤ D := by omega
section
variable {X : Cx} {NX N : List Str} {kX : List (Str × NameKind)} {mp : List (Option Nat)} {scope : Scope} {pins : List (Addr × Obj)} {σ : St} {s s' : Shared} {H : Hp} {fp : List Addr} {cl : List (Str × Addr)} {C : Addr}
theorem BP (hkX : X.env.scope.names = kX) (S : vY NX kX N mp scope) (I : Inv X pins σ H s) (hfp : ∀ b ∈ fp, oR X pins H b) (hold : ∀ b ∈ fp, b < s.heap.objs.size) (hC : s.heap.objs.size ≤ C)
  (hsub : ∀ x c, cl.lookup x = some c → X.env.cells.lookup x = some c) (hhas : ∀ y ∈ scope.names, y.2 = .free → ∃ c, cl.lookup y.1 = some c) : (cA X N scope cl C s H fp).Ok where
 mod := I.ok.mod
 kind := S.kind
 glob := I.ok.glob
 blt := I.ok.blt
 above := hC
 inj := fun x y c h1 h2 => I.ok.inj x y c (hsub x c h1) (hsub y c h2)
 has := fun x h => by
  have key : scope.names.lookup x = some .free := by
   rcases h with h | h
   ·rcases gw (env := X.env) (names := scope.names) h with q | ⟨_, q⟩
    ·exact absurd rfl (S.nocell _ (PySem.mem_of_lookup q))
    ·exact q
   ·rcases gw (env := X.env) (names := scope.names) h with q | ⟨q, _⟩
    ·exact q
    ·cases q
  exact hhas _ (PySem.mem_of_lookup key) rfl
 cab := fun x c h => by cases h
 hd := I.ok.hd
 frames := I.ok.frames
 stk := .inl rfl
 exf := fun b hb => ⟨Nat.ne_of_lt (Nat.lt_of_lt_of_le (hold b hb) hC), fun x c e => (hfp b hb).2.2.2.2.1 x c (hsub x c e)⟩
 bs := I.bs
 bsz := Nat.le_trans I.ok.bsz I.sz
 noex := fun b o e hb => by
  rcases (hfp b hb).2.2.2.1 with q | q
  ·exact I.ok.noex b o e q
  ·exact absurd (Nat.lt_of_lt_of_le (Nat.lt_of_lt_of_le (Heap.lt_size e) I.ok.bsz) q) (Nat.lt_irrefl _)
 exfs := fun b hb hz => by
  obtain ⟨_, h1, h2, _⟩ := hfp b hb
  rcases List.mem_cons.mp (I.oV b hz) with q | q
  ·exact h1 q
  ·exact h2 q
 lG := I.stack
 frf := I.qP
theorem DX (hNX : X.N = NX) (hkX : X.env.scope.names = kX) (S : vY NX kX N mp scope) (I : Inv X pins σ H s) (hfp : ∀ b ∈ fp, oR X pins H b) (hold : ∀ b ∈ fp, b < s.heap.objs.size) (hC : s.heap.objs.size ≤ C)
  (hsub : ∀ x c, cl.lookup x = some c → X.env.cells.lookup x = some c) (hhas : ∀ y ∈ scope.names, y.2 = .free → ∃ c, cl.lookup y.1 = some c)
  (ho : s'.os = s.os) (hg : s'.gens = s.gens) (hn : ∃ m, s'.heap.Ns C m) (hk : ∀ b o, s.heap.get? b = some o → s'.heap.get? b = some o) {pl : List (Addr × Obj)}
  (hp : ∀ p ∈ pl, s'.heap.get? p.1 = some p.2 ∧ H p.1 = none ∧ p.1 ≠ C ∧ p.1 ∉ frs X.stack ∧ ∀ v, p.2.data ≠ .cell v) :
  Inv (cA X N scope cl C s H fp) pl (jk mp σ) H s' where
 ok := BP hkX S I hfp hold hC hsub hhas
 os := ho
 bare := by rw [hg]; exact I.bare
 base := Un.kept hk
 loc := by
  obtain ⟨m, hm⟩ := hn
  refine ⟨m, hm, fun i x v h1 h2 h3 => ?_⟩
  have h2' : (mp.map fun o => match o with | some j => (σ[j]?).join | none => none)[i]? = some (some v) := h2
  rw [List.getElem?_map] at h2'
  cases e : mp[i]? with
  | none => rw [e] at h2'; cases h2'
  | some o =>
   rw [e] at h2'
   cases o with
   | none => cases h2'
   | some j =>
    have h4 : (σ[j]?).join = some v := by simpa using h2'
    have h5 : σ[j]? = some (some v) := by
     cases q : σ[j]? with
     | none => rw [q] at h4; cases h4
     | some z => rw [q] at h4; rw [show z = some v from h4]
    obtain ⟨g1, g2⟩ := vB S.map h1 e
    have fk := S.fre _ (PySem.mem_of_lookup g2) rfl
    obtain ⟨m0, _, hl⟩ := I.loc
    have vis : Vis X.env.scope x := by
     rcases fk with q | q
     ·exact .inr (.inl (by rw [hkX]; exact q))
     ·exact .inr (.inr (by rw [hkX]; exact q))
    obtain ⟨u, r, l⟩ := hl j x v (by rw [hNX]; exact g1) h5 vis
    refine ⟨u, r, .inr ?_⟩
    have l' : ∃ c, X.env.cells.lookup x = some c ∧ s.heap.IsCell c (some u) := by
     rcases l with ⟨q, _⟩ | ⟨_, q⟩
     ·have q' : X.env.scope.names.lookup x = some .local := q
      rw [hkX] at q'
      rcases fk with z | z
      ·rw [q'] at z; cases z
      ·rw [q'] at z; cases z
     ·exact q
    obtain ⟨c, hc, oc, hoc, hd⟩ := l'
    obtain ⟨c', hc'⟩ := hhas _ (PySem.mem_of_lookup g2) rfl
    have ec : c' = c := by
     have := hsub x c' hc'
     rw [hc] at this
     exact (Option.some.inj this).symm
    subst ec
    refine ⟨?_, c', hc', oc, hk _ _ hoc, hd⟩
    rcases h3 with q | q | q
    ·rcases gw (env := X.env) (names := scope.names) q with z | ⟨z, _⟩
     ·rw [g2] at z; cases z
     ·cases z
    ·exact .inl q
    ·exact .inr q
 cell := fun x c e => by
  obtain ⟨v, o, h1, h2⟩ := I.cell x c (hsub x c e)
  exact ⟨v, o, hk _ _ h1, h2⟩
 free := I.hok.fresh hC
 freeC := fun x c e => I.freeC x c (hsub x c e)
 pin := fun p hpp => hp p (by simpa [cA] using hpp)
 hok := I.hok.kept hk
 len := by
  show (mp.map _).length = N.length
  rw [List.length_map]
  exact vA S.map
set_option maxHeartbeats 8000000 in
theorem Pn {tg iter elt : Expr} {ifs : List Expr} {pos : Pos} {wi : TI} {g : TG} {tc : TT} {te : TE} (N : List Str) (mp : List (Option Nat)) (hNX : X.N = NX) (hkX : X.env.scope.names = kX) (S : vY NX kX N mp scope) (hc : X.calm = true)
  (hi : PI X tg iter wi) (hg : ∀ cl C s H fp, PG (cA X N scope cl C s H fp) tg g) (ht : ∀ cl C s H fp, PTs (cA X N scope cl C s H fp) ifs tc) (he : ∀ cl C s H fp, PE (cA X N scope cl C s H fp) elt te)
  (hs : ∀ x, foldedSetIterable iter X.env x = pure x := by intro _; rfl) : PE X (.ListComp elt [⟨tg, iter, ifs, 0⟩] scope pos) (uV mp wi g tc te) := by
 intro pins s σ H Q I h
 obtain ⟨cl, hcl, hsub, hhas⟩ := DY (env := X.env) (scope := scope) fun y hy hf => I.ok.has y.1 (by
  rcases S.fre y hy hf with q | q
  ·exact .inl (show X.env.scope.names.lookup y.1 = _ by rw [hkX]; exact q)
  ·exact .inr (show X.env.scope.names.lookup y.1 = _ by rw [hkX]; exact q))
 rw [eval_ListComp]
 refine wpAny_comprehension_free (use := none) rfl hs hcl S.kind S.locs ?_
 refine thn (hi pins s σ H _ I h) fun v s1 h1 => thn h1 fun itv s2 h2 => ?_
 obtain ⟨it, fp, tn, J, H2, e, I2, T, st2, f2, W, ⟨m0, w0⟩, turn⟩ := h2
 subst e
 refine wpAny_newObj_type (wpAny_newFunctionEnv S.nocell (by intro y hy; simp at hy) (fun h3 hns hsb => ?_) S.kind)
 dsimp only at hns hsb ⊢
 have hold : ∀ b ∈ fp, b < s2.heap.objs.size := fun b hb => by
  obtain ⟨o, q, _⟩ := T.obj _ _ st2 b hb
  exact Heap.lt_size q
 generalize hD : s2.heap.objs.size = D at hns hsb
 generalize hH2 : s2.heap.push { cls := .type "list", dict := none, data := .seq ([] : List Value).toArray } = P2 at hns hsb ⊢
 have hC : P2.objs.size = D + 1 := by rw [← hH2, Heap.size_push, hD]
 generalize hC' : P2.objs.size = C at hns hsb ⊢
 rw [hC'] at hC
 have old : ∀ b o, s2.heap.get? b = some o → h3.get? b = some o := fun b o q => by
  have hb := Heap.lt_size q
  exact hsb.extBut b o (na1 hb hD hC) (Heap.get?_push_of_some _ (hH2 ▸ Heap.get?_push_of_some _ q))
 have accD : h3.get? D = some { cls := .type "list", data := .seq ([] : List Value).toArray } :=
  hsb.extBut _ _ (na2 hC) (Heap.get?_push_of_some _ (by rw [← hH2, ← hD]; exact Heap.get?_push_size _ rfl))
 have hfr : D ∉ frs X.stack := fun z => by
  rcases List.mem_cons.mp (I2.oV D z) with q | q
  ·exact na0 I2.lt hD q.symm
  ·exact I2.Uv (na4 hD) q
 have I0 : Inv (cA X N scope cl C s2 H2 fp) [(D, { cls := .type "list", data := .seq ([] : List Value).toArray })] (jk mp σ) H2 { s2 with heap := h3, toks := s2.toks + ([] : List (Str × Value)).length } :=
  DX (s' := { s2 with heap := h3, toks := s2.toks + ([] : List (Str × Value)).length }) hNX hkX S I2 f2 hold (na3 hD hC) hsub hhas rfl rfl ⟨_, hns⟩ old fun p hp => by
   have ep := List.mem_singleton.mp hp
   subst ep
   exact ⟨accD, I2.hok.fresh (na4 hD), na2 hC, hfr, fun v z => by cases z⟩
 have T0 : tn 0 h3 := T.keep _ _ _ st2 fun b _ o q => old b o q
 have loop : ∀ z : Shared, z = { s2 with heap := h3, toks := s2.toks + ([] : List (Str × Value)).length } →
   codeAny (model X.prog X.w) X.A (.compLoop (.ListComp elt [⟨tg, iter, ifs, 0⟩] scope pos) 0 (.ref it) (.ref D) (compEnvC scope cl C X.env))
    (compPost (model X.prog X.w) X.A X.xe none (EP X pins σ Q) (.ref D) C) z := by
  rintro z rfl
  have stat : ∀ {H' : Hp} {pl : List (Addr × Obj)}, (∀ b ∈ fp, H' b = none) → (∀ p ∈ pl, p.1 = D) → ∀ b ∈ fp, oR (cA X N scope cl C s2 H2 fp) pl H' b := fun hn hp b hb => by
   have hb2 := hold b hb
   refine ⟨hn b hb, na1 hb2 hD hC, (BP hkX S I2 f2 hold (na3 hD hC) hsub hhas).exfs b hb, .inl hb, fun x c q => (f2 b hb).2.2.2.2.1 x c (hsub x c q), fun p hpp => ?_⟩
   have hpD := hp p (by simpa [cA] using hpp)
   rw [hpD]
   exact (na0 hb2 hD).symm
  refine vN (env := compEnvC scope cl C X.env) (fun n z => ∃ i acc τ H' its k, Inv (cA X N scope cl C s2 H2 fp) [(D, { cls := .type "list", data := .seq (List.toArray its) k })] τ H' z ∧ tn i z.heap ∧ (∀ b ∈ fp, H' b = none) ∧ Vals acc its ∧ acc.length ≤ sizeLine ∧ W i n acc τ H')
   ?_ m0 ⟨0, [], _, H2, [], 0, I0, T0, fun b hb => (f2 b hb).1, .nil, Nat.zero_le _, w0⟩
  rintro n s5 ⟨i, acc, τ, H5, its, k, I5, st5, fr5, va, hz, w5⟩
  rcases turn i n acc τ H5 w5 with ⟨stop, qn⟩ | ⟨go, hz2, N9, hN9, step⟩
  ·refine thn (T.done (cA X N scope cl C s2 H2 fp) rfl rfl rfl hc i _ s5 τ H5 _ I5 (stat fr5 (by simp)) st5 stop) fun r s6 ⟨hr, I6⟩ => ?_
   subst hr
   obtain ⟨m6, hn6, _⟩ := I6.loc
   refine ⟨m6, hn6, fun h' sb => ?_⟩
   obtain ⟨dD, nD, _, _, _⟩ := I6.pin (D, _) (List.mem_append_right _ (List.mem_singleton.mpr rfl))
   have U := I6.base
   have nC : H5 C = none := I6.free
   have ne : ∀ b o, s2.heap.get? b = some o → b ≠ C ∧ b ≠ D := fun b o q => by
    exact ⟨na1 (Heap.lt_size q) hD hC, na0 (Heap.lt_size q) hD⟩
   have keepC : ∀ b o, b ≠ C → s6.heap.get? b = some o → h'.get? b = some o := fun b o hb q => (sb.2 b hb).trans q
   have U' : Un (frs X.stack) fp H2 (upd H5 D (.lst acc)) s2.heap h' := by
    refine ⟨fun b o q n1 hb hx => keepC b o (ne b o q).1 (U.keep b o q n1 hb hx), fun b o q n1 hb hx => ?_, fun b o q n1 hx => ?_, fun b o q hx => ?_, fun b xs q => ?_, fun b o xs q => ?_, fun b ps q => ?_⟩
    ·obtain ⟨sl, z⟩ := U.slot b o q n1 hb hx
     exact ⟨sl, keepC b _ (ne b o q).1 z⟩
    ·rw [aG (ne b o q).2]
     exact U.free b o q n1 hx
    ·obtain ⟨o', z⟩ := U.there b o q hx
     exact ⟨o', keepC b _ (ne b o q).1 z⟩
    ·have z := U.tups b xs q
     rw [aG (aJ z nD)]
     exact z
    ·have z := U.frzs b o xs q
     rw [aG (aJ z nD)]
     exact z
    ·obtain ⟨more, z⟩ := U.tbls b ps q
     exact ⟨more, by rw [aG (aJ z nD)]; exact z⟩
   have hok : HOk X.prog X.w (upd H5 D (.lst acc)) h' := fun b u q => by
    by_cases hb : b = D
    ·subst hb
     rw [aB] at q
     cases q
     exact ⟨hz, its, k, va, keepC _ _ (na2 hC) dD⟩
    ·rw [aG hb] at q
     refine (I6.hok b u q).stay (fun c v hcc z => keepC c v ?_ z) (fun c z => by rw [aG (aJ z nD)]; exact z) fun c xs z => by rw [aG (aJ z nD)]; exact z
     rcases hcc with z1 | z1
     ·subst z1
      exact aJ q nC
     ·exact aJ z1 nC
   have I7 : Inv X pins σ (upd H5 D (.lst acc)) { s6 with heap := h' } := I2.call' (s' := { s6 with heap := h' }) (ch := fp) I6.os U' hok I6.bare fun b hb => by
    obtain ⟨_, a2, _, a4, a5, a6⟩ := f2 b hb
    exact ⟨a4, a2, a5, a6⟩
   exact ⟨.ref D, _, I7, rfl, qn D nD⟩
  ·refine thn (T.item (cA X N scope cl C s2 H2 fp) rfl rfl rfl hc i _ s5 τ H5 _ I5 (stat fr5 (by simp)) st5 go) fun r s6 ⟨u, hr, h6⟩ => ?_
   subst hr
   refine thn h6 fun _ s7 ⟨x, H7, I7, r7, y7, st7, fr7⟩ => ?_
   have I7' := I7.pinned (stat fr7 (by simp)) (T.obj _ _ st7)
   have no : ∀ {α : Type} {t : Sem α} {Q1 Q2 : α → Shared → Prop} {E : Value → Shared → Prop} {z : Shared}, wpAny (model X.prog X.w) X.A t Q1 (fun _ _ => False) z → (∀ a z, Q1 a z → Q2 a z) → wpAny (model X.prog X.w) X.A t Q2 E z :=
    fun q f => wpAny_mono q f fun _ _ z => z.elim
   refine no (hg cl C s2 H2 fp _ s7 τ H7 x u _ I7' r7 (step x H7 y7)) fun _ s8 ⟨τ1, H8, I8, q8⟩ => ?_
   refine no (ht cl C s2 H2 fp _ s8 τ1 H8 _ I8 q8) fun ok s9 ⟨H9, I9, q9⟩ => ?_
   have again : ∀ {H' : Hp} {z : Shared} {its' : List Value} {k' : Nat}, Inv (cA X N scope cl C s2 H2 fp) ([(D, { cls := .type "list", data := .seq (List.toArray its') k' })] ++ je fp s7.heap) τ1 H' z →
     tn (i + 1) z.heap ∧ (∀ b ∈ fp, H' b = none) ∧ Inv (cA X N scope cl C s2 H2 fp) [(D, { cls := .type "list", data := .seq (List.toArray its') k' })] τ1 H' z := fun {H' z its' k'} Iz => by
    have get : ∀ b ∈ fp, ∀ o, s7.heap.get? b = some o → z.heap.get? b = some o ∧ H' b = none := fun b hb o q => by
     obtain ⟨a1, a2, _⟩ := Iz.pin (b, o) (List.mem_append_right _ (List.mem_append_right _ (jK hb q)))
     exact ⟨a1, a2⟩
    refine ⟨T.keep _ _ _ st7 fun b hb o q => (get b hb o q).1, fun b hb => ?_, Iz.j4⟩
    obtain ⟨o, q, _⟩ := T.obj _ _ st7 b hb
    exact (get b hb o q).2
   cases ok with
   | false =>
    rw [if_neg Bool.false_ne_true] at q9 ⊢
    obtain ⟨m', hm, w9⟩ := hN9 _ _ _ q9
    obtain ⟨a1, a2, a3⟩ := again I9
    exact ⟨m', hm, i + 1, acc, τ1, H9, its, k, a3, a1, a2, va, hz, w9⟩
   | true =>
    rw [if_pos rfl] at q9 ⊢
    refine no (he cl C s2 H2 fp _ s9 τ1 H9 _ I9 q9) fun y s10 ⟨v, H10, I10, rv, q10⟩ => ?_
    obtain ⟨m', hm, w10⟩ := hN9 _ _ _ q10
    obtain ⟨a1, a2, a3⟩ := again I10
    obtain ⟨dD, nD, _, _, _⟩ := a3.pin (D, _) (List.mem_append_right _ (List.mem_singleton.mpr rfl))
    have hlen := va.length
    refine call_meets F.slot_list_append ⟨_, dD, rfl⟩ F.entry_list_append (F.args_list_append_2 _ _) (PySem.list_append D its.toArray k y (by rw [List.size_toArray]; omega)) ⟨dD, ?_⟩
    obtain ⟨k', q⟩ : ∃ k', (s10.heap.update D (Obj.mapSeq fun a => a.push y)).get? D = some { cls := .type "list", data := .seq (its ++ [y]).toArray k' } := by
     have q := PySem.IsL.update dD (fun a => a.push y)
     rw [show its.toArray.push y = (its ++ [y]).toArray by simp] at q
     exact ⟨_, q⟩
    have a4 : Inv (cA X N scope cl C s2 H2 fp) (je fp s7.heap) τ1 H10 s10 := I10.lO fun p hp => I10.pin p (List.mem_append_right _ (List.mem_append_right _ hp))
    have a5 : Inv (cA X N scope cl C s2 H2 fp) (je fp s7.heap) τ1 H10 { s10 with heap := s10.heap.update D (Obj.mapSeq fun a => a.push y), toks := s10.toks } :=
     a4.turned (it := D) (fun b o hb z => (Heap.get?_update_other _ _ (Ne.symm hb)).trans z) nD (na2 hC) (.inr (na4 hD))
      (fun x c z => by
       obtain ⟨_, o, h1, _⟩ := I2.cell x c (hsub x c z)
       exact na0 (Heap.lt_size h1) hD) fun p hp => by
       have hb := (pC (by simpa [cA] using hp)).1
       exact na0 (hold _ hb) hD
    obtain ⟨b1, b2, b3⟩ := (show tn (i + 1) (s10.heap.update D (Obj.mapSeq fun a => a.push y)) ∧ (∀ b ∈ fp, H10 b = none) ∧ True from
     ⟨T.keep _ _ _ a1 fun b hb o z => (Heap.get?_update_other _ _ (na0 (hold b hb) hD).symm).trans z, a2, trivial⟩)
    refine ⟨m', hm, i + 1, acc ++ [v], τ1, H10, its ++ [y], k', a5.lO fun p hp => ?_, b1, b2, va.append (.cons rv .nil), by rw [List.length_append, List.length_singleton]; omega, w10⟩
    have ep := List.mem_singleton.mp hp
    subst ep
    exact ⟨q, nD, na2 hC, hfr, fun v z => by cases z⟩
 have e1 : { newEnv scope C X.env.globals cl X.env.qual none .none (some X.env) X.env.builtins with scope := relabel scope X.env } = compEnvC scope cl C X.env := rfl
 exact codeAny_compStart_list (loop _ rfl) (T.self _ 0 _ _ _ T0 (loop _ rfl))
end
section
variable {X : Cx} {pins : List (Addr × Obj)} {σ : St} {H : Hp} {s : Shared}
theorem Inv.Cj {ch : List Addr} {h' : Heap} {t' : Nat} (I : Inv X pins σ H s) (hf : ∀ b ∈ ch, oR X pins H b) (k : ∀ b o, b ∉ ch → s.heap.get? b = some o → h'.get? b = some o) : Inv X pins σ H { s with heap := h', toks := t' } := by
 have nit : ∀ b u, H b = some u → b ∉ ch := fun b u e z => by rw [(hf b z).1] at e; cases e
 refine I.step (g' := s.gens) (d' := s.drawn) (ch := ch) (fun b hb => ?_) (fun b o _ _ hc e _ => k b o hc e) (fun b o _ _ hc e _ => ⟨o.slots, k b o hc e⟩) (fun _ _ _ _ n => n)
  (fun b o hc e => ⟨o, k b o hc e⟩) (fun _ _ e => e) (fun _ _ _ e => e) (fun b ps e => ⟨#[], by rw [e]; simp⟩) (fun m hm => ?_) (fun b u e => ?_) I.bare
 ·obtain ⟨_, a2, _, a4, a5, a6⟩ := hf b hb
  exact ⟨a4, a2, a5, a6⟩
 ·obtain ⟨o, es, ep, ho, r⟩ := hm
  exact ⟨o, es, ep, k _ o (fun z => (hf _ z).2.1 rfl) ho, r⟩
 ·refine (I.hok b u e).stay (fun c v hc q => k c v ?_ q) (fun _ q => q) fun _ _ q => q
  rcases hc with z | z
  ·rw [z]; exact nit b u e
  ·exact nit c _ z
theorem Inv.Ci {ch : List Addr} {h' : Heap} {t' : Nat} {p : Addr} {o : HO} (I : Inv X pins σ H s) (hf : ∀ b ∈ ch, oR X pins H b) (k : ∀ b o, b ∉ ch → s.heap.get? b = some o → h'.get? b = some o) (hp : s.heap.objs.size ≤ p)
  (new : cj X.prog X.w (upd H p o) h' p o) : Inv X pins σ (upd H p o) { s with heap := h', toks := t' } := by
 have hn : H p = none := I.hok.fresh hp
 have nit : ∀ b u, H b = some u → b ∉ ch := fun b u e z => by rw [(hf b z).1] at e; cases e
 have lt : ∀ b u, s.heap.get? b = some u → b ≠ p := fun b u e => Nat.ne_of_lt (Nat.lt_of_lt_of_le (Heap.lt_size e) hp)
 refine I.step (g' := s.gens) (d' := s.drawn) (ch := ch) (fun b hb => ?_) (fun b o _ _ hc e _ => k b o hc e) (fun b o _ _ hc e _ => ⟨o.slots, k b o hc e⟩) (fun b o _ e n => by rw [aG (lt b o e)]; exact n)
  (fun b o hc e => ⟨o, k b o hc e⟩) (fun b xs e => by rw [aG (aJ e hn)]; exact e) (fun b u xs e => by rw [aG (aJ e hn)]; exact e) (fun b ps e => ⟨#[], by rw [aG (aJ e hn), e]; simp⟩) (fun m hm => ?_) (fun b u e => ?_) I.bare
 ·obtain ⟨_, a2, _, a4, a5, a6⟩ := hf b hb
  exact ⟨a4, a2, a5, a6⟩
 ·obtain ⟨o, es, ep, ho, r⟩ := hm
  exact ⟨o, es, ep, k _ o (fun z => (hf _ z).2.1 rfl) ho, r⟩
 ·by_cases hb : b = p
  ·subst hb
   rw [aB] at e
   cases e
   exact new
  ·rw [aG hb] at e
   refine (I.hok b u e).stay (fun c v hc q => k c v ?_ q) (fun c q => by rw [aG (aJ q hn)]; exact q) fun c xs q => by rw [aG (aJ q hn)]; exact q
   rcases hc with z | z
   ·rw [z]; exact nit b u e
   ·exact nit c _ z
end
def Itz (K : PySem.W.Frag) (a b : Addr) : It :=
 ⟨fun i H => ∃ xs ys x y, SqL K H a xs ∧ SqL K H b ys ∧ xs[i]? = some x ∧ ys[i]? = some y,
  fun i H v H' => ∃ p x y, v = .ref p ∧ H p = none ∧ H' = upd H p (.tup [x, y]) ∧ (∀ xs, SqL K H a xs → xs[i]? = some x) ∧ ∀ ys, SqL K H b ys → ys[i]? = some y,
  fun i H => ∃ xs ys, SqL K H a xs ∧ SqL K H b ys ∧ (xs[i]? = none ∨ ys[i]? = none)⟩
theorem GX {P : Program} {w : World} {K : PySem.W.Frag} {es : List Expr} {kk : Nat} {tpos : Pos} {z TI TO i1 i2 l1 l2 : Addr} (D : ZipApart z TI TO i1 i2 l1 l2) :
  Turn P w K (.Tuple es kk tpos) (Itz K l1 l2) [z, TI, TO, i1, i2] z (fun i h => IsZip h z TI TO .none ∧ IsPair h TI (.ref i1) (.ref i2) ∧ (∃ a b, IsPair h TO a b) ∧ h.IsListIter i1 l1 i ∧ h.IsListIter i2 l2 i) where
 mem := by simp
 obj := fun i h st b hb => by
  obtain ⟨hz, hTI, ⟨a, b', hTO⟩, ⟨o1, e1, c1, d1⟩, ⟨o2, e2, c2, d2⟩⟩ := st
  simp only [List.mem_cons, List.not_mem_nil, or_false] at hb
  rcases hb with rfl | rfl | rfl | rfl | rfl
  ·exact ⟨_, hz, fun v q => by cases q⟩
  ·exact ⟨_, hTI, fun v q => by cases q⟩
  ·exact ⟨_, hTO, fun v q => by cases q⟩
  ·exact ⟨o1, e1, fun v q => by rw [d1] at q; cases q⟩
  ·exact ⟨o2, e2, fun v q => by rw [d2] at q; cases q⟩
 keep := fun i h h' st k => by
  obtain ⟨hz, hTI, ⟨a, b', hTO⟩, h1, h2⟩ := st
  exact ⟨k z (by simp) _ hz, k TI (by simp) _ hTI, ⟨a, b', k TO (by simp) _ hTO⟩, h1.at fun o e => k i1 (by simp) o e, h2.at fun o e => k i2 (by simp) o e⟩
 item := by
  intro X hP hw hK hc i pins s σ H E I hf st hg
  subst hP hw hK
  obtain ⟨xs, ys, x, y, q1, q2, hx, hy⟩ := hg
  obtain ⟨its1, rv1, p1, hz1⟩ := I.list q1
  obtain ⟨its2, rv2, p2, hz2⟩ := I.list q2
  obtain ⟨u1, hu1, ru1⟩ := rv1.get hx
  obtain ⟨u2, hu2, ru2⟩ := rv2.get hy
  obtain ⟨hz, hTI, ⟨a, b', hTO⟩, h1, h2⟩ := st
  refine wpAny_pyNext_zip_item D hz hTI hTO h1 h2 p1.isList p2.isList (x := u1) (y := u2) (by simpa using hu1) (by simpa using hu2) fun h' a1 a2 a3 a4 a5 a6 hk => ?_
  have new : cj X.prog X.w (upd H s.heap.objs.size (.tup [x, y])) h' s.heap.objs.size (.tup [x, y]) := ⟨by show 2 ≤ sizeLine; decide, [u1, u2], .cons ru1 (.cons ru2 .nil), _, a5, rfl, _, rfl⟩
  have I1 : Inv X pins σ (upd H s.heap.objs.size (.tup [x, y])) { s with heap := h' } := I.Ci (t' := s.toks) (ch := [z, TO, i1, i2]) (fun b hb => hf b (by
   simp only [List.mem_cons, List.not_mem_nil, or_false] at hb ⊢
   rcases hb with r | r | r | r <;> simp [r]))
   (fun b o hb e => hk b o (fun q => hb (by simp [q])) (fun q => hb (by simp [q])) (fun q => hb (by simp [q])) (fun q => hb (by simp [q])) e) (Nat.le_refl _) new
  have hTI' : IsPair h' TI (.ref i1) (.ref i2) := hk _ _ D.TIz D.TITO D.TIi1 D.TIi2 hTI
  have hsz : ∀ b, b ∈ [z, TI, TO, i1, i2] → b ≠ s.heap.objs.size := fun b hb => by
   obtain ⟨_, _, hlt, _⟩ := hf b hb
   have lt : ∃ o, s.heap.get? b = some o := by
    simp only [List.mem_cons, List.not_mem_nil, or_false] at hb
    rcases hb with rfl | rfl | rfl | rfl | rfl
    ·exact ⟨_, hz⟩
    ·exact ⟨_, hTI⟩
    ·exact ⟨_, hTO⟩
    ·obtain ⟨o, e, _⟩ := h1; exact ⟨o, e⟩
    ·obtain ⟨o, e, _⟩ := h2; exact ⟨o, e⟩
   obtain ⟨o, e⟩ := lt
   exact Nat.ne_of_lt (Heap.lt_size e)
  refine ⟨_, rfl, wpAny_letOwnedTupleGo_zip (s := { s with heap := h' }) a1 fun h'' z2 sb => ?_⟩
  have fz := hf z (by simp)
  have I2 : Inv X pins σ (upd H s.heap.objs.size (.tup [x, y])) { s with heap := h'' } := Inv.turned (s := { s with heap := h' }) (it := z) (t' := s.toks) I1 (fun b o hb e => (sb.2 b hb).trans e) (by rw [aG (hsz z (by simp))]; exact fz.1) fz.2.1 fz.2.2.2.1 fz.2.2.2.2.1 fz.2.2.2.2.2
  refine ⟨.ref s.heap.objs.size, _, I2, rfl, ⟨_, x, y, rfl, I.fresh, rfl, fun xs' q => by rw [I.n6 q q1]; exact hx, fun ys' q => by rw [I.n6 q q2]; exact hy⟩,
   ⟨z2, (sb.2 _ D.TIz).trans hTI', ⟨_, _, (sb.2 _ D.TOz).trans a2⟩, a3.extBut sb.extBut D.i1z, a4.extBut sb.extBut D.i2z⟩, fun b hb => by rw [aG (hsz b hb)]; exact (hf b hb).1⟩
 done := by
  intro X hP hw hK hc i pins s σ H E I hf st hg
  subst hP hw hK
  obtain ⟨xs, ys, q1, q2, hx⟩ := hg
  obtain ⟨its1, rv1, p1, hz1⟩ := I.list q1
  obtain ⟨its2, rv2, p2, hz2⟩ := I.list q2
  obtain ⟨hz, hTI, ⟨a, b', hTO⟩, h1, h2⟩ := st
  have hend : its1.toArray[i]? = none ∨ its2.toArray[i]? = none := by
   rcases hx with r | r
   ·exact .inl (by simpa using rv1.none_of r)
   ·exact .inr (by simpa using rv2.none_of r)
  refine wpAny_pyNext_zip_end (I.ok.hd hc) D hz hTI hTO h1 h2 p1.isList p2.isList hend fun h' hk => ⟨rfl, ?_⟩
  exact I.Cj (t' := s.toks) (ch := [z, TO, i1, i2]) (fun b hb => hf b (by
   simp only [List.mem_cons, List.not_mem_nil, or_false] at hb ⊢
   rcases hb with r | r | r | r <;> simp [r]))
   (fun b o hb e => hk b o (fun q => hb (by simp [q])) (fun q => hb (by simp [q])) (fun q => hb (by simp [q])) (fun q => hb (by simp [q])) e)
 self := fun _ _ _ _ _ st h => wpAny_pyIter_zip st.1 h
section
variable {X : Cx}
end
def Ite (K : PySem.W.Frag) (a : Addr) : It :=
 ⟨fun i H => ∃ xs x, SqL K H a xs ∧ xs[i]? = some x,
  fun i H v H' => ∃ p x, v = .ref p ∧ H p = none ∧ H' = upd H p (.tup [.int (i : Nat), x]) ∧ ∀ xs, SqL K H a xs → xs[i]? = some x,
  fun i H => ∃ xs, SqL K H a xs ∧ xs[i]? = none⟩
theorem Ef {P : Program} {w : World} {K : PySem.W.Frag} {es : List Expr} {kk : Nat} {tpos : Pos} {e it l : Addr} (hne : e ≠ it) :
  Turn P w K (.Tuple es kk tpos) (Ite K l) [e, it] e (fun i h => (∃ old, IsEnum h e it ((i : Nat) : Int) old) ∧ h.IsListIter it l i) where
 mem := by simp
 obj := fun i h st b hb => by
  obtain ⟨⟨old, he⟩, ⟨o1, e1, c1, d1⟩⟩ := st
  simp only [List.mem_cons, List.not_mem_nil, or_false] at hb
  rcases hb with rfl | rfl
  ·exact ⟨_, he, fun v q => by cases q⟩
  ·exact ⟨o1, e1, fun v q => by rw [d1] at q; cases q⟩
 keep := fun i h h' st k => by
  obtain ⟨⟨old, he⟩, h1⟩ := st
  exact ⟨⟨old, k e (by simp) _ he⟩, h1.at fun o q => k it (by simp) o q⟩
 item := by
  intro X hP hw hK hc i pins s σ H E I hf st hg
  subst hP hw hK
  obtain ⟨xs, x, q1, hx⟩ := hg
  obtain ⟨its1, rv1, p1, hz1⟩ := I.list q1
  obtain ⟨u1, hu1, ru1⟩ := rv1.get hx
  obtain ⟨⟨old, he⟩, h1⟩ := st
  refine wpAny_pyNext_enum_item he h1 p1.isList (x := u1) (by simpa using hu1) hne fun h' a1 a2 a3 a4 hk => ?_
  have new : cj X.prog X.w (upd H s.heap.objs.size (.tup [.int (i : Nat), x])) h' s.heap.objs.size (.tup [.int (i : Nat), x]) := ⟨by show 2 ≤ sizeLine; decide, [.int (i : Nat) s.toks, u1], .cons ⟨_, rfl⟩ (.cons ru1 .nil), _, a3, rfl, _, rfl⟩
  have I1 : Inv X pins σ (upd H s.heap.objs.size (.tup [.int (i : Nat), x])) { s with heap := h', toks := s.toks + 1 } := I.Ci (ch := [e, it]) hf
   (fun b o hb q => hk b o (fun z => hb (by simp [z])) (fun z => hb (by simp [z])) q) (Nat.le_refl _) new
  have hsz : ∀ b, b ∈ [e, it] → b ≠ s.heap.objs.size := fun b hb => by
   have lt : ∃ o, s.heap.get? b = some o := by
    simp only [List.mem_cons, List.not_mem_nil, or_false] at hb
    rcases hb with rfl | rfl
    ·exact ⟨_, he⟩
    ·obtain ⟨o, q, _⟩ := h1; exact ⟨o, q⟩
   obtain ⟨o, q⟩ := lt
   exact Nat.ne_of_lt (Heap.lt_size q)
  refine ⟨_, rfl, wpAny_letOwnedTupleGo_enum (s := { s with heap := h', toks := s.toks + 1 }) a1 fun h'' z2 sb => ?_⟩
  have fz := hf e (by simp)
  have I2 : Inv X pins σ (upd H s.heap.objs.size (.tup [.int (i : Nat), x])) { s with heap := h'', toks := s.toks + 1 } := Inv.turned (s := { s with heap := h', toks := s.toks + 1 }) (it := e) I1 (fun b o hb q => (sb.2 b hb).trans q) (by rw [aG (hsz e (by simp))]; exact fz.1) fz.2.1 fz.2.2.2.1 fz.2.2.2.2.1 fz.2.2.2.2.2
  refine ⟨.ref s.heap.objs.size, _, I2, rfl, ⟨_, x, rfl, I.fresh, rfl, fun xs' q => by rw [I.n6 q q1]; exact hx⟩,
   ⟨⟨_, by simpa using z2⟩, a2.extBut sb.extBut hne.symm⟩, fun b hb => by rw [aG (hsz b hb)]; exact (hf b hb).1⟩
 done := by
  intro X hP hw hK hc i pins s σ H E I hf st hg
  subst hP hw hK
  obtain ⟨xs, q1, hx⟩ := hg
  obtain ⟨its1, rv1, p1, hz1⟩ := I.list q1
  obtain ⟨⟨old, he⟩, h1⟩ := st
  refine wpAny_pyNext_enum_end (I.ok.hd hc) he h1 p1.isList (by simpa using rv1.none_of hx) fun h' hk => ⟨rfl, ?_⟩
  exact I.Cj (t' := s.toks) (ch := [e, it]) hf (fun b o hb q => hk b o (fun z => hb (by simp [z])) q)
 self := fun _ _ _ _ _ st h => by
  obtain ⟨⟨old, he⟩, _⟩ := st
  exact wpAny_pyIter_enum he h
section
variable {X : Cx}
end
theorem Vals.bools : ∀ {bs : List Bool} {us : List Value}, Vals (bs.map V.bl) us → us = bs.map Value.bool
 | [], _, .nil => rfl
 | _ :: _, _, .cons r t => by rw [Vals.bools t, (show _ = Value.bool _ from r)]; rfl
section
variable {X : Cx}
theorem GC (bs : List Bool) : ((List.range bs.length).all fun i => (bs[i]?).getD true) = bs.all id := by
 rw [Bool.eq_iff_iff, List.all_eq_true, List.all_eq_true]
 constructor
 ·intro h b hb
  obtain ⟨i, hi, rfl⟩ := List.getElem_of_mem hb
  have := h i (List.mem_range.mpr hi)
  rw [List.getElem?_eq_getElem hi] at this
  exact this
 ·intro h i hi
  have hi' := List.mem_range.mp hi
  rw [List.getElem?_eq_getElem hi']
  exact h _ (List.getElem_mem hi')
theorem Gz (bs : List Bool) : ((List.range bs.length).any fun i => (bs[i]?).getD false) = bs.any id := by
 rw [Bool.eq_iff_iff, List.any_eq_true, List.any_eq_true]
 constructor
 ·intro ⟨i, hi, h⟩
  have hi' := List.mem_range.mp hi
  rw [List.getElem?_eq_getElem hi'] at h
  exact ⟨_, List.getElem_mem hi', h⟩
 ·intro ⟨b, hb, h⟩
  obtain ⟨i, hi, rfl⟩ := List.getElem_of_mem hb
  exact ⟨i, List.mem_range.mpr hi, by rw [List.getElem?_eq_getElem hi]; exact h⟩
def Jb (K : PySem.W.Frag) (f : List Bool → Bool) : List V → Hp → VK → Prop := fun xs H Q => ∃ p bs, xs = [.ref p] ∧ SqL K H p (List.map V.bl bs) ∧ Q (.bl (f bs)) H
theorem Ls (hc : X.calm = true) : cO X (.builtin "all") (Jb X.K fun bs => bs.all id) := by
 intro pins s σ H xs us Q I r h
 obtain ⟨p, bs, rfl, hq, q⟩ := h
 cases r with
 | cons r rr =>
  cases rr
  cases r
  obtain ⟨its, rv, pl, hz⟩ := I.list hq
  have e := rv.bools
  subst e
  have lt : p < s.heap.objs.size := by obtain ⟨_, e, _⟩ := pl.isList; exact Heap.lt_size e
  refine call_all_walk (wpAny_pyIter_list pl.isList ?_)
  refine ⟨s.heap.objs.size, [s.heap.objs.size, p], [s.heap.objs.size], (bs.map Value.bool).toArray.size, _, _, fun i => (bs[i]?).getD true, rfl, Walks.list (A := X.A.in1) (I.ok.hd hc) _ p (Nat.ne_of_lt lt) _,
   ⟨⟨_, Heap.get?_push_size _ rfl, rfl, rfl⟩, pl.isList.push _⟩, fun i v s' Q' E' hP hQ => ?_, fun h' tk hk => ?_⟩
  ·have e : (bs.map Value.bool)[i]? = some v := by simpa using hP
   rw [List.getElem?_map] at e
   cases z : bs[i]? with
   | none => rw [z] at e; cases e
   | some b =>
    rw [z] at e
    have e' : Value.bool b = v := Option.some.inj e
    subst e'
    dsimp only at hQ
    rw [z] at hQ
    exact wpAny_truthy_bool hQ
  ·rw [List.size_toArray, List.length_map, GC]
   refine ⟨.bl _, H, I.kept fun b o e => hk b o (fun hm => ?_) (Heap.get?_push_of_some _ e), rfl, q⟩
   rw [List.mem_singleton.mp hm] at e
   exact Nat.lt_irrefl _ (Heap.lt_size e)
theorem Lr (hc : X.calm = true) : cO X (.builtin "any") (Jb X.K fun bs => bs.any id) := by
 intro pins s σ H xs us Q I r h
 obtain ⟨p, bs, rfl, hq, q⟩ := h
 cases r with
 | cons r rr =>
  cases rr
  cases r
  obtain ⟨its, rv, pl, hz⟩ := I.list hq
  have e := rv.bools
  subst e
  have lt : p < s.heap.objs.size := by obtain ⟨_, e, _⟩ := pl.isList; exact Heap.lt_size e
  refine call_any_walk (wpAny_pyIter_list pl.isList ?_)
  refine ⟨s.heap.objs.size, [s.heap.objs.size, p], [s.heap.objs.size], (bs.map Value.bool).toArray.size, _, _, fun i => (bs[i]?).getD false, rfl, Walks.list (A := X.A.in1) (I.ok.hd hc) _ p (Nat.ne_of_lt lt) _,
   ⟨⟨_, Heap.get?_push_size _ rfl, rfl, rfl⟩, pl.isList.push _⟩, fun i v s' Q' E' hP hQ => ?_, fun h' tk hk => ?_⟩
  ·have e : (bs.map Value.bool)[i]? = some v := by simpa using hP
   rw [List.getElem?_map] at e
   cases z : bs[i]? with
   | none => rw [z] at e; cases e
   | some b =>
    rw [z] at e
    have e' : Value.bool b = v := Option.some.inj e
    subst e'
    dsimp only at hQ
    rw [z] at hQ
    exact wpAny_truthy_bool hQ
  ·rw [List.size_toArray, List.length_map, Gz]
   refine ⟨.bl _, H, I.kept fun b o e => hk b o (fun hm => ?_) (Heap.get?_push_of_some _ e), rfl, q⟩
   rw [List.mem_singleton.mp hm] at e
   exact Nat.lt_irrefl _ (Heap.lt_size e)
def WQ (K : PySem.W.Frag) : List V → Hp → VK → Prop := fun xs H Q => ∃ x T t b, xs = [x, .ty T] ∧ lY K H x t ∧ PySem.W.kitOne K t (.type T) = some b ∧ Q (.bl b) H
theorem Lq : cO X (.builtin "isinstance") (WQ X.K) := by
 intro pins s σ H xs us Q I r h
 obtain ⟨x, T, t, b, rfl, ty, e, q⟩ := h
 cases r with
 | cons r rr =>
  cases rr with
  | cons r' rr =>
   cases rr
   cases (show _ = Value.type T from r')
   exact Gg I r ty e fun tk => ⟨.bl b, H, I.tok tk, rfl, q⟩
def VH (K : PySem.W.Frag) : List V → Hp → VK → Prop := fun xs H Q => ∃ x p Ts t b, xs = [x, .ref p] ∧ SqT K H p (List.map V.ty Ts) ∧ lY K H x t ∧ PySem.W.kitAny K t (Ts.map Value.type) = some b ∧ Q (.bl b) H
theorem Vals.types : ∀ {bs : List String} {us : List Value}, Vals (bs.map V.ty) us → us = bs.map Value.type
 | [], _, .nil => rfl
 | _ :: _, _, .cons r t => by rw [Vals.types t, (show _ = Value.type _ from r)]; rfl
theorem W5 {x : V} {u t : Value} {pins : List (Addr × Obj)} {σ : St} {H : Hp} {s : Shared} (I : Inv X pins σ H s) (rx : RelV x u) (ty : lY X.K H x t) (hl : ∀ a C dx fs, H a = some (.ins C dx fs) → x ≠ .ref a) :
  ∃ Hh : Heap → Prop, PySem.W.KitX X.K u t Hh ∧ Hh s.heap ∧ u ≠ .builtin "__main__.__loader__#opaque" := by
 cases ty with
 | non => cases (show u = Value.none from rx); exact ⟨_, PySem.W.kitx_none, True.intro, fun z => nomatch z⟩
 | bl y => cases (show u = Value.bool y from rx); exact ⟨_, PySem.W.kitx_bool, True.intro, fun z => nomatch z⟩
 | int i => obtain ⟨t, q⟩ := (show ∃ t, u = Value.int i t from rx); cases q; exact ⟨_, PySem.W.kitx_int, True.intro, fun z => nomatch z⟩
 | str y => obtain ⟨t, q⟩ := (show ∃ t, u = Value.str y t from rx); cases q; exact ⟨_, PySem.W.kitx_str, True.intro, fun z => nomatch z⟩
 | flt y => obtain ⟨t, q⟩ := (show ∃ t, u = Value.float y t from rx); cases q; exact ⟨_, PySem.W.kitx_float, True.intro, fun z => nomatch z⟩
 | @lst a xs ea =>
  cases (show u = Value.ref a from rx)
  obtain ⟨_, _, n, _, h1⟩ := (show cj X.prog X.w H s.heap a (.lst xs) from I.hok a _ ea)
  exact ⟨_, PySem.W.kitx_list, ⟨_, h1, rfl⟩, fun z => nomatch z⟩
 | @frz a ob xs ea =>
  cases (show u = Value.ref a from rx)
  obtain ⟨_, _, _, n, _, h1⟩ := (show cj X.prog X.w H s.heap a (.frz ob (.lst xs)) from I.hok a _ ea)
  exact ⟨_, PySem.W.kitx_list, ⟨_, h1, rfl⟩, fun z => nomatch z⟩
 | @tup a xs ea =>
  cases (show u = Value.ref a from rx)
  obtain ⟨_, _, _, p⟩ := (show cj X.prog X.w H s.heap a (.tup xs) from I.hok a _ ea)
  obtain ⟨o, h1, h2, _⟩ := p
  exact ⟨_, PySem.W.kitx_tuple, ⟨o, h1, h2⟩, fun z => nomatch z⟩
 | @dK a kvs ea =>
  cases (show u = Value.ref a from rx)
  obtain ⟨_, _, vs, _, p⟩ := (show cj X.prog X.w H s.heap a (.dK kvs) from I.hok a _ ea)
  obtain ⟨o, es, ep, h1, h2, _⟩ := p
  exact ⟨_, PySem.W.kitx_dict, ⟨o, h1, h2.1⟩, fun z => nomatch z⟩
 | @dT a kvs ea =>
  cases (show u = Value.ref a from rx)
  obtain ⟨_, _, xs, _, o, es, ep, h1, h2, _⟩ := (show cj X.prog X.w H s.heap a (.dT kvs) from I.hok a _ ea)
  exact ⟨_, PySem.W.kitx_dict, ⟨o, h1, h2.1⟩, fun z => nomatch z⟩
 | @ins a C dx fs ea cl ha hn htk hm => exact absurd rfl (hl a C dx fs ea)
theorem Gs : cO X (.builtin "isinstance") (fun xs H Q => VH X.K xs H Q ∧ ∀ a C dx fs, H a = some (.ins C dx fs) → xs.head? ≠ some (.ref a)) := by
 intro pins s σ H xs us Q I r h
 obtain ⟨⟨x, p, Ts, t, b, rfl, hq, ty, e, q⟩, hl⟩ := h
 cases r with
 | cons r rr =>
  cases rr with
  | cons r' rr =>
   cases rr
   cases r'
   obtain ⟨Hh, Z, hh, ne⟩ := W5 I r ty fun a C dx fs z w' => hl a C dx fs z (by rw [w']; rfl)
   obtain ⟨its, rv, ⟨o, ho, hcl, n, hd⟩, hz⟩ := I.tuple hq
   have ei := rv.types
   subst ei
   obtain ⟨c0, d0, dt0, sl0⟩ := o
   cases (show c0 = Value.type "tuple" from hcl)
   cases (show dt0 = Data.seq (List.map Value.type Ts).toArray n from hd)
   exact PySem.W.kia_tup Z I.kIn hh ho e ne fun tk => ⟨.bl b, H, I.tok tk, rfl, q⟩
end
inductive Tn (H : Hp) : V → String → Prop where
 | non : Tn H .non "NoneType"
 | bl (b : Bool) : Tn H (.bl b) "bool"
 | int (i : Int) : Tn H (.int i) "int"
 | str (x : Str) : Tn H (.str x) "str"
 | lst {a : Addr} {xs : List V} (e : H a = some (.lst xs)) : Tn H (.ref a) "list"
 | tup {a : Addr} {xs : List V} (e : H a = some (.tup xs)) : Tn H (.ref a) "tuple"
theorem Tn.ty {K : PySem.W.Frag} {H : Hp} {x : V} {t : String} (h : Tn H x t) : lY K H x (.type t) := by
 cases h with
 | non => exact .non
 | bl b => exact .bl b
 | int i => exact .int i
 | str x => exact .str x
 | lst e => exact .lst e
 | tup e => exact .tup e
def dI (t T : String) : Bool := t == T || (t == "bool" && T == "int")
def dX : List String := ["NoneType", "bool", "int", "str", "list", "tuple"]
theorem Di (K : PySem.W.Frag) : ∀ t ∈ dX, ∀ T ∈ dX, PySem.W.kitOne K (.type t) (.type T) = some (dI t T) := by
 intro t ht T hT
 simp only [dX, List.mem_cons, List.not_mem_nil, or_false] at ht hT
 rcases ht with rfl | rfl | rfl | rfl | rfl | rfl <;> rcases hT with rfl | rfl | rfl | rfl | rfl | rfl <;> first | rfl | kernel_rfl
theorem Tn.known {H : Hp} {x : V} {t : String} (h : Tn H x t) : t ∈ dX := by cases h <;> decide
section
variable {X : Cx}
theorem Gw : cO X (.builtin "isinstance") (fun xs H Q => ∃ x T t, xs = [x, .ty T] ∧ Tn H x t ∧ T ∈ dX ∧ Q (.bl (dI t T)) H) := by
 intro pins s σ H xs us Q I r h
 obtain ⟨x, T, t, rfl, ty, hT, q⟩ := h
 exact Lq pins s σ H _ us Q I r ⟨x, T, _, _, rfl, ty.ty, Di X.K t ty.known T hT, q⟩
theorem Dj (K : PySem.W.Frag) {t : String} (ht : t ∈ dX) : ∀ Ts : List String, (∀ T ∈ Ts, T ∈ dX) → PySem.W.kitAny K (.type t) (Ts.map Value.type) = some (Ts.any fun T => dI t T)
 | [], _ => rfl
 | T :: r, h => by
  have e := Di K t ht T (h T List.mem_cons_self)
  have ih := Dj K ht r fun T' h' => h T' (List.mem_cons_of_mem _ h')
  show (match PySem.W.kitOne K (.type t) (.type T) with | some true => some true | some false => PySem.W.kitAny K (.type t) (r.map Value.type) | none => none) = _
  rw [e, List.any_cons]
  cases dI t T with
  | true => rfl
  | false => exact ih
theorem Gv : cO X (.builtin "isinstance") (fun xs H Q => ∃ x p Ts t, xs = [x, .ref p] ∧ H p = some (.tup (List.map V.ty Ts)) ∧ Tn H x t ∧ (∀ T ∈ Ts, T ∈ dX) ∧ Q (.bl (Ts.any fun T => dI t T)) H) := by
 intro pins s σ H xs us Q I r h
 obtain ⟨x, p, Ts, t, rfl, hp, ty, hT, q⟩ := h
 refine Gs pins s σ H _ us Q I r ⟨⟨x, p, Ts, _, _, rfl, SqT.of hp, ty.ty, Dj X.K ty.known Ts hT, q⟩, fun a C dx fs e z => ?_⟩
 have z' : x = .ref a := by simpa using z
 subst z'
 cases ty with
 | lst e' => rw [e] at e'; cases e'
 | tup e' => rw [e] at e'; cases e'
def RM (i j : Int) : Prop := 0 < j ∧ j < 2 ^ 70
theorem nR : OpR X (binaryOp .FloorDiv) (rI RM fun i j => .int (i / j)) := opI fun i j _ _ _ _ _ hc q => by
 have h1 : (0 : Int) < j := hc.1
 have h2 : j < 2 ^ 70 := hc.2
 refine floordiv_int (by omega) (by rw [Int.fdiv_eq_ediv_of_nonneg i (by omega)]; exact q) (.inl (PyProof.noPylong_of_log2 ?_))
 have h3 : j.natAbs ≠ 0 := by omega
 have h4 : j.natAbs.log2 < 70 := (Nat.log2_lt h3).mpr (by omega)
 omega
end
def bU (p : Addr) (H H' : Hp) : Prop := ∀ b o, b ≠ p → H b = some o → H' b = some o
theorem bU.refl (p : Addr) (H : Hp) : bU p H H := fun _ _ _ h => h
theorem bU.trans {p : Addr} {H H1 H2 : Hp} (a : bU p H H1) (b : bU p H1 H2) : bU p H H2 := fun c o n h => b c o n (a c o n h)
theorem bU.upd {p : Addr} {H : Hp} {o : HO} : bU p H (upd H p o) := fun b u n h => by rw [aG n]; exact h
theorem Same.x {p : Addr} {H H' : Hp} (h : Same H H') : bU p H H' := fun b o _ q => h b o q
theorem au {H : Hp} {p : Addr} {o : HO} (h : H p = none) : Same H (upd H p o) := fun b u q => by rw [aG (aJ q h)]; exact q
structure Cal (P : Program) (w : World) (K : PySem.W.Frag) (mg : Str → Option Value) (base : Heap) (x : Str) (k : Nat) (ps : List Str) (sp : Sp) : Prop where
 ex : ∃ (f : Addr) (fd : FuncData), dH P w K mg base CX0 k f fd ps sp ∧ Binds K fd ps [] ∧ PySem.W.keepIn K (.ref f) = true ∧ mg x = some (.ref f)
section
variable {X : Cx} {k : Nat} {ps : List Str} {sp : Sp} {x : Str} {p pos : Pos} {e : Expr} {es : List Expr} {t : TA}
theorem Uh (C : Cal X.prog X.w X.K X.mg X.base x k ps sp) (hr : fB k X.A) (hg : Gl X x) (ha : PA X (e :: es) t) (hdb : (x == ("__debug__" : Str)) = false := by decide)
  (he : starEach (e :: es) X.env = (false, eval e X.env) :: starEach es X.env := by rfl) (hpl : (backTo pos (starEach es X.env)).any (·.1) = false := by rfl) : PE X (.Call (.Name x p) (e :: es) [] pos) (rK sp [] E0 t) := by
 obtain ⟨f, fd, F, b, kp, hm⟩ := C.ex
 exact CV F hr hg hm kp b .nil Wc ha hdb he hpl
end
structure gP (K : PySem.W.Frag) (mg : Str → Option Value) (x : Str) (st : Stmt) (ps : List Str) (f : Addr) (fd : FuncData) : Prop where
 fn : Fun K x x st f fd
 bd : Binds K fd ps []
 nm : mg x = some (.ref f)
theorem gP.cal {P : Program} {w : World} {K : PySem.W.Frag} {mg : Str → Option Value} {base : Heap} {x : Str} {st : Stmt} {ps : List Str} {f : Addr} {fd : FuncData} {k : Nat} {sp : Sp} (D : gP K mg x st ps f fd) (F : dH P w K mg base CX0 k f fd ps sp) : Cal P w K mg base x k ps sp :=
 ⟨f, fd, F, D.bd, D.fn.kp, D.nm⟩
theorem Il (i j : Int) : qz (.int i) (.int j) = true := rfl
theorem Nb (i j : Bool) : qz (.bl i) (.bl j) = true := rfl
theorem Ij (i j : Str) : qz (.str i) (.str j) = true := rfl
theorem Ik : qz .non .non = true := rfl
theorem M8 (i : Int) : qz (.int i) .non = true := rfl
theorem M6 (i : Int) : qz .non (.int i) = true := rfl
theorem M7 (i : Int) (x : Str) : qz (.int i) (.str x) = true := rfl
theorem M4 (i : Int) (x : Str) : qz (.str x) (.int i) = true := rfl
theorem Ww {α : Type} (a : α) (r : List α) : atI (a :: r) 0 = some a := cM (j := 0) rfl
theorem Wv {α : Type} (a b : α) (r : List α) : atI (a :: b :: r) 1 = some b := cM (j := 1) rfl
theorem Wu {α : Type} (a b c : α) (r : List α) : atI (a :: b :: c :: r) 2 = some c := cM (j := 2) rfl
theorem Ku : ixN 3 0 = some 0 ∧ ixN 3 1 = some 1 ∧ ixN 3 2 = some 2 := ⟨by decide, by decide, by decide⟩
theorem aQ {n : Nat} (h : n ≤ 1000000) : n ≤ sizeLine := Nat.le_trans h (by decide)
def ixq (o : Option HO) (i : Int) (H : Hp) (Q : VK) : Prop := match o with
 | some (.lst xs) => ∃ v, atI xs i = some v ∧ Q v H
 | some (.tup xs) => ∃ v, atI xs i = some v ∧ Q v H
 | _ => False
def stq (o : Option HO) (p : Addr) (k : Int) (v : V) (H : Hp) (Q : Hp → Prop) : Prop := match o with
 | some (.lst xs) => ∃ j, ixN xs.length k = some j ∧ Q (upd H p (.lst (xs.set j v)))
 | _ => False
def lnq (o : Option HO) (H : Hp) (Q : VK) : Prop := match o with
 | some (.lst ys) => Q (.int ys.length) H
 | some (.tup ys) => Q (.int ys.length) H
 | _ => False
def NP : R2 := fun x y H Q => match x, y with
 | .ref p, .int i => ixq (H p) i H Q
 | _, _ => False
def Ja : V → V → V → Hp → (Hp → Prop) → Prop := fun o i v H Q => match o, i with
 | .ref p, .int k => stq (H p) p k v H Q
 | _, _ => False
def CJ : List V → Hp → VK → Prop := fun xs H Q => match xs with
 | [.ref p] => lnq (H p) H Q
 | _ => False
theorem Jl (p : Addr) (i : Int) (H : Hp) (Q : VK) : NP (.ref p) (.int i) H Q = ixq (H p) i H Q := rfl
theorem Fe (p : Addr) (k : Int) (v : V) (H : Hp) (Q : Hp → Prop) : Ja (.ref p) (.int k) v H Q = stq (H p) p k v H Q := rfl
theorem Fi (p : Addr) (H : Hp) (Q : VK) : CJ [.ref p] H Q = lnq (H p) H Q := rfl
theorem Qw (xs : List V) (i : Int) (H : Hp) (Q : VK) : ixq (some (.lst xs)) i H Q = ∃ v, atI xs i = some v ∧ Q v H := rfl
theorem Qv (xs : List V) (i : Int) (H : Hp) (Q : VK) : ixq (some (.tup xs)) i H Q = ∃ v, atI xs i = some v ∧ Q v H := rfl
theorem MK (xs : List V) (p : Addr) (k : Int) (v : V) (H : Hp) (Q : Hp → Prop) : stq (some (.lst xs)) p k v H Q = ∃ j, ixN xs.length k = some j ∧ Q (upd H p (.lst (xs.set j v))) := rfl
theorem Qq (xs : List V) (H : Hp) (Q : VK) : lnq (some (.lst xs)) H Q = Q (.int xs.length) H := rfl
theorem Qp (xs : List V) (H : Hp) (Q : VK) : lnq (some (.tup xs)) H Q = Q (.int xs.length) H := rfl
section
variable {X : Cx}
theorem cF : IxR X NP := by
 intro value slice pins s σ H x y v u Q I rx ry h hs
 unfold NP at h
 split at h
 ·rename_i p i
  unfold ixq at h
  split at h
  ·rename_i xs e
   obtain ⟨z, hz, q⟩ := h
   exact Dp value slice pins s σ H _ _ v u Q I rx ry ⟨p, xs, i, z, rfl, rfl, SqL.of e, hz, q⟩ hs
  ·rename_i xs e
   obtain ⟨z, hz, q⟩ := h
   exact U6 value slice pins s σ H _ _ v u Q I rx ry ⟨p, xs, i, z, rfl, rfl, SqT.of e, hz, q⟩ hs
  ·exact h.elim
 ·exact h.elim
theorem Ii : Rt X Ja := by
 intro pins s σ H o i v ov iv u Q I ro ri rv h
 unfold Ja at h
 split at h
 ·rename_i p k
  unfold stq at h
  split at h
  ·rename_i xs e
   obtain ⟨j, hj, q⟩ := h
   exact set_list pins s σ H _ _ v ov iv u Q I ro ri rv ⟨p, xs, k, j, rfl, rfl, e, hj, q⟩
  ·exact h.elim
 ·exact h.elim
theorem cg : cO X (.builtin "len") CJ := by
 intro pins s σ H xs us Q I r h
 unfold CJ at h
 split at h
 ·rename_i p
  unfold lnq at h
  split at h
  ·rename_i ys e
   exact iG pins s σ H _ us Q I r ⟨p, ys, rfl, .inl (SqL.of e), h⟩
  ·rename_i ys e
   exact iG pins s σ H _ us Q I r ⟨p, ys, rfl, .inr (SqT.of e), h⟩
  ·exact h.elim
 ·exact h.elim
end
def CK : List V → Hp → VK → Prop := fun xs H Q => match xs with
 | [.int i] => Q (.int i) H
 | [.bl k] => Q (.int (if k then 1 else 0)) H
 | _ => False
theorem NQ (i : Int) (H : Hp) (Q : VK) : CK [.int i] H Q = Q (.int i) H := rfl
theorem NT (k : Bool) (H : Hp) (Q : VK) : CK [.bl k] H Q = Q (.int (if k then 1 else 0)) H := rfl
theorem ug {X : Cx} : cO X (.type "int") CK := by
 intro pins s σ H xs us Q I r h
 unfold CK at h
 split at h
 ·exact vQ pins s σ H _ us Q I r (.inl ⟨_, rfl, h⟩)
 ·exact vQ pins s σ H _ us Q I r (.inr ⟨_, rfl, h⟩)
 ·exact h.elim
theorem aP {t u : TS} {D : Ends} {σ : St} {H : Hp} (h : ∀ k, k = u D → t { D with nx := k } σ H) : Mz t u D σ H := h _ rfl
theorem qp {wi : TI} {g : TG} {tb : TS} {D : Ends} {σ : St} {H : Hp} (h : ∀ R : It → Hp → Prop, R = (fun J H1 => ∃ W : Nat → Nat → St → Hp → Prop, (∃ m, W 0 m σ H1) ∧ ∀ i m σ H, W i m σ H →
  (J.stop i H ∧ D.nx σ H) ∨ (J.go i H ∧ ∃ N : St → Hp → Prop, (∀ σ' H', N σ' H' → ∃ m', m' < m ∧ W (i + 1) m' σ' H') ∧ ∀ x H', J.yld i H x H' → g x σ H' fun σ2 H2 => tb { D with nx := N, ct := N, bk := D.nx } σ2 H2)) → wi σ H R) : Sx wi g tb D σ H := h _ rfl
theorem Dw {lo : Int} {n : Nat} {g : TG} {tb : TS} {D : Ends} {σ : St} {H : Hp} {R : It → Hp → Prop} (hR : R = (fun J H1 => ∃ W : Nat → Nat → St → Hp → Prop, (∃ m, W 0 m σ H1) ∧ ∀ i m σ H, W i m σ H →
  (J.stop i H ∧ D.nx σ H) ∨ (J.go i H ∧ ∃ N : St → Hp → Prop, (∀ σ' H', N σ' H' → ∃ m', m' < m ∧ W (i + 1) m' σ' H') ∧ ∀ x H', J.yld i H x H' → g x σ H' fun σ2 H2 => tb { D with nx := N, ct := N, bk := D.nx } σ2 H2)))
  (Pv : Nat → St → Hp → Prop) (h0 : Pv 0 σ H) (hs : ∀ i σ H, i < n → Pv i σ H → g (.int (lo + i)) σ H fun σ2 H2 => tb { D with nx := Pv (i + 1), ct := Pv (i + 1), bk := D.nx } σ2 H2) (hd : ∀ σ H, Pv n σ H → D.nx σ H) : R (Itr lo n) H := by
 subst hR
 exact Gk Pv h0 hs hd
theorem Ws {K : PySem.W.Frag} {a : Addr} {xs : List V} {g : TG} {tb : TS} {D : Ends} {σ : St} {H : Hp} {R : It → Hp → Prop} (hR : R = (fun J H1 => ∃ W : Nat → Nat → St → Hp → Prop, (∃ m, W 0 m σ H1) ∧ ∀ i m σ H, W i m σ H →
  (J.stop i H ∧ D.nx σ H) ∨ (J.go i H ∧ ∃ N : St → Hp → Prop, (∀ σ' H', N σ' H' → ∃ m', m' < m ∧ W (i + 1) m' σ' H') ∧ ∀ x H', J.yld i H x H' → g x σ H' fun σ2 H2 => tb { D with nx := N, ct := N, bk := D.nx } σ2 H2)))
  (Pv : Nat → St → Hp → Prop) (h0 : Pv 0 σ H) (hl : ∀ i σ H, i ≤ xs.length → Pv i σ H → SqL K H a xs) (hs : ∀ i x σ H, xs[i]? = some x → Pv i σ H → g x σ H fun σ2 H2 => tb { D with nx := Pv (i + 1), ct := Pv (i + 1), bk := D.nx } σ2 H2) (hd : ∀ σ H, Pv xs.length σ H → D.nx σ H) : R (Itl K a) H := by
 subst hR
 exact K4 Pv h0 hl hs hd
def xW (mp : List (Option Nat)) (g : TG) (tc : TT) (te : TE) (σ : St) (Q : VK) (J : It) (H1 : Hp) : Prop := ∃ W : Nat → Nat → List V → St → Hp → Prop, (∃ m, W 0 m [] (jk mp σ) H1) ∧ ∀ i m acc τ H2, W i m acc τ H2 →
  (J.stop i H2 ∧ ∀ d, H2 d = none → Q (.ref d) (upd H2 d (.lst acc))) ∨
  (J.go i H2 ∧ acc.length < sizeLine ∧ ∃ N : List V → St → Hp → Prop, (∀ acc' τ' H', N acc' τ' H' → ∃ m', m' < m ∧ W (i + 1) m' acc' τ' H') ∧ ∀ x H3, J.yld i H2 x H3 → g x τ H3 fun τ1 H4 => tc τ1 H4 fun b H5 =>
   if b = true then te τ1 H5 fun v H6 => N (acc ++ [v]) τ1 H6 else N acc τ1 H5)
theorem gC {mp : List (Option Nat)} {wi : TI} {g : TG} {tc : TT} {te : TE} {σ : St} {H : Hp} {Q : VK} (h : ∀ R : It → Hp → Prop, R = xW mp g tc te σ Q → wi σ H R) : uV mp wi g tc te σ H Q := h _ rfl
theorem lR {J : It} {mp : List (Option Nat)} {g : TG} {tc : TT} {te : TE} {σ : St} {H : Hp} {Q : VK} {R : It → Hp → Prop} (hR : R = xW mp g tc te σ Q) (n : Nat) (hz : n ≤ sizeLine) (Pv : Nat → List V → St → Hp → Prop) (h0 : Pv 0 [] (jk mp σ) H)
  (hl : ∀ i acc τ H, Pv i acc τ H → acc.length ≤ i) (hgo : ∀ i acc τ H, i < n → Pv i acc τ H → J.go i H) (hst : ∀ acc τ H, Pv n acc τ H → J.stop n H)
  (hs : ∀ i acc τ H x H3, i < n → Pv i acc τ H → J.yld i H x H3 → g x τ H3 fun τ1 H4 => tc τ1 H4 fun b H5 => if b = true then te τ1 H5 fun v H6 => Pv (i + 1) (acc ++ [v]) τ1 H6 else Pv (i + 1) acc τ1 H5)
  (hd : ∀ acc τ H d, Pv n acc τ H → H d = none → Q (.ref d) (upd H d (.lst acc))) : R J H := by
 subst hR
 refine ⟨fun i m acc τ H2 => m = n - i ∧ i ≤ n ∧ Pv i acc τ H2, ⟨_, rfl, Nat.zero_le _, h0⟩, ?_⟩
 rintro i m acc τ H2 ⟨rfl, hi, p⟩
 have q3 := hl i acc τ H2 p
 by_cases hlt : i < n
 ·exact .inr ⟨hgo i acc τ H2 hlt p, by omega, Pv (i + 1), fun acc' τ' H' q => ⟨_, by omega, rfl, hlt, q⟩, fun x H3 y => hs i acc τ H2 x H3 hlt p y⟩
 ·have e : i = n := by omega
  subst e
  exact .inl ⟨hst acc τ H2 p, fun d hd' => hd acc τ H2 d p hd'⟩
structure Nm (N : List Str) (sc : Scope) (i : Nat) (x : Str) : Prop where
 hN : N[i]? = some x
 hv : Loc sc x
 hd : (x == ("__debug__" : Str)) = false
 hcd : (x == ("__classdict__" : Str)) = false
def Wj (N : List Str) (sc : Scope) (i : Nat) (x : Str) : Bool := decide (N[i]? = some x) && (decide (sc.names.lookup x = some .local) || decide (sc.names.lookup x = some .cell)) && !(x == ("__debug__" : Str)) && !(x == ("__classdict__" : Str))
theorem Nm.of {N : List Str} {sc : Scope} {i : Nat} {x : Str} (h : Wj N sc i x = true) : Nm N sc i x := by
 unfold Wj at h
 rw [Bool.and_eq_true, Bool.and_eq_true, Bool.and_eq_true, Bool.or_eq_true] at h
 obtain ⟨⟨⟨h1, h2⟩, h3⟩, h4⟩ := h
 exact ⟨of_decide_eq_true h1, h2.elim (fun z => .inl (of_decide_eq_true z)) (fun z => .inr (of_decide_eq_true z)), by simpa using h3, by simpa using h4⟩
structure Bn (x : Str) : Prop where
 hn : x ≠ "__name__"
 hd : (x == ("__debug__" : Str)) = false
section
variable {X : Cx} {i : Nat} {x : Str} {pos pos' p : Pos} {e : Expr} {es : List Expr} {te : TE} {t : TA} {k : Nat} {ps : List Str} {sp : Sp} {id T : String} {r : List V → Hp → VK → Prop}
theorem pn (n : Nm X.N X.env.scope i x) : PE X (.Name x pos) (Ho i) := JK n.hN (n.hv.elim .inl fun z => .inr (.inl z)) n.hd n.hcd
theorem VR (n : Nm X.N X.env.scope i x) (hN : X.N.Nodup) (he : PE X e te) (hs : swapsWith e (some (.Name x pos')) pos.line X.env = pure false := by rfl) (hf : X.fn x = true ∨ X.env.scope.names.lookup x = some .local := by exact .inl rfl) :
  PS X (.Assign [.Name x pos'] e pos) (ye te (mG i)) := TF hN n.hN n.hv he hs hf
theorem V1 (n : Nm X.N X.env.scope i x) (hN : X.N.Nodup) (hf : X.fn x = true ∨ X.env.scope.names.lookup x = some .local := by exact .inl rfl) : PG X (.Name x pos) (mG i) := CT hN n.hN n.hv hf
theorem V7 (C : Cal X.prog X.w X.K X.mg X.base x k ps sp) (hr : fB k X.A) (hg : Gl X x) (hdb : Bn x) (ha : PA X (e :: es) t)
  (he : starEach (e :: es) X.env = (false, eval e X.env) :: starEach es X.env := by rfl) (hpl : (backTo pos (starEach es X.env)).any (·.1) = false := by rfl) : PE X (.Call (.Name x p) (e :: es) [] pos) (rK sp [] E0 t) :=
 Uh C hr hg ha hdb.hd he hpl
theorem V8 (hc : cO X (.builtin id) r) (hg : Gl X x) (hm : X.mg x = none) (hv : bootBuiltins x = some (.builtin id)) (b : Bn x) (ha : PA X (e :: es) t)
  (he : starEach (e :: es) X.env = (false, eval e X.env) :: starEach es X.env := by rfl) (hpl : (backTo pos (starEach es X.env)).any (·.1) = false := by rfl) : PE X (.Call (.Name x p) (e :: es) [] pos) (tCB r t) := JR hc hg hm hv ha b.hn b.hd he hpl
theorem V6 (hc : cO X (.type T) r) (hg : Gl X x) (hm : X.mg x = none) (hv : bootBuiltins x = some (.type T)) (b : Bn x) (ha : PA X (e :: es) t)
  (he : starEach (e :: es) X.env = (false, eval e X.env) :: starEach es X.env := by rfl) (hpl : (backTo pos (starEach es X.env)).any (·.1) = false := by rfl) : PE X (.Call (.Name x p) (e :: es) [] pos) (tCB r t) := Ft hc hg hm hv ha b.hn b.hd he hpl
theorem V9 (n : String) (hg : Gl X x) (hm : X.mg x = none) (hv : bootBuiltins x = some (.type n)) (b : Bn x) : PE X (.Name x pos) (tC (.ty n)) := Pu hg hm hv rfl b.hn b.hd
end
theorem dG : Bn "len" := ⟨by decide +kernel, by decide +kernel⟩
theorem Lx : Bn "abs" := ⟨by decide +kernel, by decide +kernel⟩
theorem Vl : Bn "min" := ⟨by decide +kernel, by decide +kernel⟩
theorem Vm : Bn "max" := ⟨by decide +kernel, by decide +kernel⟩
theorem uh : Bn "all" := ⟨by decide +kernel, by decide +kernel⟩
theorem Lw : Bn "any" := ⟨by decide +kernel, by decide +kernel⟩
theorem aN : Bn "isinstance" := ⟨by decide +kernel, by decide +kernel⟩
theorem qb : Bn "int" := ⟨by decide +kernel, by decide +kernel⟩
theorem xO : Bn "list" := ⟨by decide +kernel, by decide +kernel⟩
theorem fM : Bn "tuple" := ⟨by decide +kernel, by decide +kernel⟩
theorem pZ : Bn "str" := ⟨by decide +kernel, by decide +kernel⟩
theorem rA : Bn "bool" := ⟨by decide +kernel, by decide +kernel⟩
def tyO : Option HO → Option String
 | some (.lst _) => some "list"
 | some (.tup _) => some "tuple"
 | _ => none
def tyN (x : V) (H : Hp) : Option String := match x with
 | .non => some "NoneType"
 | .bl _ => some "bool"
 | .int _ => some "int"
 | .str _ => some "str"
 | .ref a => tyO (H a)
 | _ => none
theorem Tn.of {x : V} {H : Hp} {t : String} (h : tyN x H = some t) : Tn H x t := by
 cases x with
 | non => cases h; exact .non
 | bl b => cases h; exact .bl b
 | int i => cases h; exact .int i
 | str s => cases h; exact .str s
 | ref a =>
  have h' : tyO (H a) = some t := h
  cases e : H a with
  | none => rw [e] at h'; cases h'
  | some o =>
   rw [e] at h'
   cases o with
   | lst xs => cases h'; exact .lst e
   | tup xs => cases h'; exact .tup e
   | _ => cases h'
 | _ => cases h
def Jq : List V → Hp → VK → Prop := fun xs H Q => match xs with
 | [x, .ty T] => ∃ t, tyN x H = some t ∧ dX.contains T = true ∧ Q (.bl (dI t T)) H
 | _ => False
def i2q (o : Option HO) (x : V) (H : Hp) (Q : VK) : Prop := match o with
 | some (.tup [.ty T, .ty U]) => ∃ t, tyN x H = some t ∧ dX.contains T = true ∧ dX.contains U = true ∧ Q (.bl (dI t T || dI t U)) H
 | _ => False
def Jo : List V → Hp → VK → Prop := fun xs H Q => match xs with
 | [x, .ref p] => i2q (H p) x H Q
 | _ => False
theorem cG {X : Cx} : cO X (.builtin "isinstance") Jq := by
 intro pins s σ H xs us Q I r h
 unfold Jq at h
 split at h
 ·obtain ⟨t, e, k, q⟩ := h
  exact Gw pins s σ H _ us Q I r ⟨_, _, t, rfl, Tn.of e, by simpa using k, q⟩
 ·exact h.elim
theorem Gu {X : Cx} : cO X (.builtin "isinstance") Jo := by
 intro pins s σ H xs us Q I r h
 unfold Jo at h
 split at h
 ·rename_i x p
  unfold i2q at h
  split at h
  ·rename_i T U e
   obtain ⟨t, e1, k1, k2, q⟩ := h
   refine Gv pins s σ H _ us Q I r ⟨x, p, [T, U], t, rfl, e, Tn.of e1, fun z hz => ?_, by simpa using q⟩
   rcases List.mem_cons.mp hz with rfl | hz
   ·simpa using k1
   ·obtain rfl := List.mem_singleton.mp hz
    simpa using k2
  ·exact h.elim
 ·exact h.elim
theorem Jp (x : V) (T : String) (H : Hp) (Q : VK) : Jq [x, .ty T] H Q = ∃ t, tyN x H = some t ∧ dX.contains T = true ∧ Q (.bl (dI t T)) H := rfl
theorem Jm (x : V) (p : Addr) (H : Hp) (Q : VK) : Jo [x, .ref p] H Q = i2q (H p) x H Q := rfl
theorem Vd (x : V) (T U : String) (H : Hp) (Q : VK) : i2q (some (.tup [.ty T, .ty U])) x H Q = ∃ t, tyN x H = some t ∧ dX.contains T = true ∧ dX.contains U = true ∧ Q (.bl (dI t T || dI t U)) H := rfl
theorem Qu : dX.contains "list" = true := by decide
theorem Km : dX.contains "tuple" = true := by decide
theorem U5 : dX.contains "int" = true := by decide
theorem U4 : dX.contains "str" = true := by decide
theorem kc_bool : dX.contains "bool" = true := by decide
theorem ty_int (i : Int) (H : Hp) : tyN (.int i) H = some "int" := rfl
theorem Vv (i : Bool) (H : Hp) : tyN (.bl i) H = some "bool" := rfl
theorem ty_str (i : Str) (H : Hp) : tyN (.str i) H = some "str" := rfl
theorem RZ (H : Hp) : tyN .non H = some "NoneType" := rfl
theorem RX (p : Addr) (H : Hp) : tyN (.ref p) H = tyO (H p) := rfl
theorem Mr (xs : List V) : tyO (some (.lst xs)) = some "list" := rfl
theorem Mq (xs : List V) : tyO (some (.tup xs)) = some "tuple" := rfl
theorem oZ : dI "NoneType" "bool" = false := by decide
theorem qF : dI "NoneType" "int" = false := by decide
theorem qC : dI "NoneType" "str" = false := by decide
theorem oY : dI "NoneType" "list" = false := by decide
theorem nq : dI "NoneType" "tuple" = false := by decide
theorem wL : dI "bool" "bool" = true := by decide
theorem yw : dI "bool" "int" = true := by decide
theorem yu : dI "bool" "str" = false := by decide
theorem wK : dI "bool" "list" = false := by decide
theorem uz : dI "bool" "tuple" = false := by decide
theorem yt : dI "int" "bool" = false := by decide
theorem Ag : dI "int" "int" = true := by decide
theorem Af : dI "int" "str" = false := by decide
theorem yr : dI "int" "list" = false := by decide
theorem wJ : dI "int" "tuple" = false := by decide
theorem yo : dI "str" "bool" = false := by decide
theorem Ae : dI "str" "int" = false := by decide
theorem Ad : dI "str" "str" = true := by decide
theorem yj : dI "str" "list" = false := by decide
theorem wG : dI "str" "tuple" = false := by decide
theorem wI : dI "list" "bool" = false := by decide
theorem yq : dI "list" "int" = false := by decide
theorem yp : dI "list" "str" = false := by decide
theorem wH : dI "list" "list" = true := by decide
theorem ux : dI "list" "tuple" = false := by decide
theorem uw : dI "tuple" "bool" = false := by decide
theorem wF : dI "tuple" "int" = false := by decide
theorem wD : dI "tuple" "str" = false := by decide
theorem ur : dI "tuple" "list" = false := by decide
theorem rR : dI "tuple" "tuple" = true := by decide
def gtq (o : Option HO) (n : Nat) (t : TGs) (σ : St) (H : Hp) (Q : St → Hp → Prop) : Prop := match o with
 | some (.tup xs) => xs.length = n ∧ t xs σ H Q
 | _ => False
def Dv (n : Nat) (t : TGs) : TG := fun v σ H Q => match v with
 | .ref a => gtq (H a) n t σ H Q
 | _ => False
theorem Gj (n : Nat) (t : TGs) (a : Addr) (σ : St) (H : Hp) (Q : St → Hp → Prop) : Dv n t (.ref a) σ H Q = gtq (H a) n t σ H Q := rfl
theorem Q0 (xs : List V) (n : Nat) (t : TGs) (σ : St) (H : Hp) (Q : St → Hp → Prop) : gtq (some (.tup xs)) n t σ H Q = (xs.length = n ∧ t xs σ H Q) := rfl
def qtq (o : Option HO) (f : List Bool → Bool) (H : Hp) (Q : VK) : Prop := match o with
 | some (.lst xs) => ∃ bs, xs = List.map V.bl bs ∧ Q (.bl (f bs)) H
 | _ => False
def nG (f : List Bool → Bool) : List V → Hp → VK → Prop := fun xs H Q => match xs with
 | [.ref p] => qtq (H p) f H Q
 | _ => False
theorem yE (f : List Bool → Bool) (p : Addr) (H : Hp) (Q : VK) : nG f [.ref p] H Q = qtq (H p) f H Q := rfl
theorem Oj (f : List Bool → Bool) (xs : List V) (H : Hp) (Q : VK) : qtq (some (.lst xs)) f H Q = ∃ bs, xs = List.map V.bl bs ∧ Q (.bl (f bs)) H := rfl
section
variable {X : Cx} {es : List Expr} {k : Nat} {t : TGs} {n : Nat} {pos : Pos}
theorem Pg (hc : X.calm = true) (h : PGs X es t) (hn : (assignEach es X.env).length = n := by rfl) (hst : (assignEach es X.env).findIdx? (·.1) = none := by rfl) : PG X (.Tuple es k pos) (Dv n t) := by
 intro pins s σ H v u Q I r hw
 unfold Dv at hw
 split at hw
 ·rename_i a
  unfold gtq at hw
  split at hw
  ·rename_i xs e
   exact T7 hc h hn hst pins s σ H _ u Q I r ⟨a, xs, rfl, SqT.of e, hw.1, hw.2⟩
  ·exact hw.elim
 ·exact hw.elim
theorem jB (hc : X.calm = true) : cO X (.builtin "all") (nG fun bs => bs.all id) := by
 intro pins s σ H xs us Q I r h
 unfold nG at h
 split at h
 ·rename_i p
  unfold qtq at h
  split at h
  ·rename_i ys e
   obtain ⟨bs, rfl, q⟩ := h
   exact Ls hc pins s σ H _ us Q I r ⟨p, bs, rfl, SqL.of e, q⟩
  ·exact h.elim
 ·exact h.elim
theorem vR (hc : X.calm = true) : cO X (.builtin "any") (nG fun bs => bs.any id) := by
 intro pins s σ H xs us Q I r h
 unfold nG at h
 split at h
 ·rename_i p
  unfold qtq at h
  split at h
  ·rename_i ys e
   obtain ⟨bs, rfl, q⟩ := h
   exact Lr hc pins s σ H _ us Q I r ⟨p, bs, rfl, SqL.of e, q⟩
  ·exact h.elim
 ·exact h.elim
end
def Jf : List V → Hp → VK → Prop := fun xs H Q => match xs with
 | [.int i, .int j] => Q (.int (if j < i then j else i)) H
 | _ => False
def Jh : List V → Hp → VK → Prop := fun xs H Q => match xs with
 | [.int i, .int j] => Q (.int (if j > i then j else i)) H
 | _ => False
theorem Je (i j : Int) (H : Hp) (Q : VK) : Jf [.int i, .int j] H Q = Q (.int (if j < i then j else i)) H := rfl
theorem Jg (i j : Int) (H : Hp) (Q : VK) : Jh [.int i, .int j] H Q = Q (.int (if j > i then j else i)) H := rfl
theorem Gn {X : Cx} (hc : X.calm = true) : cO X (.builtin "min") Jf := by
 intro pins s σ H xs us Q I r h
 unfold Jf at h
 split at h
 ·exact Gp hc pins s σ H _ us Q I r ⟨_, _, rfl, h⟩
 ·exact h.elim
theorem Gq {X : Cx} (hc : X.calm = true) : cO X (.builtin "max") Jh := by
 intro pins s σ H xs us Q I r h
 unfold Jh at h
 split at h
 ·exact Gr hc pins s σ H _ us Q I r ⟨_, _, rfl, h⟩
 ·exact h.elim
structure QE (X : Cx) (e : Expr) (t : TE) : Prop where
 h : PE X e t
structure QT (X : Cx) (e : Expr) (t : TT) : Prop where
 h : PT X e t
structure QW (X : Cx) (e : Expr) (t : TT) : Prop where
 h : PW X e t
structure QA (X : Cx) (es : List Expr) (t : TA) : Prop where
 h : PA X es t
structure QS (X : Cx) (st : Stmt) (t : TS) : Prop where
 h : PS X st t
structure QB (X : Cx) (st : List Stmt) (t : TS) : Prop where
 h : PSs X st t
structure QG (X : Cx) (e : Expr) (t : TG) : Prop where
 h : PG X e t
structure QGs (X : Cx) (es : List Expr) (t : TGs) : Prop where
 h : PGs X es t
structure QI (X : Cx) (tg e : Expr) (t : TI) : Prop where
 h : PI X tg e t
structure QC (X : Cx) (cs : List Expr) (t : TT) : Prop where
 h : PTs X cs t
section
variable {X : Cx} {i : Nat} {x : Str} {pos pos' p tpos : Pos} {e a b c o : Expr} {es rest : List Expr} {te ta tb tc to ti : TE} {tA tB' : TT} {t : TA} {k n kk : Nat} {ps : List Str} {sp : Sp} {id T : String} {r : List V → Hp → VK → Prop} {st : Stmt} {sts : List Stmt} {ts us : TS} {tg iter : Expr} {wi : TI} {g : TG} {gs : TGs}
theorem aA (h : Nm X.N X.env.scope i x) : QE X (.Name x pos) (Ho i) := ⟨pn h⟩
theorem jc (i : Nat) {x : Str} {pos : Pos} (hN : X.N[i]? = some x := by rfl) (hv : Vis X.env.scope x := by first | exact Or.inl rfl | exact Or.inr (Or.inl rfl) | exact Or.inr (Or.inr rfl)) (hd : (x == ("__debug__" : Str)) = false := by decide)
  (hcd : (x == ("__classdict__" : Str)) = false := by decide) : QE X (.Name x pos) (Ho i) := ⟨JK hN hv hd hcd⟩
theorem aq {i j pos} : QE X (.Constant (.int i) j pos) (tC (.int i)) := ⟨Ug⟩
theorem jR {b j pos} : QE X (.Constant (.bool b) j pos) (tC (.bl b)) := ⟨Wb⟩
theorem cQ {j pos} : QE X (.Constant .none j pos) (tC .non) := ⟨Ud⟩
theorem aH {x j pos} : QE X (.Constant (.str x) j pos) (tC (.str x)) := ⟨Ua⟩
theorem aK {op : Operator} {r : R2} (ho : OpR X (binaryOp op) r) (ha : QE X a ta) (hb : QE X b tb) : QE X (.BinOp a op b pos) (tOp r ta tb) := ⟨V4 ho ha.h hb.h⟩
theorem sG {op : UnaryOp} {r : V → Hp → VK → Prop} (ho : UnR X (unaryOp op) r) (ha : QE X a ta) : QE X (.UnaryOp op a pos) (tUn r ta) := ⟨V2 ho ha.h⟩
theorem Jw (ha : QE X a ta) : QE X (.UnaryOp .Not a pos) (Ht ta) := ⟨Uc ha.h⟩
theorem fj {op : CmpOp} {r : R2} (ho : OpR X (compareOp op) r) (ha : QE X a ta) (hb : QE X b tb) (hm : behindInMarks op b = false) : QE X (.Compare a [op] [b] pos) (tOp r ta tb) := ⟨Pr ho ha.h hb.h hm⟩
theorem aU {op : CmpOp} {r : R2} (ho : OpR X (compareOp op) r) (ha : QE X a ta) (hb : QE X b tb) (hm : behindInMarks op b = false) : QT X (.Compare a [op] [b] pos) (yd (tOp r ta tb)) := ⟨Ox ho ha.h hb.h hm⟩
theorem nP {op op' : CmpOp} {r r' : R2} (ho : OpR X (compareOp op) r) (ho' : OpR X (compareOp op') r') (ha : QE X a ta) (hb : QE X b tb) (hc : QE X c tc)
  (hm : lastMarks [op, op'] [b, c] = false := by with_unfolding_all rfl) : QE X (.Compare a [op, op'] [b, c] pos) (rJ r r' ta tb tc) := ⟨JQ ho ho' ha.h hb.h hc.h hm⟩
theorem nJ {op op' : CmpOp} {r r' : R2} (ho : OpR X (compareOp op) r) (ho' : OpR X (compareOp op') r') (ha : QE X a ta) (hb : QE X b tb) (hc : QE X c tc)
  (hm : lastMarks [op, op'] [b, c] = false := by with_unfolding_all rfl) : QT X (.Compare a [op, op'] [b, c] pos) (yd (rJ r r' ta tb tc)) := ⟨Jz ho ho' ha.h hb.h hc.h hm⟩
theorem jd {op} (h : QE X a ta) : QE X (.BoolOp op [a] pos) ta := ⟨Ub h.h⟩
theorem iu (ha : QE X a ta) (hb : QE X (.BoolOp .And (b :: rest) pos) tb) : QE X (.BoolOp .And (a :: b :: rest) pos) (HN ta tb) := ⟨Ui ha.h hb.h⟩
theorem nM (hc : QT X c tA) (ha : QE X a ta) (hb : QE X b tb) : QE X (.IfExp c a b pos) (tIf tA ta tb) := ⟨JM hc.h ha.h hb.h⟩
theorem aZ {r : R2} (hr : IxR X r) (ha : QE X a ta) (hb : QE X b tb) (hs : Eb b) : QE X (.Subscript a b pos) (tOp r ta tb) := ⟨V5 hr ha.h hb.h hs⟩
theorem fV (h : QA X es t) : QE X (.List es pos) (Ss t) := ⟨Ue h.h⟩
theorem cB {x1} (h : QA X es t) : QE X (.Tuple es x1 pos) (R7 t) := ⟨T9 h.h⟩
theorem ao : QA X [] Sq := ⟨Uk⟩
theorem aj (ha : QE X e te) (hr : QA X es t) (hs : starEach (e :: es) X.env = (false, eval e X.env) :: starEach es X.env := by rfl) : QA X (e :: es) (Hz te t) := ⟨Pz ha.h hr.h hs⟩
theorem bC (C : Cal X.prog X.w X.K X.mg X.base x k ps sp) (hr : fB k X.A) (hg : Gl X x) (hdb : Bn x) (ha : QA X (e :: es) t)
  (he : starEach (e :: es) X.env = (false, eval e X.env) :: starEach es X.env := by rfl) (hpl : (backTo pos (starEach es X.env)).any (·.1) = false := by rfl) : QE X (.Call (.Name x p) (e :: es) [] pos) (rK sp [] E0 t) := ⟨V7 C hr hg hdb ha.h he hpl⟩
theorem bw (hc : cO X (.builtin id) r) (hg : Gl X x) (hm : X.mg x = none) (hv : bootBuiltins x = some (.builtin id)) (b : Bn x) (ha : QA X (e :: es) t)
  (he : starEach (e :: es) X.env = (false, eval e X.env) :: starEach es X.env := by rfl) (hpl : (backTo pos (starEach es X.env)).any (·.1) = false := by rfl) : QE X (.Call (.Name x p) (e :: es) [] pos) (tCB r t) := ⟨V8 hc hg hm hv b ha.h he hpl⟩
theorem jQ (hc : cO X (.type T) r) (hg : Gl X x) (hm : X.mg x = none) (hv : bootBuiltins x = some (.type T)) (b : Bn x) (ha : QA X (e :: es) t)
  (he : starEach (e :: es) X.env = (false, eval e X.env) :: starEach es X.env := by rfl) (hpl : (backTo pos (starEach es X.env)).any (·.1) = false := by rfl) : QE X (.Call (.Name x p) (e :: es) [] pos) (tCB r t) := ⟨V6 hc hg hm hv b ha.h he hpl⟩
theorem gD (n : String) (hg : Gl X x) (hm : X.mg x = none) (hv : bootBuiltins x = some (.type n)) (b : Bn x) : QE X (.Name x pos) (tC (.ty n)) := ⟨V9 n hg hm hv b⟩
theorem dW (ha : QT X a tA) : QT X (.UnaryOp .Not a pos) (Sh tA) := ⟨Tw ha.h⟩
theorem cV (h : QE X e te) (he : ∀ whole, isTrue e X.env whole = (do let v ← whole; standAt e.pos; holding [v] (truthy v)) := by intro _; rfl) : QT X e (tB te) := ⟨Tt h.h he⟩
theorem iV (ha : QT X a tA) : QW X (.BoolOp .And [a] pos) tA := ⟨Ov ha.h⟩
theorem fU (ha : QT X a tA) : QW X (.BoolOp .Or [a] pos) tA := ⟨Tq ha.h⟩
theorem kh (ha : QT X a tA) (hb : QW X (.BoolOp .And (b :: rest) pos) tB') : QW X (.BoolOp .And (a :: b :: rest) pos) (Sy tA tB') := ⟨Tr ha.h hb.h⟩
theorem iz (ha : QT X a tA) (hb : QW X (.BoolOp .Or (b :: rest) pos) tB') : QW X (.BoolOp .Or (a :: b :: rest) pos) (tOr tA tB') := ⟨VP ha.h hb.h⟩
theorem iK (h : QW X e tA) : QT X e tA := ⟨h.h.pt⟩
theorem bh : QB X [] Hu := ⟨OJ⟩
theorem aF (h : QS X st ts) : QB X [st] ts := ⟨Oz h.h⟩
theorem aD (h : QS X st ts) (h2 : QB X sts us) : QB X (st :: sts) (Mz ts us) := ⟨JB h.h h2.h⟩
theorem aL (he : QE X e te) : QS X (.Return (some e) pos) (Sd te) := ⟨TQ he.h⟩
theorem bK {c : Expr} {a b : List Stmt} {tc : TT} (hc : QT X c tc) (ha : QB X a ts) (hb : QB X b us) : QS X (.If c a b pos) (Sw tc ts us) := ⟨V0 hc.h ha.h hb.h⟩
theorem iC (he : QE X e te) (hs : swapsWith e none pos.line X.env = pure false := by rfl) : QS X (.Expr e pos) (Hw te) := ⟨O3 he.h hs⟩
theorem bW (h : Nm X.N X.env.scope i x) (hN : X.N.Nodup) (he : QE X e te) (hs : swapsWith e (some (.Name x pos')) pos.line X.env = pure false := by rfl) (hf : X.fn x = true ∨ X.env.scope.names.lookup x = some .local := by exact .inl rfl) :
  QS X (.Assign [.Name x pos'] e pos) (ye te (mG i)) := ⟨VR h hN he.h hs hf⟩
theorem pA (he : QE X e te) (hg : QG X tg g) (hs : swapsWithSole [tg] e pos.line X.env = pure false := by rfl) (hw : swappedStores [tg] e X.env = pure none := by rfl)
  (h1 : (assignEach [tg] X.env).map (·.2) = [assign tg X.env] := by rfl) : QS X (.Assign [tg] e pos) (ye te g) := ⟨TY he.h hg.h hs hw h1⟩
theorem wN {i j : Nat} {x y : Str} {a b : Expr} {ta : TA} {px py pt : Pos} {kt k2 pt2} (hc : X.calm = true) (hN : X.N.Nodup) (hi : X.N[i]? = some x) (hj : X.N[j]? = some y) (hij : i ≠ j)
  (hx : X.env.scope.names.lookup x = some .local) (hy : X.env.scope.names.lookup y = some .local) (ha : QA X [a, b] ta)
  (hw : swappedStores [.Tuple [.Name x px, .Name y py] kt pt] (.Tuple [a, b] k2 pt2) X.env = pure (some [x, y]))
  (hs : swapsWithSole [.Tuple [.Name x px, .Name y py] kt pt] (.Tuple [a, b] k2 pt2) pos.line X.env = pure false := by rfl) :
  QS X (.Assign [.Tuple [.Name x px, .Name y py] kt pt] (.Tuple [a, b] k2 pt2) pos) (Sg i j ta) := ⟨TV hc hN hi hj hij hx hy ha.h hw hs⟩
theorem kj {body : List Stmt} (hp : PassesOwn (model X.prog X.w) X.A X.env X.xe) (hc : X.calm = true) (hi : QI X tg iter wi) (hg : QG X tg g) (hb : QB X body ts)
  (hs : ∀ x, foldedSetIterable iter X.env x = pure x := by intro _; rfl) : QS X (.For tg iter body [] pos) (Sx wi g ts) := ⟨TX hp hc hi.h hg.h hb.h hs⟩
theorem iB (h : Nm X.N X.env.scope i x) (hN : X.N.Nodup) (hf : X.fn x = true ∨ X.env.scope.names.lookup x = some .local := by exact .inl rfl) : QG X (.Name x pos) (mG i) := ⟨V1 h hN hf⟩
theorem eE (i : Nat) (hN : X.N.Nodup) (hi : X.N[i]? = some x) (hx : Loc X.env.scope x) (hf : X.fn x = true ∨ X.env.scope.names.lookup x = some .local := by first | exact .inl rfl | exact .inr rfl) : QG X (.Name x pos) (mG i) := ⟨CT hN hi hx hf⟩
theorem lN : QGs X [] Vg := ⟨Pb⟩
theorem dY (h1 : QG X e g) (h2 : QGs X es gs) (hs : (assignEach (e :: es) X.env).map (·.2) = assign e X.env :: (assignEach es X.env).map (·.2) := by rfl) : QGs X (e :: es) (K1 g gs) := ⟨JH h1.h h2.h hs⟩
theorem pB {n : Nat} (hc : X.calm = true) (h : QGs X es gs) (hn : (assignEach es X.env).length = n := by rfl) (hst : (assignEach es X.env).findIdx? (·.1) = none := by rfl) : QG X (.Tuple es k pos) (Dv n gs) := ⟨Pg hc h.h hn hst⟩
theorem Mg (o : Expr) (c j) (p pos : Pos) (env : Env) (v : Value) : assign (.Subscript o (.Constant c j p) pos) env v = (do
   let ov ← holding [v] (eval o env)
   let iv ← holding [v, ov] (eval (.Constant c j p) env)
   standAt pos
   holding [v, ov, iv] (setItem ov iv v)
   release [v, ov, iv] []) := rfl
theorem wO {c j} {t : Rr} (ho : QE X o to) (hi : QE X (.Constant c j p) ti) (hs : Rt X t) : QG X (.Subscript o (.Constant c j p) pos) (Ve to ti t) := ⟨T8 ho.h hi.h hs (fun v => Mg o c j p pos X.env v)⟩
theorem jl (hg : Gl X "range") (hm : X.mg "range" = none) (ha : QA X [a] t) (hs : starEach [a] X.env = [(false, eval a X.env)] := by rfl) : QI X tg (.Call (.Name "range" p) [a] [] pos) (tH t) := ⟨Fp hg hm ha.h hs⟩
theorem gK : QC X [] Mw := ⟨Ow⟩
theorem gn {NX : List Str} {kX : List (Str × NameKind)} {scope : Scope} {elt : Expr} {ifs : List Expr} {tc : TT} (N : List Str) (mp : List (Option Nat)) (hNX : X.N = NX) (hkX : X.env.scope.names = kX) (S : vY NX kX N mp scope) (hc : X.calm = true)
  (hi : QI X tg iter wi) (hg : ∀ cl C s H fp, QG (cA X N scope cl C s H fp) tg g) (ht : ∀ cl C s H fp, QC (cA X N scope cl C s H fp) ifs tc) (he : ∀ cl C s H fp, QE (cA X N scope cl C s H fp) elt te)
  (hs : ∀ x, foldedSetIterable iter X.env x = pure x := by intro _; rfl) : QE X (.ListComp elt [⟨tg, iter, ifs, 0⟩] scope pos) (uV mp wi g tc te) :=
 ⟨Pn N mp hNX hkX S hc hi.h (fun cl C s H fp => (hg cl C s H fp).h) (fun cl C s H fp => (ht cl C s H fp).h) (fun cl C s H fp => (he cl C s H fp).h) hs⟩
end
section
variable {P : Program} {w : World} {K : PySem.W.Frag} {mg : Str → Option Value} {base : Heap}
theorem Fun.okq {x qual : Str} {st : Stmt} {f : Addr} {fd : FuncData} {N ps : List Str} {k : Nat} {sp : Sp} (F : Fun K x qual st f fd) (S : bI N ps (ak st)) (len : ∀ vs H Q E, sp vs H Q E → vs.length = ps.length)
  (hbody : ∀ (cdv : Value) (A : Around) (outer : List Env) (s : Shared) (H : Hp) (vs : List V) (Q : VK) (E : XK), fB k (A.deeper (envOfC qual (ak st) s.heap.objs.size f cdv)) → sp vs H Q E →
   ∃ t, QB (uM CX0 P w K mg base N qual (ak st) f cdv A outer s H E).nox (bx st) t ∧ t { nx := fun _ H' => Q .non H', rt := Q } (L2.start N vs) H) : dH P w K mg base CX0 (k + 1) f fd ps sp :=
 F.ok S len fun cdv A outer s H vs Q E hr hsp => by
  obtain ⟨t, h, q⟩ := hbody cdv A outer s H vs Q E hr hsp
  exact ⟨t, h.h, q⟩
end
def smq (o : Option HO) (H : Hp) (Q : VK) : Prop := match o with
 | some (.lst xs) => ∃ ns : List Int, xs = ns.map V.int ∧ Q (.int ns.sum) H
 | _ => False
def VF : List V → Hp → VK → Prop := fun xs H Q => match xs with
 | [.ref p] => smq (H p) H Q
 | _ => False
theorem Fb (p : Addr) (H : Hp) (Q : VK) : VF [.ref p] H Q = smq (H p) H Q := rfl
theorem MN (xs : List V) (H : Hp) (Q : VK) : smq (some (.lst xs)) H Q = ∃ ns : List Int, xs = ns.map V.int ∧ Q (.int ns.sum) H := rfl
section
variable {X : Cx}
def VD (i : Int) (n : Nat) : List V := (List.range n).map fun k => V.int (i + (k : Nat))
def Vz (ta : TA) : TE := fun σ H Q => ta σ H fun vs H1 => ∃ i j : Int, vs = [.int i, .int j] ∧ (-(2 ^ 62) ≤ i ∧ i < 2 ^ 62 ∧ -(2 ^ 62) ≤ j ∧ j < 2 ^ 62) ∧ (j - i).toNat ≤ sizeLine ∧ ∀ p, H1 p = none → Q (.ref p) (upd H1 p (.lst (VD i (j - i).toNat)))
def adq (a b : Option HO) (H : Hp) (Q : VK) : Prop := match a, b with
 | some (.lst xs), some (.lst zs) => xs.length + zs.length ≤ sizeLine ∧ ∀ p, H p = none → Q (.ref p) (upd H p (.lst (xs ++ zs)))
 | _, _ => False
def yG : R2 := fun x y H Q => match x, y with
 | .int i, .int j => Q (.int (i + j)) H
 | .ref p, .ref q => adq (H p) (H q) H Q
 | _, _ => False
theorem Oi (i j : Int) (H : Hp) (Q : VK) : yG (.int i) (.int j) H Q = Q (.int (i + j)) H := rfl
theorem Oh (p q : Addr) (H : Hp) (Q : VK) : yG (.ref p) (.ref q) H Q = adq (H p) (H q) H Q := rfl
theorem Ca (xs zs : List V) (H : Hp) (Q : VK) : adq (some (.lst xs)) (some (.lst zs)) H Q = (xs.length + zs.length ≤ sizeLine ∧ ∀ p, H p = none → Q (.ref p) (upd H p (.lst (xs ++ zs)))) := rfl
theorem cI : OpR X (binaryOp .Add) yG := by
 intro pins s σ H x y v u Q I rx ry h
 unfold yG at h
 split at h
 ·exact Us pins s σ H _ _ v u Q I rx ry ⟨_, _, rfl, rfl, h⟩
 ·rename_i p q
  unfold adq at h
  split at h
  ·rename_i xs zs e1 e2
   exact Ur pins s σ H _ _ v u Q I rx ry ⟨p, q, xs, zs, rfl, rfl, e1, e2, h.1, h.2⟩
  ·exact h.elim
 ·exact h.elim
def eqL : List V → List V → Bool
 | [], [] => true
 | x :: xs, y :: ys => eqV x y && eqL xs ys
 | _, _ => false
def Qj (a b : Option HO) (H : Hp) (Q : VK) : Prop := match a, b with
 | some (.lst xs), some (.lst zs) => xs.all eZ = true ∧ zs.all eZ = true ∧ Q (.bl (!eqL xs zs)) H
 | _, _ => False
def Fg : R2 := fun x y H Q => match x, y with
 | .ref p, .ref q => Qj (H p) (H q) H Q
 | x, y => rNe x y H Q
theorem S8 (p q : Addr) (H : Hp) (Q : VK) : Fg (.ref p) (.ref q) H Q = Qj (H p) (H q) H Q := rfl
theorem S9 (i j : Int) (H : Hp) (Q : VK) : Fg (.int i) (.int j) H Q = rNe (.int i) (.int j) H Q := rfl
theorem Tc (i j : Bool) (H : Hp) (Q : VK) : Fg (.bl i) (.bl j) H Q = rNe (.bl i) (.bl j) H Q := rfl
theorem S7 (i j : Str) (H : Hp) (Q : VK) : Fg (.str i) (.str j) H Q = rNe (.str i) (.str j) H Q := rfl
theorem Qi (xs zs : List V) (H : Hp) (Q : VK) : Qj (some (.lst xs)) (some (.lst zs)) H Q = (xs.all eZ = true ∧ zs.all eZ = true ∧ Q (.bl (!eqL xs zs)) H) := rfl
theorem DG : ∀ (xs zs : List V), xs.length = zs.length → ((List.range xs.length).all fun j => match xs[j]?, zs[j]? with | some a, some b => eqV a b | _, _ => true) = eqL xs zs
 | [], [], _ => rfl
 | [], _ :: _, h => by cases h
 | _ :: _, [], h => by cases h
 | x :: xs, z :: zs, h => by
  have ih := DG xs zs (by simpa using h)
  rw [List.length_cons, List.range_succ_eq_map, List.all_cons, List.all_map]
  show (eqV x z && _) = (eqV x z && eqL xs zs)
  rw [← ih]
  rfl
theorem Dz : ∀ (xs zs : List V), xs.length ≠ zs.length → eqL xs zs = false
 | [], [], h => absurd rfl h
 | [], _ :: _, _ => rfl
 | _ :: _, [], _ => rfl
 | x :: xs, z :: zs, h => by
  show (eqV x z && eqL xs zs) = false
  rw [Dz xs zs (by simpa using h), Bool.and_false]
theorem jG (hu : X.A.units < cLine) : OpR X (compareOp .NotEq) Fg := by
 intro pins s σ H x y v u Q I rx ry h
 unfold Fg at h
 split at h
 ·rename_i p q
  unfold Qj at h
  split at h
  ·rename_i xs zs e1 e2
   obtain ⟨f1, f2, q⟩ := h
   cases rx
   cases ry
   obtain ⟨its1, r1, pl1, hz1⟩ := I.list (SqL.of e1)
   obtain ⟨its2, r2, pl2, hz2⟩ := I.list (SqL.of e2)
   have l1 := r1.length
   have l2 := r2.length
   by_cases hl : xs.length = zs.length
   ·refine SeqAt.RcNeAt.lists (e := fun j => match xs[j]?, zs[j]? with | some a, some b => eqV a b | _, _ => true) pl1.isList pl2.isList (by simp only [List.size_toArray]; omega) hu (fun j h1 h2 => ?_) X.prog X.w X.xe (EP X pins σ Q) ?_
    ·have j1 : j < xs.length := by simp only [List.size_toArray] at h1; omega
     have j2 : j < zs.length := by omega
     have g1 : xs[j]? = some xs[j] := List.getElem?_eq_getElem j1
     have g2 : zs[j]? = some zs[j] := List.getElem?_eq_getElem j2
     obtain ⟨u1, hu1, ru1⟩ := r1.get g1
     obtain ⟨u2, hu2, ru2⟩ := r2.get g2
     have k1 : its1.toArray[j] = u1 := by
      have := List.getElem?_eq_some_iff.mp hu1
      obtain ⟨_, z⟩ := this
      simpa using z
     have k2 : its2.toArray[j] = u2 := by
      have := List.getElem?_eq_some_iff.mp hu2
      obtain ⟨_, z⟩ := this
      simpa using z
     rw [k1, k2, g1, g2]
     exact Lb ru1 ru2 (List.all_eq_true.mp f1 _ (List.getElem_mem j1)) (List.all_eq_true.mp f2 _ (List.getElem_mem j2))
    ·rw [show its1.toArray.size = xs.length by simp only [List.size_toArray]; omega, DG xs zs hl]
     exact ⟨.bl _, H, I, rfl, q⟩
   ·rw [Dz xs zs hl] at q
    refine SeqAt.RcNeAt.lists_lengths pl1.isList pl2.isList (by simp only [List.size_toArray, bne_iff_ne, ne_eq]; omega) hu X.prog X.w X.xe (EP X pins σ Q) ⟨.bl _, H, I, rfl, q⟩
  ·exact h.elim
 ·exact Wd pins s σ H _ _ v u Q I rx ry h
def inq (neg : Bool) (o : Option HO) (x : V) (H : Hp) (Q : VK) : Prop := match o with
 | some (.lst xs) => eZ x = true ∧ xs.all eZ = true ∧ Q (.bl (if neg then !inV x xs else inV x xs)) H
 | some (.tup xs) => eZ x = true ∧ xs.all eZ = true ∧ Q (.bl (if neg then !inV x xs else inV x xs)) H
 | _ => False
def Ti (neg : Bool) : R2 := fun x y H Q => match y with
 | .ref p => inq neg (H p) x H Q
 | _ => False
theorem Tg (neg : Bool) (x : V) (p : Addr) (H : Hp) (Q : VK) : Ti neg x (.ref p) H Q = inq neg (H p) x H Q := rfl
theorem Wo (neg : Bool) (x : V) (xs : List V) (H : Hp) (Q : VK) : inq neg (some (.lst xs)) x H Q = (eZ x = true ∧ xs.all eZ = true ∧ Q (.bl (if neg then !inV x xs else inV x xs)) H) := rfl
theorem Wn (neg : Bool) (x : V) (xs : List V) (H : Hp) (Q : VK) : inq neg (some (.tup xs)) x H Q = (eZ x = true ∧ xs.all eZ = true ∧ Q (.bl (if neg then !inV x xs else inV x xs)) H) := rfl
theorem Va {neg : Bool} {o : Option HO} {x : V} {H : Hp} {Q : VK} {p : Addr} {K : PySem.W.Frag} (e : H p = o) (h : inq neg o x H Q) : rIn K neg x (.ref p) H Q := by
 unfold inq at h
 split at h
 ·rename_i xs
  exact ⟨p, xs, rfl, .inl (SqL.of e), h.1, h.2.1, h.2.2⟩
 ·rename_i xs
  exact ⟨p, xs, rfl, .inr (SqT.of e), h.1, h.2.1, h.2.2⟩
 ·exact h.elim
theorem JV : OpR X (compareOp .In) (Ti false) := by
 intro pins s σ H x y v u Q I rx ry h
 unfold Ti at h
 split at h
 ·exact Fw pins s σ H _ _ v u Q I rx ry (Va rfl h)
 ·exact h.elim
end
theorem Mf {α : Type} (a b : α) : atI [a, b] (-1) = some b := rfl
theorem Ma {α : Type} (a b c : α) : atI [a, b, c] (-1) = some c := rfl
structure cH (H : Hp) (p : Addr) (B : Int) : Prop where
 ex : ∃ a b c : Int, H p = some (.lst [.int a, .int b, .int c]) ∧ 0 ≤ a ∧ 0 ≤ b ∧ b < 2147483629 ∧ 0 ≤ c ∧ c ≤ B
theorem cH.same {H H' : Hp} {p : Addr} {B : Int} (h : cH H p B) (s : Same H H') : cH H' p B := by
 obtain ⟨a, b, c, e, r⟩ := h
 exact ⟨a, b, c, s _ _ e, r⟩
theorem cH.le {H : Hp} {p : Addr} {B B' : Int} (h : cH H p B) (l : B ≤ B') : cH H p B' := by
 obtain ⟨a, b, c, e, r1, r2, r3, r4, r5⟩ := h
 exact ⟨a, b, c, e, r1, r2, r3, r4, by omega⟩
theorem cH.ne {H : Hp} {p q : Addr} {B : Int} (h : cH H p B) (n : H q = none) : q ≠ p := by
 obtain ⟨a, b, c, e, _⟩ := h
 exact (aJ e n).symm
theorem two_pow_pos (k : Nat) : (0 : Int) < 2 ^ k := Int.pow_pos (by decide)
def Ie (K : PySem.W.Frag) : Sp := fun vs H Q _ => ∃ (a : Addr) (ns : List Int) (k : Int), vs = [.ref a, .int k] ∧ SqL K H a (ns.map V.int) ∧ 0 ≤ k ∧ ∀ v : Int, Q (.int v) H
def HX (K : PySem.W.Frag) : Sp := fun vs H Q _ => ∃ (a : Addr) (ns : List Int) (k : Int), vs = [.ref a, .int k] ∧ SqL K H a (ns.map V.int) ∧ 0 ≤ k ∧ k ≤ 100 ∧ ∀ p H', H p = none → Same H H' → cH H' p 0 → Q (.ref p) H'
def mK (n : Nat) : Sp := fun vs H Q _ => ∃ (p : Addr) (m B : Int), vs = [.ref p, .int m] ∧ cH H p B ∧ B + (n : Int) ≤ 1000100 ∧ 0 < m ∧ m < 2 ^ 70 ∧ 1 ≤ n ∧ (1000000 ≤ m → 2 ≤ n) ∧
 ∀ r H', 0 ≤ r → r < m → bU p H H' → cH H' p (B + n) → Q (.int r) H'
theorem T3 (c : Int) : ∃ v : Int, atI [V.int 2147483587, V.int 2147483579, V.int 2147483563, V.int 2147483549, V.int 2147483543, V.int 2147483497, V.int 2147483489] (c % 7) = some (.int v) ∧ 0 < v := by
 have h1 : 0 ≤ c % 7 := Int.emod_nonneg _ (by decide)
 have h2 : c % 7 < 7 := Int.emod_lt_of_pos _ (by decide)
 generalize c % 7 = d at h1 h2
 have h3 : d = 0 ∨ d = 1 ∨ d = 2 ∨ d = 3 ∨ d = 4 ∨ d = 5 ∨ d = 6 := by omega
 rcases h3 with rfl | rfl | rfl | rfl | rfl | rfl | rfl
 ·exact ⟨_, cM (j := 0) rfl, by decide⟩
 ·exact ⟨_, cM (j := 1) rfl, by decide⟩
 ·exact ⟨_, cM (j := 2) rfl, by decide⟩
 ·exact ⟨_, cM (j := 3) rfl, by decide⟩
 ·exact ⟨_, cM (j := 4) rfl, by decide⟩
 ·exact ⟨_, cM (j := 5) rfl, by decide⟩
 ·exact ⟨_, cM (j := 6) rfl, by decide⟩
theorem Q9 {a b : V} {P : V → V → Prop} : (∃ v w, (a = v ∧ b = w) ∧ P v w) = P a b := propext ⟨fun ⟨_, _, ⟨h1, h2⟩, h⟩ => h1 ▸ h2 ▸ h, fun h => ⟨a, b, ⟨rfl, rfl⟩, h⟩⟩
inductive It1 where
 | one (a : Int)
 | rng (a b : Int)
 | bits (m v : Nat)
def itV : It1 → List V
 | .one a => [.str "is", .int a]
 | .rng a b => [.str "from", .int a, .int b]
 | .bits m v => [.str "bits", .int m, .int v]
theorem QD (a : Int) : itV (.one a) = [.str "is", .int a] := rfl
theorem Qz (a b : Int) : itV (.rng a b) = [.str "from", .int a, .int b] := rfl
theorem Kv (m v : Nat) : itV (.bits m v) = [.str "bits", .int m, .int v] := rfl
section
variable {mp : List (Option Nat)} {g : TG} {tc : TT} {te : TE} {σ : St} {H : Hp} {Q : VK} {R : It → Hp → Prop} {K : PySem.W.Frag}
theorem Vk {lo : Int} {n : Nat} (hR : R = xW mp g tc te σ Q) (hz : n ≤ sizeLine) (Pv : Nat → List V → St → Hp → Prop) (h0 : Pv 0 [] (jk mp σ) H) (hl : ∀ i acc τ H, Pv i acc τ H → acc.length ≤ i)
  (hs : ∀ i acc τ H, i < n → Pv i acc τ H → g (.int (lo + i)) τ H fun τ1 H4 => tc τ1 H4 fun b H5 => if b = true then te τ1 H5 fun v H6 => Pv (i + 1) (acc ++ [v]) τ1 H6 else Pv (i + 1) acc τ1 H5)
  (hd : ∀ acc τ H d, Pv n acc τ H → H d = none → Q (.ref d) (upd H d (.lst acc))) : R (Itr lo n) H := by
 refine lR hR n hz Pv h0 hl (fun i acc τ H hi _ => hi) (fun acc τ H _ => Nat.le_refl n) (fun i acc τ H x H3 hi p y => ?_) hd
 obtain ⟨rfl, rfl⟩ := y
 exact hs i acc τ _ hi p
theorem uc {a : Addr} {xs : List V} (hR : R = xW mp g tc te σ Q) (hz : xs.length ≤ sizeLine) (Pv : Nat → List V → St → Hp → Prop) (h0 : Pv 0 [] (jk mp σ) H) (hl : ∀ i acc τ H, Pv i acc τ H → acc.length ≤ i)
  (hq : ∀ i acc τ H, Pv i acc τ H → SqL K H a xs)
  (hs : ∀ i x acc τ H, xs[i]? = some x → Pv i acc τ H → g x τ H fun τ1 H4 => tc τ1 H4 fun b H5 => if b = true then te τ1 H5 fun v H6 => Pv (i + 1) (acc ++ [v]) τ1 H6 else Pv (i + 1) acc τ1 H5)
  (hd : ∀ acc τ H d, Pv xs.length acc τ H → H d = none → Q (.ref d) (upd H d (.lst acc))) : R (Itl K a) H := by
 refine lR hR xs.length hz Pv h0 hl (fun i acc τ H hi p => ⟨xs, xs[i], hq i acc τ H p, List.getElem?_eq_getElem hi⟩) (fun acc τ H p => ⟨xs, hq _ acc τ H p, Nat.le_refl _⟩) (fun i acc τ H x H3 hi p y => ?_) hd
 obtain ⟨rfl, hx⟩ := y
 exact hs i x acc τ _ (hx xs (hq i acc τ _ p)) p
end
section
variable {X : Cx} {pos : Pos}
def Vy (i j k : Nat) (ta : TA) : TS := fun D σ H => ta σ H fun vs H1 => ∃ u v w, vs = [u, v, w] ∧ D.nx (((σ.set i (some u)).set j (some v)).set k (some w)) H1
end
theorem Q5 (g : TG) (gs : TGs) (x : V) (xs : List V) (σ : St) (H : Hp) (Q : St → Hp → Prop) : K1 g gs (x :: xs) σ H Q = g x σ H fun σ1 H1 => gs xs σ1 H1 Q :=
 propext ⟨fun ⟨_, _, e, h⟩ => by cases e; exact h, fun h => ⟨x, xs, rfl, h⟩⟩
theorem Vf (σ : St) (H : Hp) (Q : St → Hp → Prop) : Vg [] σ H Q = Q σ H := propext ⟨fun h => h.2, fun h => ⟨rfl, h⟩⟩
theorem K9 {a b : Int} {P : Int → Int → Prop} : (∃ v w, (a = v ∧ b = w) ∧ P v w) = P a b := propext ⟨fun ⟨_, _, ⟨h1, h2⟩, h⟩ => h1 ▸ h2 ▸ h, fun h => ⟨a, b, ⟨rfl, rfl⟩, h⟩⟩
theorem Q8 {a b c : V} {P : V → V → V → Prop} : (∃ u v w, (a = u ∧ b = v ∧ c = w) ∧ P u v w) = P a b c := propext ⟨fun ⟨_, _, _, ⟨h1, h2, h3⟩, h⟩ => h1 ▸ h2 ▸ h3 ▸ h, fun h => ⟨a, b, c, ⟨rfl, rfl, rfl⟩, h⟩⟩
theorem zV : ((("from" : Str) : Str) = ("is" : Str)) = False := eq_false (by decide +kernel)
theorem zW : (("bits" : Str) = ("is" : Str)) = False := eq_false (by decide +kernel)
theorem v8 : (("bits" : Str) = ("from" : Str)) = False := eq_false (by decide +kernel)
theorem zT : (("is" : Str) = ("from" : Str)) = False := eq_false (by decide +kernel)
theorem zU : (("is" : Str) = ("bits" : Str)) = False := eq_false (by decide +kernel)
theorem v7 : (("from" : Str) = ("bits" : Str)) = False := eq_false (by decide +kernel)
theorem nu {p : Addr} {H H' : Hp} (h : bU p H H') (e : H p = none) : Same H H' := fun b o hb => h b o (aJ hb e) hb
section
variable {X : Cx} {e o : Expr} {te to : TE} {pos : Pos}
def apq (ob : Option HO) (l : Addr) (y : V) (H : Hp) (Q : VK) : Prop := match ob with
 | some (.lst xs) => xs.length < sizeLine ∧ Q .non (upd H l (.lst (xs ++ [y])))
 | _ => False
def isq (ob : Option HO) : Prop := match ob with
 | some (.lst _) => True
 | _ => False
theorem Dr (xs : List V) : isq (some (.lst xs)) = True := rfl
theorem xT (xs : List V) (l : Addr) (y : V) (H : Hp) (Q : VK) : apq (some (.lst xs)) l y H Q = (xs.length < sizeLine ∧ Q .non (upd H l (.lst (xs ++ [y])))) := rfl
def Vo (x : V) (te : TE) (σ : St) (H1 : Hp) (Q : VK) : Prop := match x with
 | .ref l => isq (H1 l) ∧ te σ H1 fun y H2 => apq (H2 l) l y H2 Q
 | _ => False
def HJ (to te : TE) : TE := fun σ H Q => to σ H fun x H1 => Vo x te σ H1 Q
theorem HF (to te : TE) (σ : St) (H : Hp) (Q : VK) : HJ to te σ H Q = to σ H fun x H1 => Vo x te σ H1 Q := rfl
theorem Mh (l : Addr) (te : TE) (σ : St) (H1 : Hp) (Q : VK) : Vo (.ref l) te σ H1 Q = (isq (H1 l) ∧ te σ H1 fun y H2 => apq (H2 l) l y H2 Q) := rfl
theorem Py {apos cpos : Pos} (ho : PE X o to) (he : PE X e te)
  (hbase : attributeBase o "append" X.env (eval o X.env) = eval o X.env := by rfl)
  (hfew : ((backTo cpos (starEach [e] X.env)).all (fun x => !x.1) && (backToKw cpos (keywordEach [] X.env)).all (fun x => x.1.isSome)
   && decide ([e].length + ([] : List Keyword).length + (if ([] : List Keyword).isEmpty then 0 else 1) < 30)) = true := by rfl)
  (hline : (apos.endLine == cpos.line) = true := by rfl) (hs : starEach [e] X.env = (false, eval e X.env) :: starEach [] X.env := by rfl) (hplain : (backTo cpos (starEach [] X.env)).any (·.1) = false := by rfl) :
  PE X (.Call (.Attribute o "append" apos) [e] [] cpos) (HJ to te) := by
 intro pins s σ H Q I h
 refine wpAny_Call_method_late hbase hfew hline rfl (thE (ho pins s σ H _ I h) fun v s1 x H1 I1 r1 q => ?_)
 cases x with
 | ref l =>
  obtain ⟨q1, q2⟩ := q
  cases el : H1 l with
  | none => rw [el] at q1; exact q1.elim
  | some ob =>
   cases ob with
   | lst xs =>
    obtain ⟨h1, h2⟩ := zL (T := "list") I1 r1 (.inl ⟨rfl, xs, SqL.of el⟩)
    refine ⟨"list", "list.append", PySem.F.plainAttrs_list, PySem.F.slot_list_append, PySem.F.type_list_append, h1, h2, ?_⟩
    rw [hs]
    refine Calls.callWith_builtin (by show (false || (backTo cpos (starEach [] X.env)).any (·.1)) = false; rw [hplain] <;> rfl) (Calls.evalArgs_plain ?_)
    refine Calls.spliced_cons (thE (he pins s1 σ H1 _ I1 q2) fun u s2 y H2 I2 r2 q3 => Calls.spliced_nil ?_)
    replace q3 : apq (H2 l) l y H2 Q := q3
    cases el2 : H2 l with
    | none => rw [el2] at q3; exact q3.elim
    | some ob2 =>
     cases ob2 with
     | lst ys =>
      rw [el2] at q3
      exact Ga pins s2 σ H2 (.ref l) [y] v [u] Q I2 r1 (.cons r2 .nil) ⟨l, ys, y, rfl, rfl, el2, q3.1, q3.2⟩
     | _ => rw [el2] at q3; exact q3.elim
   | _ => rw [el] at q1; exact q1.elim
 | _ => exact q.elim
theorem iY {apos cpos : Pos} (ho : QE X o to) (he : QE X e te)
  (hbase : attributeBase o "append" X.env (eval o X.env) = eval o X.env := by rfl)
  (hfew : ((backTo cpos (starEach [e] X.env)).all (fun x => !x.1) && (backToKw cpos (keywordEach [] X.env)).all (fun x => x.1.isSome)
   && decide ([e].length + ([] : List Keyword).length + (if ([] : List Keyword).isEmpty then 0 else 1) < 30)) = true := by rfl)
  (hline : (apos.endLine == cpos.line) = true := by rfl) (hs : starEach [e] X.env = (false, eval e X.env) :: starEach [] X.env := by rfl) (hplain : (backTo cpos (starEach [] X.env)).any (·.1) = false := by rfl) :
  QE X (.Call (.Attribute o "append" apos) [e] [] cpos) (HJ to te) := ⟨Py ho.h he.h hbase hfew hline hs hplain⟩
def slq (ob : Option HO) (lo hi : Option Int) (H : Hp) (Q : VK) : Prop := match ob with
 | some (.lst xs) => ∀ p, H p = none → Q (.ref p) (upd H p (.lst (jy xs lo hi)))
 | some (.tup xs) => ¬ (HT.sIx xs.length 0 lo = 0 ∧ HT.sIx xs.length xs.length hi = xs.length) ∧ ∀ p, H p = none → Q (.ref p) (upd H p (.tup (jy xs lo hi)))
 | _ => False
def Nt : V → Option Int → Option Int → Hp → VK → Prop := fun x lo hi H Q => match x with
 | .ref p => slq (H p) lo hi H Q
 | _ => False
theorem IW (p : Addr) (lo hi : Option Int) (H : Hp) (Q : VK) : Nt (.ref p) lo hi H Q = slq (H p) lo hi H Q := rfl
theorem Cu (xs : List V) (lo hi : Option Int) (H : Hp) (Q : VK) : slq (some (.lst xs)) lo hi H Q = ∀ p, H p = none → Q (.ref p) (upd H p (.lst (jy xs lo hi))) := rfl
theorem MP (xs : List V) (lo hi : Option Int) (H : Hp) (Q : VK) : slq (some (.tup xs)) lo hi H Q = (¬ (HT.sIx xs.length 0 lo = 0 ∧ HT.sIx xs.length xs.length hi = xs.length) ∧ ∀ p, H p = none → Q (.ref p) (upd H p (.tup (jy xs lo hi)))) := rfl
theorem zY : SlR X Nt := by
 intro pins s σ H x v vl vu lo hi sl Q I rx hs pl pu h
 unfold Nt at h
 split at h
 ·rename_i p
  unfold slq at h
  split at h
  ·rename_i xs e
   exact MT pins s σ H _ v vl vu lo hi sl Q I rx hs pl pu ⟨p, xs, rfl, SqL.of e, h⟩
  ·rename_i xs e
   exact SM pins s σ H _ v vl vu lo hi sl Q I rx hs pl pu ⟨p, xs, rfl, SqT.of e, h.1, h.2⟩
  ·exact h.elim
 ·exact h.elim
structure QO (X : Cx) (e : Option Expr) (t : TO) : Prop where
 h : PO X e t
theorem bY : QO X none v5 := ⟨O8⟩
theorem bO (h : QE X e te) : QO X (some e) (Hs te) := ⟨O7 h.h⟩
theorem bB {r : V → Option Int → Option Int → Hp → VK → Prop} {lo hi : Option Expr} {tl th : TO} {p2 : Pos} (hr : SlR X r) (he : QE X e te) (hl : QO X lo tl) (hu : QO X hi th) : QE X (.Subscript e (.Slice lo hi none p2) pos) (tSl r te tl th) := ⟨JL hr he.h hl.h hu.h⟩
def rpq (ob : Option HO) (k : Int) (H : Hp) (Q : VK) : Prop := match ob with
 | some (.lst xs) => -(2 ^ 63) ≤ k ∧ k < 2 ^ 63 ∧ xs.length * k.toNat ≤ sizeLine ∧ ∀ p, H p = none → Q (.ref p) (upd H p (.lst (List.replicate k.toNat xs).flatten))
 | _ => False
def Cz : R2 := fun x y H Q => match x, y with
 | .ref p, .int k => rpq (H p) k H Q
 | x, y => rI GQ (fun i j => .int (i * j)) x y H Q
theorem Nu (p : Addr) (k : Int) (H : Hp) (Q : VK) : Cz (.ref p) (.int k) H Q = rpq (H p) k H Q := rfl
theorem Nv (i j : Int) (H : Hp) (Q : VK) : Cz (.int i) (.int j) H Q = rI GQ (fun i j => .int (i * j)) (.int i) (.int j) H Q := rfl
theorem Nh (xs : List V) (k : Int) (H : Hp) (Q : VK) : rpq (some (.lst xs)) k H Q = (-(2 ^ 63) ≤ k ∧ k < 2 ^ 63 ∧ xs.length * k.toNat ≤ sizeLine ∧ ∀ p, H p = none → Q (.ref p) (upd H p (.lst (List.replicate k.toNat xs).flatten))) := rfl
theorem iD : OpR X (binaryOp .Mult) Cz := by
 intro pins s σ H x y v u Q I rx ry h
 unfold Cz at h
 split at h
 ·rename_i p k
  unfold rpq at h
  split at h
  ·rename_i xs e
   exact Ul pins s σ H _ _ v u Q I rx ry ⟨p, k, xs, rfl, rfl, e, h.1, h.2.1, h.2.2.1, h.2.2.2⟩
  ·exact h.elim
 ·exact Um pins s σ H _ _ v u Q I rx ry h
def eqo (ob : Option HO) (H : Hp) (Q : VK) : Prop := match ob with
 | some (.lst _) => Q (.bl false) H
 | some (.tup _) => Q (.bl false) H
 | _ => False
def sE : R2 := fun x y H Q => match x, y with
 | .ref p, .str _ => eqo (H p) H Q
 | x, y => rEq x y H Q
theorem N6 (p : Addr) (z : Str) (H : Hp) (Q : VK) : sE (.ref p) (.str z) H Q = eqo (H p) H Q := rfl
theorem Ob (i j : Int) (H : Hp) (Q : VK) : sE (.int i) (.int j) H Q = rEq (.int i) (.int j) H Q := rfl
theorem Od (i j : Bool) (H : Hp) (Q : VK) : sE (.bl i) (.bl j) H Q = rEq (.bl i) (.bl j) H Q := rfl
theorem N5 (i j : Str) (H : Hp) (Q : VK) : sE (.str i) (.str j) H Q = rEq (.str i) (.str j) H Q := rfl
theorem Oa (i : Int) (j : Str) (H : Hp) (Q : VK) : sE (.int i) (.str j) H Q = rEq (.int i) (.str j) H Q := rfl
theorem Oc (i : Bool) (j : Str) (H : Hp) (Q : VK) : sE (.bl i) (.str j) H Q = rEq (.bl i) (.str j) H Q := rfl
theorem N7 (j : Str) (H : Hp) (Q : VK) : sE .non (.str j) H Q = rEq .non (.str j) H Q := rfl
theorem N8 (H : Hp) (Q : VK) : sE .non .non H Q = rEq .non .non H Q := rfl
theorem Rb (xs : List V) (H : Hp) (Q : VK) : eqo (some (.lst xs)) H Q = Q (.bl false) H := rfl
theorem Ra (xs : List V) (H : Hp) (Q : VK) : eqo (some (.tup xs)) H Q = Q (.bl false) H := rfl
theorem M5 (j : Str) : qz .non (.str j) = true := rfl
theorem M9 (i : Bool) (j : Str) : qz (.bl i) (.str j) = true := rfl
theorem bZ (hu : X.A.units < cLine) : OpR X (compareOp .Eq) sE := by
 intro pins s σ H x y v u Q I rx ry h
 unfold sE at h
 split at h
 ·rename_i p z
  cases rx
  obtain ⟨t, rfl⟩ := ry
  unfold eqo at h
  split at h
  ·rename_i xs e
   obtain ⟨its, r, pl, hz⟩ := I.list (SqL.of e)
   exact SeqAt.RcAt.list_str z t pl.isList hu X.prog X.w X.xe (EP X pins σ Q) ⟨.bl false, H, I, rfl, h⟩
  ·rename_i xs e
   obtain ⟨its, r, pl, hz⟩ := I.tuple (SqT.of e)
   exact SeqAt.RcAt.tuple_str z t pl hu X.prog X.w X.xe (EP X pins σ Q) ⟨.bl false, H, I, rfl, h⟩
  ·exact h.elim
 ·exact Wf pins s σ H _ _ v u Q I rx ry h
theorem iW {x : Str} {v : V} {u : Value} (hg : Gl X x) (hm : X.mg x = some u) (r : RelV v u) (b : Bn x) : QE X (.Name x pos) (tC v) := ⟨Ph hg hm r b.hd⟩
end
section
variable {X : Cx} {a b c d : Expr} {ta tb tc td : TE} {pos : Pos}
def MF (r r' r'' : R2) (ta tb tc td : TE) : TE := fun σ H Q => ta σ H fun x H1 => tb σ H1 fun y H2 => r x y H2 fun z H3 => ∃ k, z = .bl k ∧
 (if k = true then tc σ H3 fun w H4 => r' y w H4 fun z' H5 => ∃ k', z' = .bl k' ∧ (if k' = true then td σ H5 fun w' H6 => r'' w w' H6 Q else Q (.bl false) H5) else Q (.bl false) H3)
end
mutual
inductive bf (ok : Addr → Prop) (H : Hp) : V → PyData → Prop
 | non : bf ok H .non .none
 | bl (b : Bool) : bf ok H (.bl b) (.bool b)
 | int (i : Int) : bf ok H (.int i) (.int i)
 | str (x : Str) : bf ok H (.str x) (.str x)
 | lst {p : Addr} {xs : List V} {ds : List PyData} : ok p → H p = some (.lst xs) → xs.length ≤ 1000000 → aR ok H xs ds → bf ok H (.ref p) (.list ds)
 | tup {p : Addr} {xs : List V} {ds : List PyData} : ok p → H p = some (.tup xs) → xs.length ≤ 1000000 → aR ok H xs ds → bf ok H (.ref p) (.tuple ds)
inductive aR (ok : Addr → Prop) (H : Hp) : List V → List PyData → Prop
 | nil : aR ok H [] []
 | cons {x : V} {d : PyData} {xs : List V} {ds : List PyData} : bf ok H x d → aR ok H xs ds → aR ok H (x :: xs) (d :: ds)
end
mutual
theorem bf.keep {ok ok' : Addr → Prop} {H H' : Hp} (k : ∀ a o, ok a → H a = some o → ok' a ∧ H' a = some o) : ∀ {v : V} {d : PyData}, bf ok H v d → bf ok' H' v d
 | _, _, .non => .non
 | _, _, .bl b => .bl b
 | _, _, .int i => .int i
 | _, _, .str x => .str x
 | _, _, .lst o e z t => .lst (k _ _ o e).1 (k _ _ o e).2 z (aR.keep k t)
 | _, _, .tup o e z t => .tup (k _ _ o e).1 (k _ _ o e).2 z (aR.keep k t)
theorem aR.keep {ok ok' : Addr → Prop} {H H' : Hp} (k : ∀ a o, ok a → H a = some o → ok' a ∧ H' a = some o) : ∀ {vs : List V} {ds : List PyData}, aR ok H vs ds → aR ok' H' vs ds
 | _, _, .nil => .nil
 | _, _, .cons t r => .cons (bf.keep k t) (aR.keep k r)
end
theorem bf.same {ok : Addr → Prop} {H H' : Hp} {v : V} {d : PyData} (t : bf ok H v d) (s : Same H H') : bf ok H' v d := t.keep fun a o h e => ⟨h, s a o e⟩
theorem aR.same {ok : Addr → Prop} {H H' : Hp} {v : List V} {d : List PyData} (t : aR ok H v d) (s : Same H H') : aR ok H' v d := t.keep fun a o h e => ⟨h, s a o e⟩
theorem bf.vf {p : Addr} {H H' : Hp} {v : V} {d : PyData} (t : bf (· ≠ p) H v d) (s : bU p H H') : bf (· ≠ p) H' v d := t.keep fun a o h e => ⟨h, s a o h e⟩
theorem aR.vf {p : Addr} {H H' : Hp} {v : List V} {d : List PyData} (t : aR (· ≠ p) H v d) (s : bU p H H') : aR (· ≠ p) H' v d := t.keep fun a o h e => ⟨h, s a o h e⟩
theorem aR.length {ok : Addr → Prop} {H : Hp} : ∀ {vs : List V} {ds : List PyData}, aR ok H vs ds → vs.length = ds.length
 | _, _, .nil => rfl
 | _, _, .cons _ r => by rw [List.length_cons, List.length_cons, r.length]
theorem aR.append {ok : Addr → Prop} {H : Hp} : ∀ {vs ws : List V} {ds es : List PyData}, aR ok H vs ds → aR ok H ws es → aR ok H (vs ++ ws) (ds ++ es)
 | _, _, _, _, .nil, t => t
 | _, _, _, _, .cons h r, t => .cons h (r.append t)
theorem aR.get {ok : Addr → Prop} {H : Hp} : ∀ {vs : List V} {ds : List PyData} {i : Nat} {v : V}, aR ok H vs ds → vs[i]? = some v → ∃ d, ds[i]? = some d ∧ bf ok H v d
 | _, _, 0, _, .cons h _, e => by cases e; exact ⟨_, rfl, h⟩
 | _, _, i + 1, _, .cons _ r, e => aR.get r (i := i) e
section
variable {X : Cx} {pins : List (Addr × Obj)} {σ : St} {H : Hp} {s : Shared} {ok : Addr → Prop}
end
mutual
def nodes : PyData → Nat
 | .list ds => 1 + sJ ds
 | .tuple ds => 1 + sJ ds
 | _ => 1
def sJ : List PyData → Nat
 | [] => 0
 | d :: ds => nodes d + sJ ds
end
mutual
def smD : PyData → Bool
 | .none => true
 | .bool _ => true
 | .int i => decide (i.natAbs < 2 ^ 50 ∨ i.natAbs = 10 ^ 20 ∨ i.natAbs < 2 ^ 55)
 | .str x => decide ((reprText x).length ≤ 50)
 | .list ds => Ig ds
 | .tuple ds => Ig ds
 | .dict _ => false
def Ig : List PyData → Bool
 | [] => true
 | d :: ds => smD d && Ig ds
end
theorem QM {i : Int} (h : i.natAbs < 2 ^ 70) : (Str.ofString (toString i)).length ≤ 71 := by
 rw [PySem.ofString_length]
 have := int_text_length_le10 (a := i) (k := 30) (by decide) (by omega)
 omega
section
variable {X : Cx} {tg l : Expr} {tl : TE}
def itq (K : PySem.W.Frag) (ob : Option HO) (a : Addr) (H : Hp) (R : It → Hp → Prop) : Prop := match ob with
 | some (.lst _) => R (Itl K a) H
 | some (.tup _) => R (Itt K a) H
 | _ => False
def itK (K : PySem.W.Frag) (x : V) (H : Hp) (R : It → Hp → Prop) : Prop := match x with
 | .ref a => itq K (H a) a H R
 | _ => False
def KH (K : PySem.W.Frag) (tl : TE) : TI := fun σ H R => tl σ H fun x H1 => itK K x H1 R
theorem KD (K : PySem.W.Frag) (tl : TE) (σ : St) (H : Hp) (R : It → Hp → Prop) : KH K tl σ H R = tl σ H fun x H1 => itK K x H1 R := rfl
theorem QF (K : PySem.W.Frag) (a : Addr) (H : Hp) (R : It → Hp → Prop) : itK K (.ref a) H R = itq K (H a) a H R := rfl
theorem Qy (K : PySem.W.Frag) (xs : List V) (a : Addr) (H : Hp) (R : It → Hp → Prop) : itq K (some (.lst xs)) a H R = R (Itl K a) H := rfl
theorem Qx (K : PySem.W.Frag) (xs : List V) (a : Addr) (H : Hp) (R : It → Hp → Prop) : itq K (some (.tup xs)) a H R = R (Itt K a) H := rfl
theorem Pa (hl : PE X l tl) : PI X tg l (KH X.K tl) := by
 intro pins s σ H R I h
 refine thn (hl pins s σ H _ I h) fun v s1 ⟨x, H1, I1, r1, q1⟩ => ?_
 cases x with
 | ref a =>
  replace q1 : itq X.K (H1 a) a H1 R := q1
  cases r1
  unfold itq at q1
  split at q1
  ·rename_i xs e
   obtain ⟨its, rv, p, hz⟩ := I1.list (SqL.of e)
   refine wpAny_pyIter_list p.isList ?_
   refine ⟨s1.heap.objs.size, [s1.heap.objs.size], _, _, H1, rfl, I1.kept (t' := s1.toks) fun b o e => Heap.get?_push_of_some _ e, Ed a _, ⟨_, Heap.get?_push_size _ rfl, rfl, rfl⟩, fun b hb => ?_, q1⟩
   have e : b = s1.heap.objs.size := by simpa using hb
   subst e
   exact I1.BK (Nat.le_refl _) (I1.hok.fresh (Nat.le_refl _))
  ·rename_i xs e
   obtain ⟨its, rv, p, hz⟩ := I1.tuple (SqT.of e)
   refine wpAny_pyIter_tuple (show s1.heap.IsTuple a its.toArray from p) ?_
   refine ⟨s1.heap.objs.size, [s1.heap.objs.size], _, _, H1, rfl, I1.kept (t' := s1.toks) fun b o e => Heap.get?_push_of_some _ e, zM a _, ⟨_, Heap.get?_push_size _ rfl, rfl, rfl⟩, fun b hb => ?_, q1⟩
   have e : b = s1.heap.objs.size := by simpa using hb
   subst e
   exact I1.BK (Nat.le_refl _) (I1.hok.fresh (Nat.le_refl _))
  ·exact q1.elim
 | _ => exact q1.elim
theorem gm (hl : QE X l tl) : QI X tg l (KH X.K tl) := ⟨Pa hl.h⟩
end
section
variable {mp : List (Option Nat)} {g : TG} {tc : TT} {te : TE} {σ : St} {H : Hp} {Q : VK} {R : It → Hp → Prop} {K : PySem.W.Frag}
theorem BL {a : Addr} {xs : List V} (hR : R = xW mp g tc te σ Q) (hz : xs.length ≤ sizeLine) (Pv : Nat → List V → St → Hp → Prop) (h0 : Pv 0 [] (jk mp σ) H) (hl : ∀ i acc τ H, Pv i acc τ H → acc.length ≤ i)
  (hq : ∀ i acc τ H, Pv i acc τ H → SqT K H a xs)
  (hs : ∀ i x acc τ H, xs[i]? = some x → Pv i acc τ H → g x τ H fun τ1 H4 => tc τ1 H4 fun b H5 => if b = true then te τ1 H5 fun v H6 => Pv (i + 1) (acc ++ [v]) τ1 H6 else Pv (i + 1) acc τ1 H5)
  (hd : ∀ acc τ H d, Pv xs.length acc τ H → H d = none → Q (.ref d) (upd H d (.lst acc))) : R (Itt K a) H := by
 refine lR hR xs.length hz Pv h0 hl (fun i acc τ H hi p => ⟨xs, xs[i], hq i acc τ H p, List.getElem?_eq_getElem hi⟩) (fun acc τ H p => ⟨xs, hq _ acc τ H p, Nat.le_refl _⟩) (fun i acc τ H x H3 hi p y => ?_) hd
 obtain ⟨rfl, hx⟩ := y
 exact hs i x acc τ _ (hx xs (hq i acc τ _ p)) p
def BoolsTo (H0 : Hp) (f : V → Bool) (xs : List V) (i : Nat) (acc : List V) (H' : Hp) : Prop := Same H0 H' ∧ acc = ((xs.take i).map f).map V.bl
end
def Mj (ok : Addr → Prop) (H0 : Hp) : Prop := ∀ H p, Same H0 H → H p = none → ok p
theorem yM {H0 : Hp} {p : Addr} {o : HO} (h : H0 p = some o) : Mj (· ≠ p) H0 := fun H q s hq => (aJ (s _ _ h) hq).symm
section
variable {ok : Addr → Prop} {σ : St} {H0 : Hp} {ta tb : TE} {tr : TA} {d e : PyData} {ds es : List PyData}
end
def rd0 := And.intro @Mz.eq_1 (And.intro @Sw.eq_1 (And.intro @yd.eq_1 (And.intro @tOp.eq_1 (And.intro @rI.eq_1 (And.intro @rI0.eq_1 (And.intro @rU.eq_1 (And.intro @tUn.eq_1 (And.intro @Ho.eq_1 (And.intro @tC.eq_1 (And.intro @Sd.eq_1 (And.intro @Vw.eq_1 (And.intro @Hu.eq_1 (And.intro @rK.eq_1 (And.intro @Hz.eq_1 (And.intro @Sq.eq_1 (And.intro @tCB.eq_1 (And.intro @tIf.eq_1 (And.intro @Sh.eq_1 (And.intro @tB.eq_1 (And.intro @Sy.eq_1 (And.intro @tOr.eq_1 (And.intro @HN.eq_1 (And.intro @Wx.eq_1 (And.intro @Ht.eq_1 (And.intro @Ss.eq_1 (And.intro @R7.eq_1 (And.intro @ye.eq_1 (And.intro @mG.eq_1 (And.intro @Ve.eq_1 (And.intro @Gj (And.intro @Q0 (And.intro @yE (And.intro @Je (And.intro @Jg (And.intro @Oj (And.intro @Mw.eq_1 (And.intro @Q5 (And.intro @Vf (@Rz.eq_1)))))))))))))))))))))))))))))))))))))))
def rd1 := And.intro @Jl (And.intro @Fe (And.intro @Fi (And.intro @NQ (And.intro @NT (And.intro @Qw (And.intro @Qv (And.intro @MK (And.intro @Qq (And.intro @Qp (And.intro Ku.1 (And.intro Ku.2.1 (And.intro Ku.2.2 (And.intro @Ww (And.intro @Wv (And.intro @Wu (And.intro @aB (And.intro @Jp (And.intro @Jm (And.intro @Vd (And.intro @Qu (And.intro @Km (And.intro @U5 (And.intro @U4 (And.intro @kc_bool (And.intro @ty_int (And.intro @Vv (And.intro @ty_str (And.intro @RZ (And.intro @RX (And.intro @Mr (And.intro @Mq (And.intro @oZ (And.intro @qF (And.intro @qC (And.intro @oY (And.intro @nq (And.intro @wL (And.intro @yw (@yu)))))))))))))))))))))))))))))))))))))))
def rd2 := And.intro @wK (And.intro @uz (And.intro @yt (And.intro @Ag (And.intro @Af (And.intro @yr (And.intro @wJ (And.intro @yo (And.intro @Ae (And.intro @Ad (And.intro @yj (And.intro @wG (And.intro @wI (And.intro @yq (And.intro @yp (And.intro @wH (And.intro @ux (And.intro @uw (And.intro @wF (And.intro @wD (And.intro @ur (And.intro @rR (And.intro @Bool.or_false (And.intro @Bool.false_or (And.intro @Bool.or_self (And.intro @Bool.true_or (And.intro @Bool.or_true (And.intro @Bool.not_true (And.intro @Bool.not_false (And.intro @Bool.false_eq_true (And.intro @if_true.{0} (And.intro @if_true.{1} (And.intro @if_false.{0} (And.intro @if_false.{1} (And.intro @decide_true (And.intro @decide_false (And.intro @Hw.eq_1 (And.intro @rEq.eq_1 (And.intro @rNe.eq_1 (@Oi)))))))))))))))))))))))))))))))))))))))
def rd3 := And.intro @Oh (And.intro @Ca (And.intro @S8 (And.intro @S9 (And.intro @Tc (And.intro @S7 (And.intro @Qi (And.intro @Tg (And.intro @Wo (And.intro @Wn (And.intro @Fb (And.intro @MN (And.intro @Vz.eq_1 (And.intro @Mf (And.intro @Ma (And.intro @Sg.eq_1 (And.intro @rJ.eq_1 (And.intro @Il (And.intro @Nb (And.intro @Ij (And.intro @Ik (And.intro @M8 (And.intro @M6 (And.intro @M7 (And.intro @M4 (And.intro @GQ.eq_1 (And.intro @Vu.eq_1 (And.intro @RM.eq_1 (And.intro @L2.start.eq_1 (And.intro @List.map_cons.{0,0} (And.intro @List.map_nil.{0,0} (And.intro @List.length_cons.{0} (And.intro @List.length_nil.{0} (And.intro @List.cons_append.{0} (And.intro @List.nil_append.{0} (And.intro @List.replicate_succ.{0} (And.intro @List.replicate_zero.{0} (And.intro @List.append_nil.{0} (And.intro @List.getElem?_cons_zero.{0} (@List.getElem?_cons_succ.{0})))))))))))))))))))))))))))))))))))))))
def rd4 := And.intro @List.set_cons_zero.{0} (And.intro @List.set_cons_succ.{0} (And.intro @Nat.sub_self (And.intro @Option.some.injEq.{0} (And.intro @exists_eq_left'.{1} (And.intro @exists_eq_left.{1} (And.intro @Q9 (And.intro @K9 (And.intro @Q8 (And.intro @Vy.eq_1 (And.intro @V.int.injEq (And.intro @V.str.injEq (And.intro @zV (And.intro @zW (And.intro @v8 (And.intro @zT (And.intro @zU (And.intro @v7 (And.intro @QD (And.intro @Qz (And.intro @Kv (And.intro @V.bl.injEq (And.intro @V.ref.injEq (And.intro @List.cons.injEq.{0} (And.intro @and_true (And.intro @true_and (And.intro @exists_and_left.{1} (And.intro @exists_and_right.{1} (And.intro @decide_eq_true_eq (And.intro @HF (And.intro @Mh (And.intro @Dr (And.intro @xT (And.intro @IW (And.intro @Cu (And.intro @MP (And.intro @tSl.eq_1 (And.intro @v5.eq_1 (And.intro @Hs.eq_1 (@Nu)))))))))))))))))))))))))))))))))))))))
def rd5 := And.intro @Nv (And.intro @Nh (And.intro @N6 (And.intro @Ob (And.intro @Od (And.intro @N5 (And.intro @Oa (And.intro @Oc (And.intro @N7 (And.intro @N8 (And.intro @Rb (And.intro @Ra (And.intro @M5 (And.intro @M9 (And.intro @MF.eq_1 (And.intro @KD (And.intro @QF (And.intro @Qy (@Qx))))))))))))))))))
def cW : PyData → Bool
 | .int _ => true
 | _ => false
def wg : Sp := fun vs H Q _ => ∃ v ok d, vs = [v] ∧ bf ok H v d ∧ Q (.bl (cW d)) H
section
variable {X : Cx} {NX N : List Str} {kX : List (Str × NameKind)} {mp : List (Option Nat)} {scope : Scope}
set_option maxHeartbeats 8000000 in
theorem O1 {tg iter elt : Expr} {ifs : List Expr} {pos pos' pos2 : Pos} {wi : TI} {g : TG} {tc : TT} {te : TE} {i : Nat} {x : Str} (N : List Str) (mp : List (Option Nat)) (hn : Nm X.N X.env.scope i x) (hNd : X.N.Nodup) (hNX : X.N = NX) (hkX : X.env.scope.names = kX) (S : vY NX kX N mp scope) (hc : X.calm = true)
  (hi : PI X tg iter wi) (hg : ∀ cl C s H fp, PG (cA X N scope cl C s H fp) tg g) (ht : ∀ cl C s H fp, PTs (cA X N scope cl C s H fp) ifs tc) (he : ∀ cl C s H fp, PE (cA X N scope cl C s H fp) elt te)
  (hf : X.fn x = true ∨ X.env.scope.names.lookup x = some .local := by exact .inl rfl)
  (hsw : swapsWithSole [.Name x pos'] (.ListComp elt [⟨tg, iter, ifs, 0⟩] scope pos) pos2.line X.env = pure true := by rfl)
  (h1 : (assignEach [.Name x pos'] X.env).map (·.2) = [assign (.Name x pos') X.env] := by rfl)
  (hs : ∀ x, foldedSetIterable iter X.env x = pure x := by intro _; rfl) : PS X (.Assign [.Name x pos'] (.ListComp elt [⟨tg, iter, ifs, 0⟩] scope pos) pos2) (ye (uV mp wi g tc te) (mG i)) := by
 intro pins s σ H Dn I h
 rw [exec_Assign_arm]
 refine wpAny_bind (wpAny_standAt ?_)
 rw [hsw]
 refine wpAny_bind (wpAny_pure ?_)
 rw [if_pos rfl, h1]
 replace h : uV mp wi g tc te σ H (fun v H1 => Dn.nx (σ.set i (some v)) H1) := h
 obtain ⟨cl, hcl, hsub, hhas⟩ := DY (env := X.env) (scope := scope) fun y hy hf => I.ok.has y.1 (by
  rcases S.fre y hy hf with q | q
  ·exact .inl (show X.env.scope.names.lookup y.1 = _ by rw [hkX]; exact q)
  ·exact .inr (show X.env.scope.names.lookup y.1 = _ by rw [hkX]; exact q))
 generalize hQ : (fun (v : V) (H1 : Hp) => Dn.nx (σ.set i (some v)) H1) = Q at h
 let QQ : Value → Shared → Prop := fun _ s' => ∃ τ H', Inv X pins τ H' s' ∧ Dn.nx τ H'
 refine wpAny_bind (wpAny_bind (thn (Q := QQ) (wpAny_comprehension_free (e := .ListComp elt [⟨tg, iter, ifs, 0⟩] scope pos) (use := some fun v => assignAll v [assign (.Name x pos') X.env]) rfl hs hcl S.kind S.locs ?_) fun _ s' ⟨τ, H', I', q'⟩ => wpAny_pure (wpAny_pure ⟨τ, H', I', q'⟩)))
 refine thn (hi pins s σ H _ I h) fun v s1 h1 => thn h1 fun itv s2 h2 => ?_
 obtain ⟨it, fp, tn, J, H2, e, I2, T, st2, f2, W, ⟨m0, w0⟩, turn⟩ := h2
 subst e
 refine wpAny_newObj_type (wpAny_newFunctionEnv S.nocell (by intro y hy; simp at hy) (fun h3 hns hsb => ?_) S.kind)
 dsimp only at hns hsb ⊢
 have hold : ∀ b ∈ fp, b < s2.heap.objs.size := fun b hb => by
  obtain ⟨o, q, _⟩ := T.obj _ _ st2 b hb
  exact Heap.lt_size q
 generalize hD : s2.heap.objs.size = D at hns hsb
 generalize hH2 : s2.heap.push { cls := .type "list", dict := none, data := .seq ([] : List Value).toArray } = P2 at hns hsb ⊢
 have hC : P2.objs.size = D + 1 := by rw [← hH2, Heap.size_push, hD]
 generalize hC' : P2.objs.size = C at hns hsb ⊢
 rw [hC'] at hC
 have old : ∀ b o, s2.heap.get? b = some o → h3.get? b = some o := fun b o q => by
  have hb := Heap.lt_size q
  exact hsb.extBut b o (na1 hb hD hC) (Heap.get?_push_of_some _ (hH2 ▸ Heap.get?_push_of_some _ q))
 have accD : h3.get? D = some { cls := .type "list", data := .seq ([] : List Value).toArray } :=
  hsb.extBut _ _ (na2 hC) (Heap.get?_push_of_some _ (by rw [← hH2, ← hD]; exact Heap.get?_push_size _ rfl))
 have hfr : D ∉ frs X.stack := fun z => by
  rcases List.mem_cons.mp (I2.oV D z) with q | q
  ·exact na0 I2.lt hD q.symm
  ·exact I2.Uv (na4 hD) q
 have I0 : Inv (cA X N scope cl C s2 H2 fp) [(D, { cls := .type "list", data := .seq ([] : List Value).toArray })] (jk mp σ) H2 { s2 with heap := h3, toks := s2.toks + ([] : List (Str × Value)).length } :=
  DX (s' := { s2 with heap := h3, toks := s2.toks + ([] : List (Str × Value)).length }) hNX hkX S I2 f2 hold (na3 hD hC) hsub hhas rfl rfl ⟨_, hns⟩ old fun p hp => by
   have ep := List.mem_singleton.mp hp
   subst ep
   exact ⟨accD, I2.hok.fresh (na4 hD), na2 hC, hfr, fun v z => by cases z⟩
 have T0 : tn 0 h3 := T.keep _ _ _ st2 fun b _ o q => old b o q
 have loop : ∀ z : Shared, z = { s2 with heap := h3, toks := s2.toks + ([] : List (Str × Value)).length } →
   codeAny (model X.prog X.w) X.A (.compLoop (.ListComp elt [⟨tg, iter, ifs, 0⟩] scope pos) 0 (.ref it) (.ref D) (compEnvC scope cl C X.env))
    (compPost (model X.prog X.w) X.A X.xe (some fun v => assignAll v [assign (.Name x pos') X.env]) QQ (.ref D) C) z := by
  rintro z rfl
  have stat : ∀ {H' : Hp} {pl : List (Addr × Obj)}, (∀ b ∈ fp, H' b = none) → (∀ p ∈ pl, p.1 = D) → ∀ b ∈ fp, oR (cA X N scope cl C s2 H2 fp) pl H' b := fun hn hp b hb => by
   have hb2 := hold b hb
   refine ⟨hn b hb, na1 hb2 hD hC, (BP hkX S I2 f2 hold (na3 hD hC) hsub hhas).exfs b hb, .inl hb, fun x c q => (f2 b hb).2.2.2.2.1 x c (hsub x c q), fun p hpp => ?_⟩
   have hpD := hp p (by simpa [cA] using hpp)
   rw [hpD]
   exact (na0 hb2 hD).symm
  refine vN (env := compEnvC scope cl C X.env) (fun n z => ∃ i acc τ H' its k, Inv (cA X N scope cl C s2 H2 fp) [(D, { cls := .type "list", data := .seq (List.toArray its) k })] τ H' z ∧ tn i z.heap ∧ (∀ b ∈ fp, H' b = none) ∧ Vals acc its ∧ acc.length ≤ sizeLine ∧ W i n acc τ H')
   ?_ m0 ⟨0, [], _, H2, [], 0, I0, T0, fun b hb => (f2 b hb).1, .nil, Nat.zero_le _, w0⟩
  rintro n s5 ⟨i, acc, τ, H5, its, k, I5, st5, fr5, va, hz, w5⟩
  rcases turn i n acc τ H5 w5 with ⟨stop, qn⟩ | ⟨go, hz2, N9, hN9, step⟩
  ·refine thn (T.done (cA X N scope cl C s2 H2 fp) rfl rfl rfl hc i _ s5 τ H5 _ I5 (stat fr5 (by simp)) st5 stop) fun r s6 ⟨hr, I6⟩ => ?_
   subst hr
   obtain ⟨m6, hn6, _⟩ := I6.loc
   obtain ⟨dD, nD, _, _, _⟩ := I6.pin (D, _) (List.mem_append_right _ (List.mem_singleton.mpr rfl))
   have U := I6.base
   have nC : H5 C = none := I6.free
   have ne : ∀ b o, s2.heap.get? b = some o → b ≠ C ∧ b ≠ D := fun b o q => by
    exact ⟨na1 (Heap.lt_size q) hD hC, na0 (Heap.lt_size q) hD⟩
   have key : ∀ h', Heap.SameBut C s6.heap h' → Inv X pins σ (upd H5 D (.lst acc)) { s6 with heap := h' } := fun h' sb => by
    have keepC : ∀ b o, b ≠ C → s6.heap.get? b = some o → h'.get? b = some o := fun b o hb q => (sb.2 b hb).trans q
    have U' : Un (frs X.stack) fp H2 (upd H5 D (.lst acc)) s2.heap h' := by
     refine ⟨fun b o q n1 hb hx => keepC b o (ne b o q).1 (U.keep b o q n1 hb hx), fun b o q n1 hb hx => ?_, fun b o q n1 hx => ?_, fun b o q hx => ?_, fun b xs q => ?_, fun b o xs q => ?_, fun b ps q => ?_⟩
     ·obtain ⟨sl, z⟩ := U.slot b o q n1 hb hx
      exact ⟨sl, keepC b _ (ne b o q).1 z⟩
     ·rw [aG (ne b o q).2]
      exact U.free b o q n1 hx
     ·obtain ⟨o', z⟩ := U.there b o q hx
      exact ⟨o', keepC b _ (ne b o q).1 z⟩
     ·have z := U.tups b xs q
      rw [aG (aJ z nD)]
      exact z
     ·have z := U.frzs b o xs q
      rw [aG (aJ z nD)]
      exact z
     ·obtain ⟨more, z⟩ := U.tbls b ps q
      exact ⟨more, by rw [aG (aJ z nD)]; exact z⟩
    have hok : HOk X.prog X.w (upd H5 D (.lst acc)) h' := fun b u q => by
     by_cases hb : b = D
     ·subst hb
      rw [aB] at q
      cases q
      exact ⟨hz, its, k, va, keepC _ _ (na2 hC) dD⟩
     ·rw [aG hb] at q
      refine (I6.hok b u q).stay (fun c v hcc z => keepC c v ?_ z) (fun c z => by rw [aG (aJ z nD)]; exact z) fun c xs z => by rw [aG (aJ z nD)]; exact z
      rcases hcc with z1 | z1
      ·subst z1
       exact aJ q nC
      ·exact aJ z1 nC
    have I7 : Inv X pins σ (upd H5 D (.lst acc)) { s6 with heap := h' } := I2.call' (s' := { s6 with heap := h' }) (ch := fp) I6.os U' hok I6.bare fun b hb => by
     obtain ⟨_, a2, _, a4, a5, a6⟩ := f2 b hb
     exact ⟨a4, a2, a5, a6⟩
    exact I7
   have I7 : Inv X pins σ (upd H5 D (.lst acc)) s6 := key s6.heap (Heap.SameBut.refl _ _)
   have lC : X.env.locals ≠ C := na1 I2.lt hD hC
   have cC : ∀ y c, X.env.cells.lookup y = some c → c ≠ C := fun y c z => by
    obtain ⟨_, o, h1, _⟩ := I2.cell y c z
    exact na1 (Heap.lt_size h1) hD hC
   show wpAny _ _ (assign (.Name x pos') X.env (.ref D)) _ _ s6
   refine wpAny_assign_Name (uX (v := .ref D) I7 hNd hn.hN hn.hv rfl (fun s7 I8 ⟨a, sa, ha⟩ => ?_) hf)
   have aC : a ≠ C := by
    rcases ha with rfl | ha
    ·exact lC
    ·exact cC _ _ ha
   obtain ⟨o6, es6, ep6, g1, g2, g3, g4⟩ := hn6
   refine ⟨m6, ⟨o6, es6, ep6, (sa.2 C (Ne.symm aC)).trans g1, g2, g3, g4⟩, fun h' sb => ?_⟩
   have q9 := qn D nD
   rw [← hQ] at q9
   refine ⟨_, _, I8.turned (it := C) (t' := s7.toks) (fun b o hb q => (sb.2 b hb).trans q) ?_ (Ne.symm lC) (.inr (Nat.le_trans I2.sz (na3 hD hC))) cC (fun p hp => ?_), q9⟩
   ·rw [aG (Ne.symm (na2 hC))]
    exact nC
   ·obtain ⟨h1, _⟩ := I2.pin p hp
    exact na1 (Heap.lt_size h1) hD hC
  ·refine thn (T.item (cA X N scope cl C s2 H2 fp) rfl rfl rfl hc i _ s5 τ H5 _ I5 (stat fr5 (by simp)) st5 go) fun r s6 ⟨u, hr, h6⟩ => ?_
   subst hr
   refine thn h6 fun _ s7 ⟨x, H7, I7, r7, y7, st7, fr7⟩ => ?_
   have I7' := I7.pinned (stat fr7 (by simp)) (T.obj _ _ st7)
   have no : ∀ {α : Type} {t : Sem α} {Q1 Q2 : α → Shared → Prop} {E : Value → Shared → Prop} {z : Shared}, wpAny (model X.prog X.w) X.A t Q1 (fun _ _ => False) z → (∀ a z, Q1 a z → Q2 a z) → wpAny (model X.prog X.w) X.A t Q2 E z :=
    fun q f => wpAny_mono q f fun _ _ z => z.elim
   refine no (hg cl C s2 H2 fp _ s7 τ H7 x u _ I7' r7 (step x H7 y7)) fun _ s8 ⟨τ1, H8, I8, q8⟩ => ?_
   refine no (ht cl C s2 H2 fp _ s8 τ1 H8 _ I8 q8) fun ok s9 ⟨H9, I9, q9⟩ => ?_
   have again : ∀ {H' : Hp} {z : Shared} {its' : List Value} {k' : Nat}, Inv (cA X N scope cl C s2 H2 fp) ([(D, { cls := .type "list", data := .seq (List.toArray its') k' })] ++ je fp s7.heap) τ1 H' z →
     tn (i + 1) z.heap ∧ (∀ b ∈ fp, H' b = none) ∧ Inv (cA X N scope cl C s2 H2 fp) [(D, { cls := .type "list", data := .seq (List.toArray its') k' })] τ1 H' z := fun {H' z its' k'} Iz => by
    have get : ∀ b ∈ fp, ∀ o, s7.heap.get? b = some o → z.heap.get? b = some o ∧ H' b = none := fun b hb o q => by
     obtain ⟨a1, a2, _⟩ := Iz.pin (b, o) (List.mem_append_right _ (List.mem_append_right _ (jK hb q)))
     exact ⟨a1, a2⟩
    refine ⟨T.keep _ _ _ st7 fun b hb o q => (get b hb o q).1, fun b hb => ?_, Iz.j4⟩
    obtain ⟨o, q, _⟩ := T.obj _ _ st7 b hb
    exact (get b hb o q).2
   cases ok with
   | false =>
    rw [if_neg Bool.false_ne_true] at q9 ⊢
    obtain ⟨m', hm, w9⟩ := hN9 _ _ _ q9
    obtain ⟨a1, a2, a3⟩ := again I9
    exact ⟨m', hm, i + 1, acc, τ1, H9, its, k, a3, a1, a2, va, hz, w9⟩
   | true =>
    rw [if_pos rfl] at q9 ⊢
    refine no (he cl C s2 H2 fp _ s9 τ1 H9 _ I9 q9) fun y s10 ⟨v, H10, I10, rv, q10⟩ => ?_
    obtain ⟨m', hm, w10⟩ := hN9 _ _ _ q10
    obtain ⟨a1, a2, a3⟩ := again I10
    obtain ⟨dD, nD, _, _, _⟩ := a3.pin (D, _) (List.mem_append_right _ (List.mem_singleton.mpr rfl))
    have hlen := va.length
    refine call_meets F.slot_list_append ⟨_, dD, rfl⟩ F.entry_list_append (F.args_list_append_2 _ _) (PySem.list_append D its.toArray k y (by rw [List.size_toArray]; omega)) ⟨dD, ?_⟩
    obtain ⟨k', q⟩ : ∃ k', (s10.heap.update D (Obj.mapSeq fun a => a.push y)).get? D = some { cls := .type "list", data := .seq (its ++ [y]).toArray k' } := by
     have q := PySem.IsL.update dD (fun a => a.push y)
     rw [show its.toArray.push y = (its ++ [y]).toArray by simp] at q
     exact ⟨_, q⟩
    have a4 : Inv (cA X N scope cl C s2 H2 fp) (je fp s7.heap) τ1 H10 s10 := I10.lO fun p hp => I10.pin p (List.mem_append_right _ (List.mem_append_right _ hp))
    have a5 : Inv (cA X N scope cl C s2 H2 fp) (je fp s7.heap) τ1 H10 { s10 with heap := s10.heap.update D (Obj.mapSeq fun a => a.push y), toks := s10.toks } :=
     a4.turned (it := D) (fun b o hb z => (Heap.get?_update_other _ _ (Ne.symm hb)).trans z) nD (na2 hC) (.inr (na4 hD))
      (fun x c z => by
       obtain ⟨_, o, h1, _⟩ := I2.cell x c (hsub x c z)
       exact na0 (Heap.lt_size h1) hD) fun p hp => by
       have hb := (pC (by simpa [cA] using hp)).1
       exact na0 (hold _ hb) hD
    obtain ⟨b1, b2, b3⟩ := (show tn (i + 1) (s10.heap.update D (Obj.mapSeq fun a => a.push y)) ∧ (∀ b ∈ fp, H10 b = none) ∧ True from
     ⟨T.keep _ _ _ a1 fun b hb o z => (Heap.get?_update_other _ _ (na0 (hold b hb) hD).symm).trans z, a2, trivial⟩)
    refine ⟨m', hm, i + 1, acc ++ [v], τ1, H10, its ++ [y], k', a5.lO fun p hp => ?_, b1, b2, va.append (.cons rv .nil), by rw [List.length_append, List.length_singleton]; omega, w10⟩
    have ep := List.mem_singleton.mp hp
    subst ep
    exact ⟨q, nD, na2 hC, hfr, fun v z => by cases z⟩
 have e1 : { newEnv scope C X.env.globals cl X.env.qual none .none (some X.env) X.env.builtins with scope := relabel scope X.env } = compEnvC scope cl C X.env := rfl
 exact codeAny_compStart_list (loop _ rfl) (T.self _ 0 _ _ _ T0 (loop _ rfl))
theorem CQ {tg iter elt : Expr} {ifs : List Expr} {pos pos' pos2 : Pos} {wi : TI} {g : TG} {tc : TT} {te : TE} {i : Nat} {x : Str} (N : List Str) (mp : List (Option Nat)) (hn : Nm X.N X.env.scope i x) (hNd : X.N.Nodup) (hNX : X.N = NX) (hkX : X.env.scope.names = kX) (S : vY NX kX N mp scope) (hc : X.calm = true)
  (hi : QI X tg iter wi) (hg : ∀ cl C s H fp, QG (cA X N scope cl C s H fp) tg g) (ht : ∀ cl C s H fp, QC (cA X N scope cl C s H fp) ifs tc) (he : ∀ cl C s H fp, QE (cA X N scope cl C s H fp) elt te)
  (hf : X.fn x = true ∨ X.env.scope.names.lookup x = some .local := by exact .inl rfl)
  (hsw : swapsWithSole [.Name x pos'] (.ListComp elt [⟨tg, iter, ifs, 0⟩] scope pos) pos2.line X.env = pure true := by rfl)
  (h1 : (assignEach [.Name x pos'] X.env).map (·.2) = [assign (.Name x pos') X.env] := by rfl)
  (hs : ∀ x, foldedSetIterable iter X.env x = pure x := by intro _; rfl) : QS X (.Assign [.Name x pos'] (.ListComp elt [⟨tg, iter, ifs, 0⟩] scope pos) pos2) (ye (uV mp wi g tc te) (mG i)) :=
 ⟨O1 N mp hn hNd hNX hkX S hc hi.h (fun cl C s H fp => (hg cl C s H fp).h) (fun cl C s H fp => (ht cl C s H fp).h) (fun cl C s H fp => (he cl C s H fp).h) hf hsw h1 hs⟩
end
def xX (H0 : Hp) (f : PyData → Bool) (ds : List PyData) (ok : St → Prop) (i : Nat) (acc : List V) (τ : St) (H' : Hp) : Prop := Same H0 H' ∧ ok τ ∧ acc = ((ds.take i).map f).map V.bl
section
variable {mp : List (Option Nat)} {g : TG} {te : TE} {σ : St} {H : Hp} {Q : VK} {R : It → Hp → Prop} {K : PySem.W.Frag} {a : Addr} {xs : List V} {ds : List PyData} {ok : Addr → Prop}
theorem take_snoc {α : Type} {l : List α} {i : Nat} {x : α} (h : l[i]? = some x) : l.take (i + 1) = l.take i ++ [x] := by
 rw [List.take_add_one, h]
 rfl
theorem BR {f : PyData → Bool} {d : PyData} {i : Nat} (h : ds[i]? = some d) : ((ds.take (i + 1)).map f).map V.bl = ((ds.take i).map f).map V.bl ++ [V.bl (f d)] := by
 rw [take_snoc h, List.map_append, List.map_append]
 rfl
theorem Gy (f : PyData → Bool) (ds : List PyData) (i : Nat) : (((ds.take i).map f).map V.bl).length ≤ i := by
 simp only [List.length_map, List.length_take]
 omega
theorem oN (f : PyData → Bool) (okT : St → Prop) (hR : R = xW mp g Mw te σ Q) (tr : aR ok H xs ds) (e : H a = some (.tup xs)) (hz : xs.length ≤ 1000000) (h0 : okT (jk mp σ))
  (hs : ∀ x d τ H1 (Qn : V → St → Hp → Prop), d ∈ ds → Same H H1 → bf ok H1 x d → okT τ → (∀ τ1 H6, okT τ1 → Same H1 H6 → Qn (.bl (f d)) τ1 H6) → g x τ H1 fun τ1 H4 => te τ1 H4 fun v H6 => Qn v τ1 H6)
  (hd : ∀ H2 d, Same H H2 → H2 d = none → Q (.ref d) (upd H2 d (.lst ((ds.map f).map V.bl)))) : R (Itt K a) H := by
 have hl := tr.length
 refine BL hR (aQ hz) (xX H f ds okT) ⟨Same.refl _, h0, rfl⟩ (fun i acc τ H1 ⟨_, _, e⟩ => by rw [e]; exact Gy f ds i) (fun i acc τ H1 ⟨s, _, _⟩ => SqT.of (s _ _ e)) (fun i x acc τ H1 hx ⟨s, k, ea⟩ => ?_) (fun acc τ H1 d ⟨s, k, ea⟩ hn => ?_)
 ·obtain ⟨d, hd2, td⟩ := tr.get hx
  have z := hs x d τ H1 (fun v τ1 H6 => xX H f ds okT (i + 1) (acc ++ [v]) τ1 H6) (List.mem_of_getElem? hd2) s (td.same s) k fun τ1 H6 k1 s6 => ⟨s.trans s6, k1, by rw [ea, BR hd2]⟩
  show g x τ H1 fun τ1 H4 => if true = true then te τ1 H4 fun v H6 => xX H f ds okT (i + 1) (acc ++ [v]) τ1 H6 else xX H f ds okT (i + 1) acc τ1 H4
  simp only [if_true]
  exact z
 ·rw [ea, hl, List.take_length]
  exact hd H1 d s hn
end
theorem um (f : PyData → Bool) (ds : List PyData) : (ds.map f).all id = ds.all f := by rw [List.all_map]; rfl
theorem aR.three {ok : Addr → Prop} {H : Hp} {xs : List V} {ds : List PyData} (t : aR ok H xs ds) (h : xs.length = 3) : ∃ x y z d e f, xs = [x, y, z] ∧ ds = [d, e, f] ∧ bf ok H x d ∧ bf ok H y e ∧ bf ok H z f := by
 cases t with
 | nil => cases h
 | cons t1 t =>
  cases t with
  | nil => cases h
  | cons t2 t =>
   cases t with
   | nil => cases h
   | cons t3 t =>
    cases t with
    | nil => exact ⟨_, _, _, _, _, _, rfl, rfl, t1, t2, t3⟩
    | cons _ _ => simp at h
def b7 (d : PyData) (z : Str) : Bool := match d with
 | .str x => decide (x = z)
 | _ => false
theorem oJ {ok : Addr → Prop} {H : Hp} {x : V} {d : PyData} {z : Str} {Q : VK} (t : bf ok H x d) (q : Q (.bl (b7 d z)) H) : sE x (.str z) H Q := by
 cases t with
 | non => exact ⟨rfl, q⟩
 | bl b => exact ⟨rfl, q⟩
 | int i => exact ⟨rfl, q⟩
 | str y => exact ⟨rfl, by rw [show decide (V.str y = V.str z) = decide (y = z) by simp]; exact q⟩
 | lst o e z t => show eqo _ _ _; rw [e]; exact q
 | tup o e z t => show eqo _ _ _; rw [e]; exact q
theorem Ep {p c : Addr} {H H' : Hp} {o : HO} (s : bU p H H') (h : H c = none) : bU p H (upd H' c o) := fun b u n e => by
 rw [aG (aJ e h)]
 exact s b u n e
theorem cH.upd {H : Hp} {p c : Addr} {B : Int} {o : HO} (t : cH H p B) (n : c ≠ p) : cH (upd H c o) p B := by
 obtain ⟨a, b, c', e, r⟩ := t
 exact ⟨a, b, c', by rw [aG (Ne.symm n)]; exact e, r⟩
section
variable {ok : Addr → Prop} {σ : St} {H0 H : Hp} {ta tb te : TE} {tr : TA} {d e : PyData} {ds es : List PyData} {D : Ends} {i : Nat}
end
theorem Gm (t : Addr) (items : Array Value) : Meets (Builtin.«enumerate.__new__» { pos := [Value.type "enumerate", Value.ref t] }) fun _ R s =>
  s.heap.IsTuple t items ∧ R (.ok (.ret (.ref (s.heap.objs.size + 1)))) { s with heap := (s.heap.push { cls := .type "tuple_iterator", data := .fields #[.ref t, .int 0 0] }).push { cls := .type "enumerate", data := .fields #[.none, .bool false, .ref s.heap.objs.size, rawInt 0, .none, .none] } } := by
 refine Meets.of_wp fun prog w A R s h => ?_
 obtain ⟨ht, hR⟩ := h
 unfold Builtin.«enumerate.__new__» Builtin.SmallTypes.newClass
 refine wpAny_bind (wpAny_bind (wpAny_pure (wpAny_ite_false rfl (wpAny_bind (wpAny_of_eq sub_enumerate (wpAny_ite_false rfl (wpAny_pure (wpAny_ite_true rfl (wpAny_bind ?_)))))))))
 unfold Builtin.SmallTypes.calledThroughType
 refine wpAny_bind (wpAny_stack_any fun st => wpAny_pure ?_)
 have fin : wpAny (model prog w) A.in1 (do
   let it ← pyIter (Value.ref t)
   let r ← Builtin.SmallTypes.newRecord (Value.type "enumerate") (Builtin.SmallTypes.ownedTupleFields ++ [it, rawInt 0, Value.none, Value.none])
   ret r) (fun fin s' => ∃ v, fin = Fin.done (Flow.ret v) ∧ R (Except.ok (Flow.ret v)) s') (fun e s' => R (Except.error e) s') s := by
  refine wpAny_bind (wpAny_pyIter_tuple ht ?_)
  show wpAny _ _ (newObj (.type "enumerate") (.fields #[.none, .bool false, .ref s.heap.objs.size, rawInt 0, .none, .none]) >>= fun r => ret r) _ _ _
  refine wpAny_bind (wpAny_newObj_type ?_)
  refine wpAny_pure ⟨_, rfl, ?_⟩
  have e : (s.heap.push { cls := Value.type "tuple_iterator", data := Data.fields #[Value.ref t, Value.int 0 0] }).objs.size = s.heap.objs.size + 1 := Heap.size_push ..
  rw [e]
  exact hR
 dsimp only
 split
 ·split
  ·exact wpAny_bind (wpAny_pure fin)
  ·exact wpAny_bind (wpAny_pure fin)
 ·split
  ·exact wpAny_bind (wpAny_pure fin)
  ·exact wpAny_bind (wpAny_pure fin)
theorem eF {prog : Program} {w : World} {A : Around} {E : Value → Shared → Prop} {s : Shared} {it t : Addr} {i : Nat} {items : Array Value} {x : Value} {Q : Value → Shared → Prop} (hit : s.heap.IsTupleIter it t i) (ht : s.heap.IsTuple t items) (hx : items[i]? = some x)
  (hQ : ∀ h', h'.IsTupleIter it t (i + 1) → Heap.SameBut it s.heap h' → Q x { s with heap := h' }) : wpAny (model prog w) A (Builtin.SmallTypes.nextOf (Value.ref it)) Q E s := by
 obtain ⟨o, ho, hc, hd⟩ := id hit
 obtain ⟨ol, hol, hcl, nl, hdl⟩ := ht
 unfold Builtin.SmallTypes.nextOf
 refine wpAny_bind (wpAny_callSpecial?_slot hit.typeIs F.slot_tuple_iterator_next (wpAny_call_entry F.slot_tuple_iterator_next hit.typeIs F.entry_tuple_iterator_next ?_ (F.args_tuple_iterator_next_1 _)))
 refine wpAny_bind (wpAny_pure (wpAny_bind (wpAny_field ho hd (i := 0) rfl ?_)))
 refine wpAny_ite_false rfl (wpAny_bind (wpAny_field ho hd (i := 1) rfl ?_))
 refine wpAny_bind (wpAny_seqItems hol hdl ?_)
 show wpAny _ _ (match items[(i : Int).toNat]? with
  | some x => (do setField (.ref it) 1 (rawInt ((i : Int) + 1)); ret x)
  | none => _) _ _ _
 rw [Int.toNat_natCast, hx]
 refine wpAny_bind (wpAny_setField ho hd (Nat.lt_succ_self 1) (wpAny_pure ⟨x, rfl, wpAny_pure (hQ _ ?_ ?_)⟩))
 ·refine ⟨_, Heap.get?_update_self _ ho (Obj.isFreed_of_fields (Obj.data_mapFields hd _)), (Obj.cls_mapFields o _).trans hc, ?_⟩
  rw [Obj.data_mapFields hd]
  rfl
 ·exact Heap.SameBut.update s.heap it _
theorem gM {prog : Program} {w : World} {A : Around} {E : Value → Shared → Prop} {s : Shared} {it t : Addr} {i : Nat} {items : Array Value} {Q : Value → Shared → Prop} (hh : A.handled = none) (hit : s.heap.IsTupleIter it t i) (ht : s.heap.IsTuple t items) (hx : items[i]? = none)
  (hE : ∀ h' e, Heap.ExtBut it s.heap h' → (∃ o, h'.get? e = some o ∧ o.cls = Value.type "StopIteration") → E (.ref e) { s with heap := h' }) : wpAny (model prog w) A (Builtin.SmallTypes.nextOf (Value.ref it)) Q E s := by
 obtain ⟨o, ho, hc, hd⟩ := id hit
 obtain ⟨ol, hol, hcl, nl, hdl⟩ := ht
 unfold Builtin.SmallTypes.nextOf
 refine wpAny_bind (wpAny_callSpecial?_slot hit.typeIs F.slot_tuple_iterator_next (wpAny_call_entry F.slot_tuple_iterator_next hit.typeIs F.entry_tuple_iterator_next ?_ (F.args_tuple_iterator_next_1 _)))
 refine wpAny_bind (wpAny_pure (wpAny_bind (wpAny_field ho hd (i := 0) rfl ?_)))
 refine wpAny_ite_false rfl (wpAny_bind (wpAny_field ho hd (i := 1) rfl ?_))
 refine wpAny_bind (wpAny_seqItems hol hdl ?_)
 show wpAny _ _ (match items[(i : Int).toNat]? with
  | some x => _
  | none => (do rule (toString "tuple_iterator.__next__" ++ toString ".end"); setField (.ref it) 0 .none; Builtin.SmallTypes.stopIteration)) _ _ _
 rw [Int.toNat_natCast, hx]
 refine wpAny_bind (wpAny_rule (wpAny_bind (wpAny_setField ho hd (Nat.zero_lt_succ 1) ?_)))
 unfold Builtin.SmallTypes.stopIteration newExc
 refine wpAny_bind (wpAny_bind (wpAny_newObj_type ?_))
 refine wpAny_bind (wpAny_of_eq (a := .none) rfl ?_)
 refine wpAny_newObj_type ?_
 refine wpAny_raiseNew_none hh (hE _ _ ?_ ?_)
 ·exact fun b ob hb e => Heap.get?_push_of_some _ (Heap.get?_push_of_some _ ((Heap.get?_update_other _ _ (Ne.symm hb)).trans e))
 ·exact ⟨_, Heap.get?_push_size _ rfl, rfl⟩
theorem qt {prog : Program} {w : World} {A : Around} (hh : A.handled = none) (it t : Addr) (hne : t ≠ it) (items : Array Value) : Draws prog w A it [it, t] items.size (fun i v => items[i]? = some v) fun i h => h.IsTupleIter it t i ∧ h.IsTuple t items where
 live := fun _ _ st => by
  obtain ⟨⟨o, ho, _⟩, _⟩ := st
  exact ⟨o, ho⟩
 frame := fun _ _ _ st hk => by
  obtain ⟨h1, ⟨o, e, r⟩⟩ := st
  exact ⟨h1.at fun o e => hk it (by simp) o e, o, hk t (by simp) o e, r⟩
 item := fun i s Q E hi st hQ => by
  have e : items[i]? = some items[i] := by simp [hi]
  refine eF st.1 st.2 e fun h' h1 sb => hQ _ _ s.toks e ⟨h1, ?_⟩ sb
  obtain ⟨o, g, r⟩ := st.2
  exact ⟨o, (sb.2 t hne).trans g, r⟩
 done := fun s Q E st hE => gM hh st.1 st.2 (by simp) hE
def Iet (K : PySem.W.Frag) (a : Addr) : It :=
 ⟨fun i H => ∃ xs x, SqT K H a xs ∧ xs[i]? = some x,
  fun i H v H' => ∃ p x, v = .ref p ∧ H p = none ∧ H' = upd H p (.tup [.int (i : Nat), x]) ∧ ∀ xs, SqT K H a xs → xs[i]? = some x,
  fun i H => ∃ xs, SqT K H a xs ∧ xs.length = i⟩
theorem zO {P : Program} {w : World} {K : PySem.W.Frag} {es : List Expr} {kk : Nat} {tpos : Pos} {e it l : Addr} (hne : e ≠ it) :
  Turn P w K (.Tuple es kk tpos) (Iet K l) [e, it] e (fun i h => (∃ old, IsEnum h e it ((i : Nat) : Int) old) ∧ h.IsTupleIter it l i) where
 mem := by simp
 obj := fun i h st b hb => by
  obtain ⟨⟨old, he⟩, ⟨o1, e1, c1, d1⟩⟩ := st
  simp only [List.mem_cons, List.not_mem_nil, or_false] at hb
  rcases hb with rfl | rfl
  ·exact ⟨_, he, fun v q => by cases q⟩
  ·exact ⟨o1, e1, fun v q => by rw [d1] at q; cases q⟩
 keep := fun i h h' st k => by
  obtain ⟨⟨old, he⟩, h1⟩ := st
  exact ⟨⟨old, k e (by simp) _ he⟩, h1.at fun o q => k it (by simp) o q⟩
 item := by
  intro X hP hw hK hc i pins s σ H E I hf st hg
  subst hP hw hK
  obtain ⟨xs, x, q1, hx⟩ := hg
  obtain ⟨its1, rv1, p1, hz1⟩ := I.tuple q1
  obtain ⟨u1, hu1, ru1⟩ := rv1.get hx
  obtain ⟨⟨old, he⟩, h1⟩ := st
  have hel : e ≠ l := fun z => by
   obtain ⟨ol, g1, g2, _⟩ := p1
   rw [← z, he] at g1
   cases g1
   injection g2 with g2
   exact absurd g2 (by decide)
  have hil : l ≠ it := fun z => by
   obtain ⟨ol, g1, g2, _⟩ := p1
   obtain ⟨oi, g3, g4, _⟩ := h1
   rw [z, g3] at g1
   cases g1
   rw [g4] at g2
   injection g2 with g2
   exact absurd g2 (by decide)
  have hsz1 : i < its1.toArray.size := by
   obtain ⟨z, _⟩ := List.getElem?_eq_some_iff.mp hu1
   simpa using z
  refine wpAny_pyNext_enum_itemD (qt (A := X.A.in1) (I.ok.hd hc) it l hil its1.toArray) he ⟨h1, p1⟩ hsz1 hne (by simp [hne, hel]) fun x1 h' tk hP a1 a2 a3 a4 hk => ?_
  have ex : x1 = u1 := by
   have hP' : its1[i]? = some x1 := by simpa using hP
   rw [hu1] at hP'
   exact (Option.some.inj hP').symm
  subst ex
  obtain ⟨a2, _⟩ := a2
  have new : cj X.prog X.w (upd H s.heap.objs.size (.tup [.int (i : Nat), x])) h' s.heap.objs.size (.tup [.int (i : Nat), x]) := ⟨by show 2 ≤ sizeLine; decide, [.int (i : Nat) tk, x1], .cons ⟨_, rfl⟩ (.cons ru1 .nil), _, a3, rfl, _, rfl⟩
  have I1 : Inv X pins σ (upd H s.heap.objs.size (.tup [.int (i : Nat), x])) { s with heap := h', toks := tk + 1 } := I.Ci (ch := [e, it]) hf
   (fun b o hb q => hk b o (fun z => hb (by simp [z])) (fun z => hb (by simp [z])) q) (Nat.le_refl _) new
  have hsz : ∀ b, b ∈ [e, it] → b ≠ s.heap.objs.size := fun b hb => by
   have lt : ∃ o, s.heap.get? b = some o := by
    simp only [List.mem_cons, List.not_mem_nil, or_false] at hb
    rcases hb with rfl | rfl
    ·exact ⟨_, he⟩
    ·obtain ⟨o, q, _⟩ := h1; exact ⟨o, q⟩
   obtain ⟨o, q⟩ := lt
   exact Nat.ne_of_lt (Heap.lt_size q)
  refine ⟨_, rfl, wpAny_letOwnedTupleGo_enum (s := { s with heap := h', toks := tk + 1 }) a1 fun h'' z2 sb => ?_⟩
  have fz := hf e (by simp)
  have I2 : Inv X pins σ (upd H s.heap.objs.size (.tup [.int (i : Nat), x])) { s with heap := h'', toks := tk + 1 } := Inv.turned (s := { s with heap := h', toks := tk + 1 }) (it := e) I1 (fun b o hb q => (sb.2 b hb).trans q) (by rw [aG (hsz e (by simp))]; exact fz.1) fz.2.1 fz.2.2.2.1 fz.2.2.2.2.1 fz.2.2.2.2.2
  refine ⟨.ref s.heap.objs.size, _, I2, rfl, ⟨_, x, rfl, I.fresh, rfl, fun xs' q => by rw [I.lH q q1]; exact hx⟩,
   ⟨⟨_, by simpa using z2⟩, a2.extBut sb.extBut hne.symm⟩, fun b hb => by rw [aG (hsz b hb)]; exact (hf b hb).1⟩
 done := by
  intro X hP hw hK hc i pins s σ H E I hf st hg
  subst hP hw hK
  obtain ⟨xs, q1, hx⟩ := hg
  obtain ⟨its1, rv1, p1, hz1⟩ := I.tuple q1
  obtain ⟨⟨old, he⟩, h1⟩ := st
  have hil : l ≠ it := fun z => by
   obtain ⟨ol, g1, g2, _⟩ := p1
   obtain ⟨oi, g3, g4, _⟩ := h1
   rw [z, g3] at g1
   cases g1
   rw [g4] at g2
   injection g2 with g2
   exact absurd g2 (by decide)
  have hl1 := rv1.length
  have hsi : its1.toArray.size = i := by rw [List.size_toArray]; omega
  refine wpAny_pyNext_enum_endD (qt (A := X.A.in1) (I.ok.hd hc) it l hil its1.toArray) he (by rw [hsi]; exact ⟨h1, p1⟩) fun h' hk => ⟨rfl, ?_⟩
  exact I.Cj (t' := s.toks) (ch := [e, it]) hf (fun b o hb q => hk b o (fun z => hb (by simp [z])) q)
 self := fun _ _ _ _ _ st h => by
  obtain ⟨⟨old, he⟩, _⟩ := st
  exact wpAny_pyIter_enum he h
def ieq (K : PySem.W.Frag) (ob : Option HO) (a : Addr) (H : Hp) (R : It → Hp → Prop) : Prop := match ob with
 | some (.lst _) => R (Ite K a) H
 | some (.tup _) => R (Iet K a) H
 | _ => False
def ieK (K : PySem.W.Frag) (vs : List V) (H : Hp) (R : It → Hp → Prop) : Prop := match vs with
 | [.ref a] => ieq K (H a) a H R
 | _ => False
def Bo (K : PySem.W.Frag) (ta : TA) : TI := fun σ H R => ta σ H fun vs H1 => ieK K vs H1 R
theorem vI (K : PySem.W.Frag) (ta : TA) (σ : St) (H : Hp) (R : It → Hp → Prop) : Bo K ta σ H R = ta σ H fun vs H1 => ieK K vs H1 R := rfl
theorem Dt (K : PySem.W.Frag) (a : Addr) (H : Hp) (R : It → Hp → Prop) : ieK K [.ref a] H R = ieq K (H a) a H R := rfl
theorem Ds (K : PySem.W.Frag) (xs : List V) (a : Addr) (H : Hp) (R : It → Hp → Prop) : ieq K (some (.lst xs)) a H R = R (Ite K a) H := rfl
section
variable {X : Cx}
theorem JG {es : List Expr} {kk : Nat} {tpos : Pos} {a : Expr} {ta : TA} {p pos : Pos} (hg : Gl X "enumerate") (hm : X.mg "enumerate" = none) (ha : PA X [a] ta) (hs : starEach [a] X.env = [(false, eval a X.env)] := by rfl) :
  PI X (.Tuple es kk tpos) (.Call (.Name "enumerate" p) [a] [] pos) (Bo X.K ta) := by
 intro pins s σ H R I h
 refine Call_ (pL I hg hm PyProof.Rows.Boot.«enumerate» (PyProof.Rows.callWith_type1 (thA (ha pos pins s σ H _ I h) fun us s1 vs H1 I1 r1 q1 => ?_) hs rfl))
 replace q1 : ieK X.K vs H1 R := q1
 unfold ieK at q1
 split at q1
 ·rename_i l1
  cases r1 with
  | cons r rr =>
   cases rr
   cases r
   unfold ieq at q1
   split at q1
   ·rename_i xs e
    obtain ⟨its1, rv1, p1, hz1⟩ := I1.list (SqL.of e)
    refine call_enumerate_list p1.isList fun h' b1 b2 b3 hk => ?_
    refine wpAny_pyIter_enum (s := { s1 with heap := h' }) b1 ?_
    have I2 : Inv X pins σ H1 { s1 with heap := h' } := I1.kept (t' := s1.toks) hk
    refine ⟨_, _, _, _, H1, rfl, I2, Ef (Nat.ne_of_gt (Nat.lt_succ_self _)), ⟨⟨_, b1⟩, b2⟩, fun b hb => ?_, q1⟩
    have hle : s1.heap.objs.size ≤ b := by
     simp only [List.mem_cons, List.not_mem_nil, or_false] at hb
     rcases hb with rfl | rfl <;> simp
    exact I1.BK hle (I1.hok.fresh hle)
   ·rename_i xs e
    obtain ⟨its1, rv1, p1, hz1⟩ := I1.tuple (SqT.of e)
    refine callType_new F.called_enumerate (by decide) (F.typeCall_enumerate_1 _) (F.newCall_enumerate_1 _) (fun obj => F.args_object_init_2 obj _) F.entry_enumerate_new (Gm l1 its1.toArray) ⟨p1, ?_⟩
    have hz : (s1.heap.push { cls := Value.type "tuple_iterator", data := Data.fields #[Value.ref l1, Value.int 0 0] }).objs.size = s1.heap.objs.size + 1 := Heap.size_push ..
    have b1 : ((s1.heap.push { cls := Value.type "tuple_iterator", data := Data.fields #[Value.ref l1, Value.int 0 0] }).push { cls := Value.type "enumerate", data := Data.fields #[Value.none, Value.bool false, Value.ref s1.heap.objs.size, rawInt 0, Value.none, Value.none] }).get? (s1.heap.objs.size + 1) = some { cls := Value.type "enumerate", data := Data.fields #[Value.none, Value.bool false, Value.ref s1.heap.objs.size, rawInt 0, Value.none, Value.none] } := by
     rw [← hz]
     exact Heap.get?_push_size _ rfl
    have b2 : ((s1.heap.push { cls := Value.type "tuple_iterator", data := Data.fields #[Value.ref l1, Value.int 0 0] }).push { cls := Value.type "enumerate", data := Data.fields #[Value.none, Value.bool false, Value.ref s1.heap.objs.size, rawInt 0, Value.none, Value.none] }).IsTupleIter s1.heap.objs.size l1 0 :=
     ⟨_, Heap.get?_push_of_some _ (Heap.get?_push_size _ rfl), rfl, rfl⟩
    have hk : ∀ b o, s1.heap.get? b = some o → ((s1.heap.push { cls := Value.type "tuple_iterator", data := Data.fields #[Value.ref l1, Value.int 0 0] }).push { cls := Value.type "enumerate", data := Data.fields #[Value.none, Value.bool false, Value.ref s1.heap.objs.size, rawInt 0, Value.none, Value.none] }).get? b = some o := fun b o z => Heap.get?_push_of_some _ (Heap.get?_push_of_some _ z)
    refine ⟨⟨_, b1, rfl⟩, ?_⟩
    generalize (s1.heap.push { cls := Value.type "tuple_iterator", data := Data.fields #[Value.ref l1, Value.int 0 0] }).push { cls := Value.type "enumerate", data := Data.fields #[Value.none, Value.bool false, Value.ref s1.heap.objs.size, rawInt 0, Value.none, Value.none] } = h' at b1 b2 hk
    refine wpAny_pyIter_enum (s := { s1 with heap := h' }) b1 ?_
    have I2 : Inv X pins σ H1 { s1 with heap := h' } := I1.kept (t' := s1.toks) hk
    refine ⟨_, _, _, _, H1, rfl, I2, zO (Nat.ne_of_gt (Nat.lt_succ_self _)), ⟨⟨_, b1⟩, b2⟩, fun b hb => ?_, q1⟩
    have hle : s1.heap.objs.size ≤ b := by
     simp only [List.mem_cons, List.not_mem_nil, or_false] at hb
     rcases hb with rfl | rfl <;> simp
    exact I1.BK hle (I1.hok.fresh hle)
   ·exact q1.elim
 ·exact q1.elim
theorem yH {es : List Expr} {kk : Nat} {tpos : Pos} {a : Expr} {ta : TA} {p pos : Pos} (hg : Gl X "enumerate") (hm : X.mg "enumerate" = none) (ha : QA X [a] ta) (hs : starEach [a] X.env = [(false, eval a X.env)] := by rfl) :
  QI X (.Tuple es kk tpos) (.Call (.Name "enumerate" p) [a] [] pos) (Bo X.K ta) := ⟨JG hg hm ha.h hs⟩
end
theorem K5 {J : It} {g : TG} {tb : TS} {D : Ends} {σ : St} {H : Hp} {R : It → Hp → Prop} (hR : R = (fun J H1 => ∃ W : Nat → Nat → St → Hp → Prop, (∃ m, W 0 m σ H1) ∧ ∀ i m σ H, W i m σ H →
  (J.stop i H ∧ D.nx σ H) ∨ (J.go i H ∧ ∃ N : St → Hp → Prop, (∀ σ' H', N σ' H' → ∃ m', m' < m ∧ W (i + 1) m' σ' H') ∧ ∀ x H', J.yld i H x H' → g x σ H' fun σ2 H2 => tb { D with nx := N, ct := N, bk := D.nx } σ2 H2)))
  (n : Nat) (Pv : Nat → St → Hp → Prop) (h0 : Pv 0 σ H) (hgo : ∀ i σ H, i < n → Pv i σ H → J.go i H) (hst : ∀ σ H, Pv n σ H → J.stop n H)
  (hs : ∀ i σ H x H3, i < n → Pv i σ H → J.yld i H x H3 → g x σ H3 fun σ2 H2 => tb { D with nx := Pv (i + 1), ct := Pv (i + 1), bk := D.nx } σ2 H2) (hd : ∀ σ H, Pv n σ H → D.nx σ H) : R J H := by
 subst hR
 refine ⟨fun i m σ H2 => m = n - i ∧ i ≤ n ∧ Pv i σ H2, ⟨_, rfl, Nat.zero_le _, h0⟩, ?_⟩
 rintro i m σ H2 ⟨rfl, hi, p⟩
 by_cases hlt : i < n
 ·exact .inr ⟨hgo i σ H2 hlt p, Pv (i + 1), fun σ' H' q => ⟨_, by omega, rfl, hlt, q⟩, fun x H3 y => hs i σ H2 x H3 hlt p y⟩
 ·have e : i = n := by omega
  subst e
  exact .inl ⟨hst σ H2 p, hd σ H2 p⟩
section
variable {X : Cx} {e o : Expr} {te to : TE} {pos : Pos}
end
mutual
def szD (a : Nat) : PyData → Prop
 | .none => True
 | .bool _ => True
 | .int i => i.natAbs ≤ 10 ^ 20 * 2 ^ a
 | .str x => x.length ≤ 30 + a ∧ ∀ c ∈ x.cps.toList, c < 16 ^ 8
 | .list ds => ds.length ≤ 210 * 5 ^ a ∧ HS a ds
 | .tuple ds => ds.length ≤ 210 * 5 ^ a ∧ HS a ds
 | .dict _ => False
def HS (a : Nat) : List PyData → Prop
 | [] => True
 | d :: ds => szD a d ∧ HS a ds
end
theorem oK {x : PyData} : ∀ {ds : List PyData}, x ∈ ds → x.depth ≤ PyData.depthAll ds
 | y :: ds, h => by
  rw [PyData.depthAll.eq_2]
  rcases List.mem_cons.mp h with rfl | z
  ·omega
  ·have := oK z; omega
theorem qu {k : Nat} : ∀ {ds : List PyData}, (∀ d ∈ ds, d.depth ≤ k) → PyData.depthAll ds ≤ k
 | [], _ => Nat.zero_le _
 | x :: ds, h => by
  rw [PyData.depthAll.eq_2]
  have h1 := h x List.mem_cons_self
  have h2 := qu fun d hd => h d (List.mem_cons_of_mem _ hd)
  omega
def ctq (a b : Option HO) (pa : Addr) (H : Hp) (Q : VK) : Prop := match a, b with
 | some (.tup xs), some (.tup ys) => xs ≠ [] ∧ xs.length + ys.length ≤ sizeLine ∧ (ys = [] → Q (.ref pa) H) ∧ (ys ≠ [] → ∀ p, H p = none → Q (.ref p) (upd H p (.tup (xs ++ ys))))
 | _, _ => False
def Jt : R2 := fun x y H Q => match x, y with
 | .ref p, .ref q => ctq (H p) (H q) p H Q
 | _, _ => False
theorem nH (p q : Addr) (H : Hp) (Q : VK) : Jt (.ref p) (.ref q) H Q = ctq (H p) (H q) p H Q := rfl
theorem tZ (xs ys : List V) (pa : Addr) (H : Hp) (Q : VK) : ctq (some (.tup xs)) (some (.tup ys)) pa H Q = (xs ≠ [] ∧ xs.length + ys.length ≤ sizeLine ∧ (ys = [] → Q (.ref pa) H) ∧ (ys ≠ [] → ∀ p, H p = none → Q (.ref p) (upd H p (.tup (xs ++ ys))))) := rfl
theorem CW {X : Cx} : OpR X (binaryOp .Add) Jt := by
 intro pins s σ H x y v u Q I rx ry h
 unfold Jt at h
 split at h
 ·rename_i p q
  unfold ctq at h
  split at h
  ·rename_i xs ys e1 e2
   exact PL pins s σ H _ _ v u Q I rx ry ⟨p, q, xs, ys, rfl, rfl, SqT.of e1, SqT.of e2, h.1, h.2.1, h.2.2.1, h.2.2.2⟩
  ·exact h.elim
 ·exact h.elim
theorem Er {H H' : Hp} {l : Addr} {o : HO} (s : Same H H') (h : H l = none) : Same H (upd H' l o) := fun b u e => by
 rw [aG (aJ e h)]
 exact s b u e
section
variable {ok : Addr → Prop} {σ : St} {H0 : Hp}
end
theorem Lj (x : V) (xs : List V) : jy (x :: xs) (some 1) none = xs := by
 unfold jy
 have e1 : HT.sIx (x :: xs).length 0 (some 1) = 1 := by
  rw [List.length_cons]
  simp [HT.sIx]
 have e2 : HT.sIx (x :: xs).length (x :: xs).length none = (x :: xs).length := by simp [HT.sIx]
 rw [e1, e2]
 simp
theorem Vj (x : V) (xs : List V) : ¬ (HT.sIx (x :: xs).length 0 (some 1) = 0 ∧ HT.sIx (x :: xs).length (x :: xs).length none = (x :: xs).length) := by
 have e1 : HT.sIx (x :: xs).length 0 (some 1) = 1 := by
  rw [List.length_cons]
  simp [HT.sIx]
 rw [e1]
 exact fun h => absurd h.1 (by decide)
section
variable {X : Cx} {a : Expr} {ta : TE}
def trq (ob : Option HO) (H : Hp) (Q : Bool → Hp → Prop) : Prop := match ob with
 | some (.lst xs) => Q (!xs.isEmpty) H
 | some (.tup xs) => Q (!xs.isEmpty) H
 | _ => False
def Eg (x : V) (H : Hp) (Q : Bool → Hp → Prop) : Prop := match x with
 | .ref p => trq (H p) H Q
 | .bl b => Q b H
 | .int i => Q (i != 0) H
 | .non => Q false H
 | _ => False
def R9 (te : TE) : TT := fun σ H Q => te σ H fun x H1 => Eg x H1 Q
theorem Mx (te : TE) (σ : St) (H : Hp) (Q : Bool → Hp → Prop) : R9 te σ H Q = te σ H fun x H1 => Eg x H1 Q := rfl
theorem GZ (p : Addr) (H : Hp) (Q : Bool → Hp → Prop) : Eg (.ref p) H Q = trq (H p) H Q := rfl
theorem Hg (i : Int) (H : Hp) (Q : Bool → Hp → Prop) : Eg (.int i) H Q = Q (i != 0) H := rfl
theorem Ms (b : Bool) (H : Hp) (Q : Bool → Hp → Prop) : Eg (.bl b) H Q = Q b H := rfl
theorem Hf (H : Hp) (Q : Bool → Hp → Prop) : Eg .non H Q = Q false H := rfl
theorem Mu (xs : List V) (H : Hp) (Q : Bool → Hp → Prop) : trq (some (.lst xs)) H Q = Q (!xs.isEmpty) H := rfl
theorem Mt (xs : List V) (H : Hp) (Q : Bool → Hp → Prop) : trq (some (.tup xs)) H Q = Q (!xs.isEmpty) H := rfl
theorem Tv (ha : PE X a ta) (he : ∀ whole, isTrue a X.env whole = (do let v ← whole; standAt a.pos; holding [v] (truthy v))) : PT X a (R9 ta) := by
 intro pins s σ H Q I h
 refine isTrue_plain (thE (ha pins s σ H _ I h) fun v s1 x H1 I1 r1 q1 => R6 pins s1 σ H1 x v Q I1 r1 ?_) (he _)
 cases x with
 | ref p =>
  replace q1 : trq (H1 p) H1 Q := q1
  unfold trq at q1
  split at q1
  ·rename_i xs e
   exact ⟨_, .inl ⟨xs, SqL.of e, rfl⟩, q1⟩
  ·rename_i xs e
   exact ⟨_, .inr (.inl ⟨xs, SqT.of e, rfl⟩), q1⟩
  ·exact q1.elim
 | bl b => exact ⟨_, rfl, q1⟩
 | int i => exact ⟨_, rfl, q1⟩
 | non => exact ⟨_, rfl, q1⟩
 | _ => exact (show False from q1).elim
theorem Ar (h : QE X a ta) (he : ∀ whole, isTrue a X.env whole = (do let v ← whole; standAt a.pos; holding [v] (truthy v)) := by intro _; rfl) : QT X a (R9 ta) := ⟨Tv h.h he⟩
end
def rd6 := And.intro @Mx (And.intro @GZ (And.intro @Hg (And.intro @Ms (And.intro @Hf (And.intro @Mu @Mt)))))
structure RowS (ss : List (Int × Int × Int)) : Prop where
 lh : ∀ (i : Nat) s, ss[i]? = some s → s.1 ≤ s.2.1 ∧ 0 ≤ s.2.2 ∧ s.2.2 ≤ 9
 nx : ∀ (i : Nat) s t, ss[i]? = some s → ss[i + 1]? = some t → t.1 = s.2.1 + 1
 bd : ∀ (i : Nat) s, ss[i]? = some s → -(10 ^ 12) ≤ s.1 ∧ s.2.1 ≤ 10 ^ 9 + (10 ^ 12 + 10) * (i + 1)
section
variable {κ : Type} [DecidableEq κ]
def rD (kvs : List (κ × V)) (k : κ) : Option V := (kvs.find? fun kv => decide (kv.1 = k)).map (·.2)
def putK (kvs : List (κ × V)) (k : κ) (v : V) : List (κ × V) :=
 if (kvs.any fun kv => decide (kv.1 = k)) = true then kvs.map (fun kv => if kv.1 = k then (kv.1, v) else kv) else kvs ++ [(k, v)]
theorem xY {p : κ × V} {r : List (κ × V)} {k : κ} (e : p.1 = k) : rD (p :: r) k = some p.2 := by simp [rD, List.find?_cons, e]
theorem iJ {p : κ × V} {r : List (κ × V)} {k : κ} (e : ¬ p.1 = k) : rD (p :: r) k = rD r k := by simp [rD, List.find?_cons, e]
theorem zb (kvs : List (κ × V)) (k : κ) (v : V) : (putK kvs k v).length ≤ kvs.length + 1 := by
 unfold putK
 split
 ·rw [List.length_map]; omega
 ·rw [List.length_append, List.length_cons, List.length_nil]; omega
theorem zH.getD {o : Option V} {u : Option Value} {d : V} {d' : Value} (r : zH o u) (rd : RelV d d') : RelV (o.getD d) (u.getD d') := by
 cases o with
 | none => cases u with
  | none => exact rd
  | some _ => exact (show False from r).elim
 | some _ => cases u with
  | none => exact (show False from r).elim
  | some _ => exact r
theorem KV.val {kvs : List (κ × V)} {vs : List (κ × Value)} (r : KV kvs vs) (k : κ) : zH (rD kvs k) (valueAt vs k) := by
 unfold KV at r
 induction r with
 | nil => exact True.intro
 | @cons p q ps qs h t ih =>
  obtain ⟨h1, h2⟩ := h
  by_cases e : p.1 = k
  ·have e' : q.1 = k := h1.symm.trans e
   have b : valueAt (q :: qs) k = some q.2 := by simp [valueAt, List.find?_cons, e']
   rw [xY e, b]; exact h2
  ·have e' : ¬ q.1 = k := fun z => e (h1.trans z)
   have b : valueAt (q :: qs) k = valueAt qs k := by simp [valueAt, List.find?_cons, e']
   rw [iJ e, b]; exact ih
theorem KV.any {kvs : List (κ × V)} {vs : List (κ × Value)} (r : KV kvs vs) (k : κ) : (kvs.any fun kv => decide (kv.1 = k)) = vs.any fun kv => decide (kv.1 = k) := by
 unfold KV at r
 induction r with
 | nil => rfl
 | cons h t ih => rw [List.any_cons, List.any_cons, ih, h.1]
theorem KV.repl {kvs : List (κ × V)} {vs : List (κ × Value)} (r : KV kvs vs) (k : κ) {y : V} {u : Value} (ry : RelV y u) :
  KV (kvs.map fun kv => if kv.1 = k then (kv.1, y) else kv) (vs.map fun kv => if kv.1 = k then (kv.1, u) else kv) := by
 unfold KV at r ⊢
 induction r with
 | nil => exact .nil
 | @cons p q ps qs h t ih =>
  rw [List.map_cons, List.map_cons]
  refine .cons ?_ ih
  obtain ⟨h1, h2⟩ := h
  by_cases e : p.1 = k
  ·rw [if_pos e, if_pos (h1.symm.trans e)]; exact ⟨h1, ry⟩
  ·rw [if_neg e, if_neg (fun z => e (h1.trans z))]; exact ⟨h1, h2⟩
theorem KV.put {kvs : List (κ × V)} {vs : List (κ × Value)} (r : KV kvs vs) (k : κ) {y : V} {u : Value} (ry : RelV y u) : KV (putK kvs k y) (stored vs k u) := by
 unfold putK stored
 rw [r.any k]
 by_cases e : (vs.any fun kv => decide (kv.1 = k)) = true
 ·rw [if_pos e, if_pos e]; exact r.repl k ry
 ·rw [if_neg e, if_neg e]; exact Paired.snoc r ⟨rfl, ry⟩
end
theorem Ko {P : Program} {w : World} {k : Key} {u : Value} (r : RelV (kV k) u) : (dh P w).is k u = true := by
 cases k with
 | inl i => obtain ⟨t, e⟩ := (show ∃ t, u = Value.int i t from r); subst e; exact za P w i t
 | inr x => obtain ⟨t, e⟩ := (show ∃ t, u = Value.str x t from r); subst e; exact yZ P w x t
theorem vG {P : Program} {w : World} : ∀ {ks : List Key} {us : List Value}, Vals (ks.map kV) us → ItemsAre (dh P w) ks us
 | [], _, r => by rw [List.map_nil] at r; cases r; exact .nil
 | k :: ks, _, r => by
  rw [List.map_cons] at r
  cases r with
  | cons h t => exact .cons (Ko h) (vG t)
abbrev KT (H : Hp) : List (List Key × V) → List (List Key × Addr × Value) → Prop := Paired fun p q => p.1 = q.1 ∧ H q.2.1 = some (.tup (p.1.map kV)) ∧ RelV p.2 q.2.2
theorem KT.val {H : Hp} {kvs : List (List Key × V)} {xs : List (List Key × Addr × Value)} (r : KT H kvs xs) (k : List Key) : zH (rD kvs k) ((atKey xs k).map (·.2)) := by
 induction r with
 | nil => exact True.intro
 | @cons p q ps qs h t ih =>
  obtain ⟨h1, _, h2⟩ := h
  by_cases e : p.1 = k
  ·have e' : q.1 = k := h1.symm.trans e
   have b : atKey (q :: qs) k = some q.2 := by simp [atKey, List.find?_cons, e']
   rw [xY e, b]; exact h2
  ·have e' : ¬ q.1 = k := fun z => e (h1.trans z)
   have b : atKey (q :: qs) k = atKey qs k := by simp [atKey, List.find?_cons, e']
   rw [iJ e, b]; exact ih
section
variable {P : Program} {w : World} {H : Hp} {h : Heap} {a : Addr}
theorem Ry {u : HO} (ok : HOk P w H h) (e : Rd H a u) : cj P w H h a u := e.ok ok
theorem Ld {kvs : List (Key × V)} (ok : HOk P w H h) (e : Rd H a (.dK kvs)) : kvs.length ≤ sizeLine ∧ (a == sysModules) = false ∧ ∃ vs, KV kvs vs ∧ h.DictOf (dh P w) a vs :=
 show cj P w H h a (.dK kvs) from Ry ok e
theorem Wt {kvs : List (Key × V)} (ok : HOk P w H h) (e : H a = some (.dK kvs)) : kvs.length ≤ sizeLine ∧ (a == sysModules) = false ∧ ∃ vs, KV kvs vs ∧ h.DictOf (dh P w) a vs := Ld ok (.inl e)
theorem Kl {ks : List Key} (ok : HOk P w H h) (e : H a = some (.tup (ks.map kV))) : (tupleKind (dh P w)).is h ks a := by
 obtain ⟨_, its, r, o, h1, h2, n, h3⟩ := (show cj P w H h a (.tup (ks.map kV)) from ok a _ e)
 exact ⟨o, its.toArray, n, h1, h2, h3, by simpa using vG r⟩
theorem RK {kvs : List (List Key × V)} (ok : HOk P w H h) (e : Rd H a (.dT kvs)) : kvs.length ≤ sizeLine ∧ (a == sysModules) = false ∧
  ∃ xs, KT H kvs xs ∧ h.DictOfH (tupleKind (dh P w)) a xs := by
 obtain ⟨z, y, xs, r, o, es, ep, h1, h2, h3, h4, h5⟩ := (show cj P w H h a (.dT kvs) from Ry ok e)
 refine ⟨z, y, xs, r, o, es, ep, h1, h2, h3, h4, fun x hx => ?_, h5⟩
 have all : ∀ {l : List (List Key × V)} {m : List (List Key × Addr × Value)}, KT H l m → ∀ x ∈ m, (tupleKind (dh P w)).is h x.1 x.2.1 := by
  intro l m q
  induction q with
  | nil => intro x hx; exact nomatch hx
  | @cons p q ps qs hq t ih =>
   intro x hx
   rcases List.mem_cons.mp hx with e | hx
   ·subst e
    exact Kl ok (by rw [← hq.1]; exact hq.2.1)
   ·exact ih x hx
 exact all r x hx
end
def Ml (H : Hp) (a : Addr) (y : V) (r : Option V) : Prop :=
 (∃ kvs k, Rd H a (.dK kvs) ∧ y = kV k ∧ r = rD kvs k) ∨ ∃ kvs k b, Rd H a (.dT kvs) ∧ y = .ref b ∧ H b = some (.tup (k.map kV)) ∧ r = rD kvs k
theorem Ml.k {H : Hp} {a : Addr} {kvs : List (Key × V)} {k : Key} (e : H a = some (.dK kvs)) : Ml H a (kV k) (rD kvs k) := .inl ⟨kvs, k, .inl e, rfl, rfl⟩
section
variable {X : Cx} {pins : List (Addr × Obj)} {σ : St} {H : Hp} {s : Shared} {a : Addr} {y v : V} {u r : Value} {o : Option V} {A : Around} {E : Value → Shared → Prop}
theorem Inv.big (I : Inv X pins σ H s) : sysModules < s.heap.objs.size := by
 have h : mainGlobals < s.heap.objs.size := (I.mod.glob.keeps I.bk).lt
 exact Nat.lt_trans (by decide) h
theorem Rc {h' : Heap} {t' : Nat} {ob : HO} (I : Inv X pins σ H s) (mu : Mut (H a)) (hs : Heap.SameBut a s.heap h') (he : ∃ q, h'.get? a = some q) (new : cj X.prog X.w (upd H a ob) h' a ob) :
  Inv X pins σ (upd H a ob) { s with heap := h', toks := t' } :=
 I.write (x := a) (e := a) mu (.inl rfl) (fun b q hb z => (hs.2 b hb).trans z) he new
theorem Vh {P : Program} {w : World} {H' : Hp} {h' : Heap} {kvs : List (Key × V)} {vs : List (Key × Value)} (z : kvs.length ≤ sizeLine) (hd : (a == sysModules) = false) (rel : KV kvs vs) (dd : h'.DictOf (dh P w) a vs) :
  cj P w H' h' a (.dK kvs) := ⟨z, hd, vs, rel, dd⟩
end
section
variable {X : Cx} {pins : List (Addr × Obj)} {σ : St} {H : Hp} {s : Shared} {a : Addr} {kvs : List (Key × V)} {k : Key} {u : Value} {A : Around} {E : Value → Shared → Prop}
end
section
variable {X : Cx} {o i e value : Expr} {pos pos' tpos : Pos} {td ty tv : TE}
end
theorem Le {P : Program} {w : World} {H : Hp} (h : Heap) (hb : sysModules < h.objs.size) : cj P w H (h.push { cls := .type "dict", data := .dict #[] }) h.objs.size (.dK []) :=
 ⟨Nat.zero_le _, beq_eq_false_iff_ne.mpr (Ne.symm (Nat.ne_of_lt hb)), [], .nil, Heap.DictOf.new h⟩
section
variable {X : Cx} {pos : Pos}
end
def rH : List (TE × TE) → St → Hp → (List (V × V) → Hp → Prop) → Prop
 | [], _, H, Q => Q [] H
 | (tk, tv) :: r, σ, H, Q => tk σ H fun x H1 => tv σ H1 fun y H2 => rH r σ H2 fun ps H3 => Q ((x, y) :: ps) H3
abbrev VV : List (V × V) → List (Value × Value) → Prop := Paired fun p q => RelV p.1 q.1 ∧ RelV p.2 q.2
def PPs (X : Cx) (pos : Pos) (keys : List (Option Expr)) (values : List Expr) (trs : List (TE × TE)) : Prop :=
 ∀ (pins : List (Addr × Obj)) (s : Shared) (σ : St) (H : Hp) (Q : List (V × V) → Hp → Prop), Inv X pins σ H s → rH trs σ H Q →
  wpAny (model X.prog X.w) X.A (evalPairs (pairTrees keys values X.env pos)) (fun vs s' => ∃ ps H', Inv X pins σ H' s' ∧ VV ps vs ∧ Q ps H') X.xe s
theorem O4 {X : Cx} {pos : Pos} : PPs X pos [] [] [] := fun pins s σ H Q I h => pairTrees_nil_walk ⟨[], H, I, .nil, h⟩
theorem JC {X : Cx} {pos : Pos} {k v : Expr} {ks : List (Option Expr)} {vs : List Expr} {tk tv : TE} {trs : List (TE × TE)} (hk : PE X k tk) (hv : PE X v tv) (hr : PPs X pos ks vs trs) :
  PPs X pos (some k :: ks) (v :: vs) ((tk, tv) :: trs) := fun pins s σ H Q I h =>
 pairTrees_cons_walk (thE (hk pins s σ H _ I h) fun u s1 x H1 I1 rx q1 => thE (hv pins s1 σ H1 _ I1 q1) fun w2 s2 y H2 I2 ry q2 =>
  thn (hr pins s2 σ H2 _ I2 q2) fun ws s3 ⟨ps, H3, I3, rel, q3⟩ => ⟨(x, y) :: ps, H3, I3, .cons ⟨rx, ry⟩ rel, q3⟩)
def pI (kvs more : List (Key × V)) : List (Key × V) := more.foldl (fun acc kv => putK acc kv.1 kv.2) kvs
theorem KV.merge : ∀ {more : List (Key × V)} {rs : List (Key × Value)} {kvs : List (Key × V)} {vs : List (Key × Value)}, KV more rs → KV kvs vs → KV (pI kvs more) (merged vs rs) := by
 intro more rs kvs vs r
 unfold KV at r
 induction r generalizing kvs vs with
 | nil => intro q; exact q
 | @cons p q ps qs h t ih =>
  intro r0
  have e : KV (putK kvs p.1 p.2) (stored vs q.1 q.2) := by
   have := r0.put p.1 h.2
   rw [← h.1]; exact this
  exact ih e
theorem mD : ∀ (more kvs : List (Key × V)), (pI kvs more).length ≤ kvs.length + more.length
 | [], kvs => by show kvs.length ≤ kvs.length + 0; omega
 | p :: r, kvs => by
  have h1 := mD r (putK kvs p.1 p.2)
  have h2 := zb kvs p.1 p.2
  show (pI (putK kvs p.1 p.2) r).length ≤ _
  rw [List.length_cons]; omega
theorem uf {P : Program} {w : World} : ∀ {kvs : List (Key × V)} {ws : List (Value × Value)}, VV (kvs.map fun kv => (kV kv.1, kv.2)) ws → ∃ rs, Carries (dh P w) ws rs ∧ KV kvs rs
 | [], _, r => by rw [List.map_nil] at r; cases r; exact ⟨[], True.intro, .nil⟩
 | p :: kvs, _, r => by
  rw [List.map_cons] at r
  cases r with
  | @cons a b as bs h t =>
   obtain ⟨rs, c, q⟩ := uf (P := P) (w := w) t
   obtain ⟨b1, b2⟩ := b
   exact ⟨(p.1, b2) :: rs, ⟨Ko h.1, rfl, c⟩, .cons ⟨rfl, h.2⟩ q⟩
def Hy (trs : List (TE × TE)) : TE := fun σ H Q => ∀ p, H p = none → rH trs σ (upd H p (.dK [])) fun ps H2 => H2 p = some (.dK []) ∧ ∃ kvs : List (Key × V), ps = kvs.map (fun kv => (kV kv.1, kv.2)) ∧ kvs.length ≤ 15 ∧ Q (.ref p) (upd H2 p (.dK (pI [] kvs)))
theorem Pk {X : Cx} {pos : Pos} {keys : List (Option Expr)} {values : List Expr} {trs : List (TE × TE)} (h : PPs X pos keys values trs) (hall : keys.all (·.isSome) = true) (hl : keys.length = values.length) (h0 : keys ≠ [])
  (h15 : keys.length ≤ 15) : PE X (.Dict keys values pos) (Hy trs) := by
 intro pins s σ H Q I q
 have hn := I.hok.fresh (Nat.le_refl s.heap.objs.size)
 have I1 := I.laid (a := s.heap.objs.size) (o := .dK []) (h' := s.heap.push { cls := .type "dict", data := .dict #[] }) (t' := s.toks) (fun _ _ q => Heap.get?_push_of_some _ q) (Nat.le_refl _) (Le s.heap I.big)
 refine wpAny_Dict_walk (knd := dh X.prog X.w) hall hl h0 h15 (thn (h pins _ σ _ _ I1 (q _ hn)) fun ws s2 ⟨ps, H2, I2, rel, e, kvs, ep, lk, q2⟩ => ?_)
 subst ep
 obtain ⟨rs, c, rk⟩ := uf (P := X.prog) (w := X.w) rel
 obtain ⟨z, hd, vs0, r0, dd⟩ := Wt I2.hok e
 cases r0
 refine ⟨rs, c, dd, fun h' dd' hs => ⟨.ref s.heap.objs.size, _, ?_, rfl, q2⟩⟩
 have hz : (pI [] kvs).length ≤ sizeLine := by
  have h1 := mD kvs []
  rw [List.length_nil] at h1
  rw [sizeLine_eq]; omega
 have he : ∃ q, h'.get? s.heap.objs.size = some q := let ⟨q, _, _, hq, _⟩ := dd'; ⟨q, hq⟩
 exact Rc I2 (by rw [e]; exact True.intro) hs he (Vh hz hd (rk.merge .nil) dd')
structure M2 (X : Cx) (o : Expr) (m : Str) (apos : Pos) (e f : Expr) (cpos : Pos) : Prop where
 base : attributeBase o m X.env (eval o X.env) = eval o X.env
 few : ((backTo cpos (starEach [e, f] X.env)).all (fun x => !x.1) && (backToKw cpos (keywordEach [] X.env)).all (fun x => x.1.isSome)
  && decide (([e, f] : List Expr).length + ([] : List Keyword).length + (if ([] : List Keyword).isEmpty then 0 else 1) < 30)) = true
 line : (apos.endLine == cpos.line) = true
 trees : backTo cpos (starEach [e, f] X.env) = [(false, eval e X.env), (false, eval f X.env)]
def IsD (H : Hp) (a : Addr) : Prop := (∃ kvs, Rd H a (.dK kvs)) ∨ ∃ kvs, Rd H a (.dT kvs)
theorem U9 {X : Cx} {pins : List (Addr × Obj)} {σ : St} {H : Hp} {s : Shared} {a : Addr} (I : Inv X pins σ H s) (d : IsD H a) :
  s.TypeIs (.ref a) "dict" ∧ (∀ b, Value.ref a = .ref b → ∃ ob, s.heap.get? b = some ob ∧ ob.dict = none) ∧ (a == sysModules) = false := by
 rcases d with ⟨kvs, e⟩ | ⟨kvs, e⟩
 ·obtain ⟨_, hd, vs, _, dd⟩ := Ld I.hok e
  refine ⟨dd.typeIs, fun b q => ?_, hd⟩
  cases q
  obtain ⟨ob, _, _, h1, h2, _⟩ := dd
  exact ⟨ob, h1, h2.2.1⟩
 ·obtain ⟨_, hd, xs, _, dd⟩ := RK I.hok e
  refine ⟨dd.typeIs, fun b q => ?_, hd⟩
  cases q
  obtain ⟨ob, _, _, h1, h2, _⟩ := dd
  exact ⟨ob, h1, h2.2.1⟩
section
variable {X : Cx} {pins : List (Addr × Obj)} {σ : St} {H : Hp} {s : Shared} {a : Addr} {y d : V} {u r : Value} {o : Option V} {A : Around} {E : Value → Shared → Prop}
theorem Vi {Q : Value → Shared → Prop} (hu : A.units + 1 < cLine) (I : Inv X pins σ H s) (g : Ml H a y o) (ry : RelV y u) (rd : RelV d r) (h : ∀ w' s', Inv X pins σ H s' → RelV (o.getD d) w' → Q w' s') :
  wpAny (model X.prog X.w) A (call (.builtin "dict.get") [.ref a, u, r]) Q E s := by
 rcases g with ⟨kvs, k, e, ey, l⟩ | ⟨kvs, k, b, e, ey, eb, l⟩
 ·subst ey
  obtain ⟨z, hd, vs, rel, dd⟩ := Ld I.hok e
  refine call_meetsIn PySem.F.slot_dict_get dd.typeIs PySem.F.entry_dict_get (PySem.F.args_dict_get_3 _ _ _) (meets_dict_get_default (dh X.prog X.w) a (Ko ry) hd r) ⟨_, dd.mapOf, h _ _ (I.tok _) ?_⟩
  rw [l]
  exact (rel.val k).getD rd
 ·subst ey
  cases (show u = Value.ref b from ry)
  obtain ⟨z, hd, xs, rel, dd⟩ := RK I.hok e
  refine call_meetsIn PySem.F.slot_dict_get dd.typeIs PySem.F.entry_dict_get (PySem.F.args_dict_get_3 _ _ _) (meetsH_dict_get_default (tupleKind (dh X.prog X.w)) a b hd r) ⟨tupleKind_room_in1 hu, k, xs, Kl I.hok eb, dd, h _ _ (I.tok _) ?_⟩
  rw [l]
  exact (rel.val k).getD rd
end
def zR (td ty tx : TE) : TE := fun σ H Q => td σ H fun x H1 => ∃ a, x = .ref a ∧ IsD H1 a ∧ ty σ H1 fun y H2 => tx σ H2 fun z H3 => ∃ o, Ml H3 a y o ∧ Q (o.getD z) H3
section
variable {X : Cx} {o e f : Expr} {apos cpos : Pos} {td ty tx : TE}
theorem JN (hu : X.A.units + 1 < cLine) (ho : PE X o td) (he : PE X e ty) (hf : PE X f tx) (m : M2 X o "get" apos e f cpos) : PE X (.Call (.Attribute o "get" apos) [e, f] [] cpos) (zR td ty tx) := by
 intro pins s σ H Q I h
 refine wpAny_Call_method m.base m.few m.line PySem.F.plainAttrs_dict PySem.F.slot_dict_get PySem.F.type_dict_get (thn (ho pins s σ H _ I h) fun u s1 ⟨x, H1, I1, rx, a, ex, d, q1⟩ => ?_)
 subst ex
 obtain rfl : u = Value.ref a := rx
 obtain ⟨t1, t2, _⟩ := U9 I1 d
 refine ⟨t1, t2, ?_⟩
 rw [m.trees]
 refine Calls.callWith_builtin rfl (Calls.evalArgs_plain (Calls.spliced_cons (thE (he pins s1 σ H1 _ I1 q1) fun iv s2 y H2 I2 ry q2 =>
  Calls.spliced_cons (thn (hf pins s2 σ H2 _ I2 q2) fun fv s3 ⟨z, H3, I3, rz, ov, g, q3⟩ => Calls.spliced_nil ?_))))
 exact Vi hu I3 g ry rz fun w' s4 I4 rw' => ⟨_, H3, I4, rw', q3⟩
end
section
variable {X : Cx} {pins : List (Addr × Obj)} {σ : St} {H : Hp} {s : Shared} {a : Addr} {kvs : List (Key × V)} {A : Around} {E : Value → Shared → Prop}
end
section
variable {X : Cx} {pins : List (Addr × Obj)} {σ : St} {H : Hp} {s : Shared} {a : Addr} {y : V} {u : Value} {A : Around} {E : Value → Shared → Prop}
end
theorem fB.RW {k : Nat} {A : Around} (r : fB k A) : A.units + 1 < cLine := by have := r.un; omega
theorem fB.un1 {k : Nat} {A : Around} (r : fB k A) : A.in1.units < cLine := by
 have := r.un
 show A.units + 1 < cLine
 omega
section
variable {X : Cx} {pos : Pos}
structure QPs (X : Cx) (pos : Pos) (keys : List (Option Expr)) (values : List Expr) (trs : List (TE × TE)) : Prop where
 h : PPs X pos keys values trs
theorem Om : QPs X pos [] [] [] := ⟨O4⟩
theorem kE {k v : Expr} {ks : List (Option Expr)} {vs : List Expr} {tk tv : TE} {trs : List (TE × TE)} (hk : QE X k tk) (hv : QE X v tv) (hr : QPs X pos ks vs trs) : QPs X pos (some k :: ks) (v :: vs) ((tk, tv) :: trs) := ⟨JC hk.h hv.h hr.h⟩
theorem Oq {keys : List (Option Expr)} {values : List Expr} {trs : List (TE × TE)} (h : QPs X pos keys values trs) (hall : keys.all (·.isSome) = true) (hl : keys.length = values.length) (h0 : keys ≠ []) (h15 : Nat.ble keys.length 15 = true) : QE X (.Dict keys values pos) (Hy trs) := ⟨Pk h.h hall hl h0 (Nat.le_of_ble_eq_true h15)⟩
theorem Jx {o e f : Expr} {apos cpos : Pos} {td ty tx : TE} (hu : X.A.units + 1 < cLine) (ho : QE X o td) (he : QE X e ty) (hf : QE X f tx) (m : M2 X o "get" apos e f cpos) : QE X (.Call (.Attribute o "get" apos) [e, f] [] cpos) (zR td ty tx) := ⟨JN hu ho.h he.h hf.h m⟩
def WR : R2 := fun x y H Q => ∃ (p : Addr) (ws : List Str) (d : PyData) (ok : Addr → Prop), y = .ref p ∧ H p = some (.tup (ws.map V.str)) ∧ bf ok H x d ∧ Q (.bl (ws.any (b7 d))) H
theorem Uo (hu : X.A.in1.units < cLine) : OpR X (compareOp .In) WR := by
 intro pins s σ H x y v u Q I rx ry h
 obtain ⟨p, ws, d, ok, rfl, e, t, q⟩ := h
 cases ry
 obtain ⟨its, r, pl, hz⟩ := I.tuple (SqT.of e)
 have key : ∀ u ∈ its, ∃ y t, u = Value.str y t := fun u hu => by
  obtain ⟨j, hj, ej⟩ := List.mem_iff_getElem.mp hu
  have hl := r.length
  have hx : (ws.map V.str)[j]? = some (ws.map V.str)[j] := List.getElem?_eq_getElem (by omega)
  obtain ⟨u', hu', ru⟩ := r.get hx
  rw [List.getElem?_eq_getElem hj, ej] at hu'
  cases hu'
  rw [List.getElem_map] at ru
  obtain ⟨t, e⟩ := ru
  exact ⟨_, t, e⟩
 let g : Value → Bool := fun u => match u with | .str y _ => b7 d y | _ => false
 refine SeqAt.in_tupleAt g pl (fun w hw => ?_) ⟨.bl _, H, I, rfl, ?_⟩
 ·obtain ⟨y, t', rfl⟩ := key w (by simpa using hw)
  cases t with
  | non => cases rx; exact SeqAt.EqAt.str_none y t'
  | bl b => cases rx; exact SeqAt.EqAt.str_bool y t' b
  | int i => obtain ⟨t2, rfl⟩ := rx; exact SeqAt.EqAt.str_int y t' i t2
  | str z =>
   obtain ⟨t2, rfl⟩ := rx
   have h2 := SeqAt.EqAt.str_str (A := X.A.in1) (s := s) y t' z t2
   have e3 : (y == z) = b7 (.str z) y := by
    show (y == z) = decide (z = y)
    rw [Bool.beq_eq_decide_eq]
    exact decide_eq_decide.mpr ⟨Eq.symm, Eq.symm⟩
   rw [e3] at h2
   exact h2
  | lst o e1 z1 ts =>
   cases rx
   obtain ⟨its1, r1, pl1, hz1⟩ := I.list (SqL.of e1)
   exact SeqAt.EqAt.str_list y t' pl1.isList hu
  | tup o e1 z1 ts =>
   cases rx
   obtain ⟨its1, r1, pl1, hz1⟩ := I.tuple (SqT.of e1)
   exact SeqAt.EqAt.str_tuple y t' pl1 hu
 ·have : ∀ (ws : List Str) (its : List Value), Vals (ws.map V.str) its → its.any g = ws.any (b7 d) := by
   intro ws
   induction ws with
   | nil => intro its r; cases r; rfl
   | cons a ws ih =>
    intro its r
    cases r with
    | cons r1 r2 =>
     obtain ⟨t1, rfl⟩ := r1
     rw [List.any_cons, List.any_cons, ih _ r2]
  rw [show its.toArray.any g = its.any g by simp, this ws its r]
  exact q
end
def uD : PyData → Int
 | .int i => i
 | _ => 0
def cu (w : Str) : List Int → Bool
 | [a] => decide (w = "pick") && decide (0 ≤ a)
 | [_, _] => decide (w = "is") || decide (w = "below")
 | [a, b, _] => decide (w = "within") && decide (a ≤ b)
 | [_, wd, bits, _] => decide (w = "mask") && ((decide (1 ≤ wd) && decide (wd ≤ 64)) && (decide (0 ≤ bits) && decide (bits < 2 ^ wd.toNat)))
 | _ => false
def RD (is : List Int) : List Int := match is.getLast? with
 | some t => [t]
 | none => []
def gB (w : Str) (is : List Int) : List Int := if w = "pick" then [] else RD is
def rG : List PyData → Option (List PyData)
 | [.int _, .tuple gs] => if (!gs.isEmpty && gs.all cW) = true then some gs else none
 | _ => none
def gG : PyData → Bool
 | .tuple (.str w :: ps) => if w = "table" then (rG ps).isSome else ps.all cW && cu w (ps.map uD)
 | _ => false
def jj : PyData → List Int
 | .tuple (.str w :: ps) => if w = "table" then ((rG ps).getD []).map uD else gB w (ps.map uD)
 | _ => []
def btw (own many : Int) (t : Int) : Bool := decide (own < t) && decide (t < many)
def xM (own many : Int) : PyData → Bool
 | .int t => btw own many t
 | _ => false
def bT (own many : Int) (d : PyData) : Bool := gG d && (jj d).all (btw own many)
def wj : Sp := fun vs H Q _ => ∃ v ok d own many, vs = [v, .int own, .int many] ∧ bf ok H v d ∧ Q (.bl (xM own many d)) H
def Cp : Sp := fun vs H Q _ => ∃ wd bits : Int, vs = [.int wd, .int bits] ∧ Q (.bl ((decide (1 ≤ wd) && decide (wd ≤ 64)) && (decide (0 ≤ bits) && decide (bits < 2 ^ wd.toNat)))) H
def HY : Sp := fun vs H Q _ => ∃ v ok dw ps own many, vs = [v, .int own, .int many] ∧ bf ok H v (.tuple (dw :: ps)) ∧ ∀ H', Same H H' → Q (.bl (match rG ps with | some gs => (gs.map uD).all (btw own many) | none => false)) H'
def Ib : Sp := fun vs H Q _ => ∃ v ok d own many, vs = [v, .int own, .int many] ∧ bf ok H v d ∧ ∀ H', Same H H' → Q (.bl (bT own many d)) H'
theorem ints_of {ps : List PyData} (h : ps.all cW = true) : ps = (ps.map uD).map PyData.int := by
 rw [List.map_map]
 refine (List.map_id ps).symm.trans (List.map_congr_left fun d hd => ?_)
 have := List.all_eq_true.mp h d hd
 cases d with
 | int i => rfl
 | _ => exact absurd this Bool.false_ne_true
theorem aR.ints {ok : Addr → Prop} {H : Hp} : ∀ {xs : List V} {is : List Int}, aR ok H xs (is.map PyData.int) → xs = is.map V.int
 | _, [], .nil => rfl
 | _, i :: is, .cons h r => by
  cases h
  rw [r.ints]
  rfl
theorem uT {ok : Addr → Prop} {H : Hp} : ∀ (is : List Int), aR ok H (is.map V.int) (is.map PyData.int)
 | [] => .nil
 | i :: is => .cons (.int i) (uT is)
def rd7 := And.intro @Hy.eq_1 (And.intro @rH.eq_1 (And.intro @rH.eq_2 @zR.eq_1))
theorem vJ (own many : Int) : ∀ gs : List PyData, gs.all (xM own many) = (match (if gs.all cW = true then some gs else none : Option (List PyData)) with | some gs => (gs.map uD).all (btw own many) | none => false)
 | [] => rfl
 | d :: gs => by
  have ih := vJ own many gs
  rw [List.all_cons, List.all_cons, ih]
  cases d with
  | int i =>
   rw [show cW (.int i) = true from rfl, Bool.true_and]
   cases h : gs.all cW with
   | true => rfl
   | false =>
    show (btw own many i && false) = false
    rw [Bool.and_false]
  | _ => rfl
theorem Hl {ps : List PyData} (h : ps.length ≠ 2) : rG ps = none := by
 unfold rG
 split
 ·exact absurd rfl h
 ·rfl
theorem xV {p : Prop} [Decidable p] {b : Bool} (h : ¬ p) : (decide p && b) = false := by rw [decide_eq_false h, Bool.false_and]
theorem Xb {p : Prop} [Decidable p] {b : Bool} (h : p) : (decide p && b) = b := by rw [decide_eq_true h, Bool.true_and]
theorem iH {d : PyData} {z : Str} (h : b7 d z = true) : d = .str z := by
 cases d with
 | str w =>
  have : w = z := of_decide_eq_true (show decide (w = z) = true from h)
  rw [this]
 | _ => exact absurd h Bool.false_ne_true
theorem Et (own many : Int) (ps : List PyData) : bT own many (.tuple (.str "table" :: ps)) = (match rG ps with | some gs => (gs.map uD).all (btw own many) | none => false) := by
 unfold bT gG jj
 simp only [if_true]
 cases rG ps <;> rfl
theorem Eu {own many : Int} {dw : PyData} {ps : List PyData} (h1 : b7 dw "table" = false) (h2 : ps.all cW = false) : bT own many (.tuple (dw :: ps)) = false := by
 cases dw with
 | str w =>
  have : w ≠ "table" := fun z => by rw [z] at h1; exact absurd h1 (by decide +kernel)
  unfold bT gG
  simp only [if_neg this, h2, Bool.false_and]
 | _ => rfl
theorem jn (is : List Int) : (is.map PyData.int).map uD = is := by
 rw [List.map_map]
 exact (List.map_congr_left fun a _ => rfl).trans (List.map_id is)
theorem ju (is : List Int) : (is.map PyData.int).all cW = true := by
 rw [List.all_eq_true]
 intro d hd
 obtain ⟨i, _, rfl⟩ := List.mem_map.mp hd
 rfl
theorem nA {own many : Int} {dw : PyData} {is : List Int} (h1 : b7 dw "table" = false) : bT own many (.tuple (dw :: is.map PyData.int)) = (match dw with | .str w => cu w is && (gB w is).all (btw own many) | _ => false) := by
 cases dw with
 | str w =>
  have : w ≠ "table" := fun z => by rw [z] at h1; exact absurd h1 (by decide +kernel)
  unfold bT gG jj
  simp only [if_neg this, ju, jn, Bool.true_and]
 | _ => rfl
theorem yC (own many : Int) (is : List Int) : bT own many (.tuple (.str "pick" :: is.map PyData.int)) = (match is with | [a] => decide (0 ≤ a) | _ => false) := by
 rw [nA (by decide +kernel)]
 show (cu "pick" is && (gB "pick" is).all (btw own many)) = _
 rw [show gB "pick" is = [] from if_pos rfl, List.all_nil, Bool.and_true]
 match is with
 | [] => rfl
 | [a] => show (decide (("pick" : Str) = "pick") && decide (0 ≤ a)) = decide (0 ≤ a); rw [decide_eq_true rfl, Bool.true_and]
 | [a, b] => exact (by decide +kernel : (decide (("pick" : Str) = "is") || decide (("pick" : Str) = "below")) = false)
 | [a, b, c] => exact xV (p := ("pick" : Str) = "within") (b := decide (a ≤ b)) (by decide +kernel)
 | [a, b, c, d] => exact xV (p := ("pick" : Str) = "mask") (b := (decide (1 ≤ b) && decide (b ≤ 64)) && (decide (0 ≤ c) && decide (c < 2 ^ b.toNat))) (by decide +kernel)
 | a :: b :: c :: d :: e :: r => rfl
theorem dF {w : Str} {is : List Int} {t : Int} (h : w ≠ "pick") (hl : is.getLast? = some t) : gB w is = [t] := by
 unfold gB RD
 rw [if_neg h, hl]
theorem Aj {own many t : Int} {dw : PyData} {is : List Int} (h1 : b7 dw "table" = false) (h2 : b7 dw "pick" = false) (hl : is.getLast? = some t) (hb : btw own many t = false) : bT own many (.tuple (dw :: is.map PyData.int)) = false := by
 rw [nA h1]
 cases dw with
 | str w =>
  have : w ≠ "pick" := fun z => by rw [z] at h2; exact absurd h2 (by decide +kernel)
  show (cu w is && (gB w is).all (btw own many)) = false
  rw [dF this hl, List.all_cons, hb, Bool.false_and, Bool.and_false]
 | _ => rfl
def mO (dw : PyData) (is : List Int) : Bool := match dw with
 | .str w => cu w is
 | _ => false
theorem Ir {own many t : Int} {dw : PyData} {is : List Int} (h1 : b7 dw "table" = false) (h2 : b7 dw "pick" = false) (hl : is.getLast? = some t) (hb : btw own many t = true) : bT own many (.tuple (dw :: is.map PyData.int)) = mO dw is := by
 rw [nA h1]
 cases dw with
 | str w =>
  have : w ≠ "pick" := fun z => by rw [z] at h2; exact absurd h2 (by decide +kernel)
  show (cu w is && (gB w is).all (btw own many)) = cu w is
  rw [dF this hl, List.all_cons, hb, List.all_nil, Bool.true_and, Bool.and_true]
 | _ => rfl
theorem Ni (own many : Int) (dw : PyData) : bT own many (.tuple [dw]) = false := by
 cases dw with
 | str w =>
  unfold bT gG
  by_cases h : w = "table"
  ·simp only [if_pos h]; rfl
  ·simp only [if_neg h]; rfl
 | _ => rfl
theorem fC {w : Str} (h : w = "is" ∨ w = "below") (is : List Int) : cu w is = decide (is.length = 2) := by
 have h3 : decide (w = "pick") = false := decide_eq_false (by rcases h with rfl | rfl <;> decide +kernel)
 have h4 : decide (w = "within") = false := decide_eq_false (by rcases h with rfl | rfl <;> decide +kernel)
 have h5 : decide (w = "mask") = false := decide_eq_false (by rcases h with rfl | rfl <;> decide +kernel)
 match is with
 | [] => rfl
 | [a] => show (decide (w = "pick") && _) = _; rw [h3]; rfl
 | [a, b] =>
  show (decide (w = "is") || decide (w = "below")) = true
  rcases h with z | z
  ·rw [decide_eq_true z, Bool.true_or]
  ·rw [decide_eq_true z, Bool.or_true]
 | [a, b, c] => show (decide (w = "within") && _) = _; rw [h4]; rfl
 | [a, b, c, d] => show (decide (w = "mask") && _) = _; rw [h5]; rfl
 | a :: b :: c :: d :: e :: r => show false = decide (r.length + 5 = 2); exact (decide_eq_false (by omega)).symm
theorem jE (is : List Int) : cu "within" is = (match is with | [a, b, _] => decide (a ≤ b) | _ => false) := by
 match is with
 | [] => rfl
 | [a] => exact xV (p := ("within" : Str) = "pick") (b := decide (0 ≤ a)) (by decide +kernel)
 | [a, b] => exact (by decide +kernel : (decide (("within" : Str) = "is") || decide (("within" : Str) = "below")) = false)
 | [a, b, c] => show (decide (("within" : Str) = "within") && decide (a ≤ b)) = decide (a ≤ b); rw [decide_eq_true rfl, Bool.true_and]
 | [a, b, c, d] => exact xV (p := ("within" : Str) = "mask") (b := (decide (1 ≤ b) && decide (b ≤ 64)) && (decide (0 ≤ c) && decide (c < 2 ^ b.toNat))) (by decide +kernel)
 | a :: b :: c :: d :: e :: r => rfl
theorem mL (is : List Int) : cu "mask" is = (match is with | [_, wd, bits, _] => (decide (1 ≤ wd) && decide (wd ≤ 64)) && (decide (0 ≤ bits) && decide (bits < 2 ^ wd.toNat)) | _ => false) := by
 match is with
 | [] => rfl
 | [a] => exact xV (p := ("mask" : Str) = "pick") (b := decide (0 ≤ a)) (by decide +kernel)
 | [a, b] => exact (by decide +kernel : (decide (("mask" : Str) = "is") || decide (("mask" : Str) = "below")) = false)
 | [a, b, c] => exact xV (p := ("mask" : Str) = "within") (b := decide (a ≤ b)) (by decide +kernel)
 | [a, b, c, d] => exact Xb (p := ("mask" : Str) = "mask") (b := (decide (1 ≤ b) && decide (b ≤ 64)) && (decide (0 ≤ c) && decide (c < 2 ^ b.toNat))) rfl
 | a :: b :: c :: d :: e :: r => rfl
theorem qg {w : Str} (h1 : w ≠ "is") (h2 : w ≠ "below") (h3 : w ≠ "within") (h4 : w ≠ "mask") (h5 : w ≠ "pick") (is : List Int) : cu w is = false := by
 match is with
 | [] => rfl
 | [a] => exact xV h5
 | [a, b] => show (decide (w = "is") || decide (w = "below")) = _; rw [decide_eq_false h1, decide_eq_false h2]; rfl
 | [a, b, c] => exact xV h3
 | [a, b, c, d] => exact xV h4
 | a :: b :: c :: d :: e :: r => rfl
theorem jt {w z : Str} (h : b7 (.str w) z = false) : w ≠ z := fun e => by
 rw [e] at h
 have : decide (z = z) = false := h
 simp at this
theorem Kg {x : V} {is : List Int} {t : Int} (h : is.getLast? = some t) : atI (x :: is.map V.int) (-1) = some (V.int t) := by
 have hp : 0 < is.length := by
  cases is with
  | nil => cases h
  | cons a b => simp
 rw [List.getLast?_eq_getElem?] at h
 unfold atI ixN
 rw [if_neg (by decide), if_pos (by rw [List.length_cons, List.length_map]; omega)]
 show (x :: is.map V.int)[_]? = _
 rw [show (-1 + ((x :: is.map V.int).length : Int)).toNat = (is.length - 1) + 1 by rw [List.length_cons, List.length_map]; omega, List.getElem?_cons_succ, List.getElem?_map, h]
 rfl
theorem Gd {is : List Int} (h : is ≠ []) : ∃ t, is.getLast? = some t := by
 cases e : is.getLast? with
 | some t => exact ⟨t, rfl⟩
 | none => exact absurd (List.getLast?_eq_none_iff.mp e) h
theorem Xa (d : PyData) : ([("is" : Str), "below"].any (b7 d)) = (b7 d "is" || b7 d "below") := by
 rw [List.any_cons, List.any_cons, List.any_nil, Bool.or_false]
theorem Em {dw : PyData} (h : (b7 dw "is" || b7 dw "below") = true) (is : List Int) : mO dw is = decide (is.length = 2) := by
 rcases Bool.or_eq_true _ _ ▸ h with z | z
 ·rw [iH z]; exact fC (.inl rfl) is
 ·rw [iH z]; exact fC (.inr rfl) is
theorem wA {dw : PyData} {is : List Int} (h1 : (b7 dw "is" || b7 dw "below") = false) (h3 : b7 dw "within" = false) (h4 : b7 dw "mask" = false) (h5 : b7 dw "pick" = false) : mO dw is = false := by
 rw [Bool.or_eq_false_iff] at h1
 cases dw with
 | str w => exact qg (jt h1.1) (jt h1.2) (jt h3) (jt h4) (jt h5) is
 | _ => rfl
theorem RG {K : PySem.W.Frag} {a : Addr} {xs : List V} {g : TG} {tb : TS} {D : Ends} {σ : St} {H : Hp} {R : It → Hp → Prop} (hR : R = (fun J H1 => ∃ W : Nat → Nat → St → Hp → Prop, (∃ m, W 0 m σ H1) ∧ ∀ i m σ H, W i m σ H →
  (J.stop i H ∧ D.nx σ H) ∨ (J.go i H ∧ ∃ N : St → Hp → Prop, (∀ σ' H', N σ' H' → ∃ m', m' < m ∧ W (i + 1) m' σ' H') ∧ ∀ x H', J.yld i H x H' → g x σ H' fun σ2 H2 => tb { D with nx := N, ct := N, bk := D.nx } σ2 H2)))
  (Pv : Nat → St → Hp → Prop) (h0 : Pv 0 σ H) (hl : ∀ i σ H, Pv i σ H → H a = some (.lst xs))
  (hs : ∀ (i : Nat) x σ H p, xs[i]? = some x → Pv i σ H → H p = none → g (.ref p) σ (upd H p (.tup [.int (i : Nat), x])) fun σ2 H2 => tb { D with nx := Pv (i + 1), ct := Pv (i + 1), bk := D.nx } σ2 H2) (hd : ∀ σ H, Pv xs.length σ H → D.nx σ H) : R (Ite K a) H := by
 refine K5 hR xs.length Pv h0 (fun i σ H hi p => ?_) (fun σ H p => ?_) (fun i σ H x H3 hi p y => ?_) hd
 ·exact ⟨xs, _, SqL.of (hl i σ H p), List.getElem?_eq_getElem hi⟩
 ·exact ⟨xs, SqL.of (hl _ σ H p), List.getElem?_eq_none (Nat.le_refl _)⟩
 ·obtain ⟨q, x1, rfl, hq, rfl, hx⟩ := y
  exact hs i x1 σ H q (hx _ (SqL.of (hl i σ H p))) p hq
def lZ (w : Str) : Int := if w = "is" then 3 else if w = "within" then 4 else if w = "below" then 3 else if w = "mask" then 5 else if w = "pick" then 2 else 0
theorem jD (w : Str) : (w = "is" ∧ lZ w = 3) ∨ (w = "within" ∧ lZ w = 4) ∨ (w = "below" ∧ lZ w = 3) ∨ (w = "mask" ∧ lZ w = 5) ∨ (w = "pick" ∧ lZ w = 2) ∨ (lZ w = 0 ∧ w ≠ "is" ∧ w ≠ "below" ∧ w ≠ "within" ∧ w ≠ "mask" ∧ w ≠ "pick") := by
 unfold lZ
 by_cases h1 : w = "is"
 ·exact .inl ⟨h1, if_pos h1⟩
 by_cases h2 : w = "within"
 ·exact .inr (.inl ⟨h2, by rw [if_neg h1, if_pos h2]⟩)
 by_cases h3 : w = "below"
 ·exact .inr (.inr (.inl ⟨h3, by rw [if_neg h1, if_neg h2, if_pos h3]⟩))
 by_cases h4 : w = "mask"
 ·exact .inr (.inr (.inr (.inl ⟨h4, by rw [if_neg h1, if_neg h2, if_neg h3, if_pos h4]⟩)))
 by_cases h5 : w = "pick"
 ·exact .inr (.inr (.inr (.inr (.inl ⟨h5, by rw [if_neg h1, if_neg h2, if_neg h3, if_neg h4, if_pos h5]⟩))))
 ·exact .inr (.inr (.inr (.inr (.inr ⟨by rw [if_neg h1, if_neg h2, if_neg h3, if_neg h4, if_neg h5], h1, h3, h2, h4, h5⟩))))
theorem Aa {w : Str} {is : List Int} (h : lZ w ≠ (is.length : Int) + 1) : cu w is = false := by
 rcases jD w with ⟨rfl, e⟩ | ⟨rfl, e⟩ | ⟨rfl, e⟩ | ⟨rfl, e⟩ | ⟨rfl, e⟩ | ⟨e, h1, h2, h3, h4, h5⟩
 ·rw [fC (.inl rfl)]; exact decide_eq_false (by rw [e] at h; omega)
 ·rw [jE]
  match is, h with
  | [], _ => rfl
  | [a], _ => rfl
  | [a, b], _ => rfl
  | [a, b, c], h => exact absurd e h
  | a :: b :: c :: d :: r, _ => rfl
 ·rw [fC (.inr rfl)]; exact decide_eq_false (by rw [e] at h; omega)
 ·rw [mL]
  match is, h with
  | [], _ => rfl
  | [a], _ => rfl
  | [a, b], _ => rfl
  | [a, b, c], _ => rfl
  | [a, b, c, d], h => exact absurd e h
  | a :: b :: c :: d :: f :: r, _ => rfl
 ·have := yC 0 0 is
  rw [nA (by decide +kernel)] at this
  replace this : (cu "pick" is && (gB "pick" is).all (btw 0 0)) = _ := this
  rw [show gB "pick" is = [] from if_pos rfl, List.all_nil, Bool.and_true] at this
  rw [this]
  match is, h with
  | [], _ => rfl
  | [a], h => exact absurd e h
  | a :: b :: r, _ => rfl
 ·exact qg h1 h2 h3 h4 h5 is
theorem qi {w : Str} {is : List Int} (h : w ≠ "table") : gG (.tuple (.str w :: is.map PyData.int)) = cu w is := by
 unfold gG
 simp only [if_neg h, ju, jn, Bool.true_and]
theorem wB (ps : List PyData) : gG (.tuple (.str "table" :: ps)) = (rG ps).isSome := by
 unfold gG
 simp only [if_true]
theorem Same.none {H H' : Hp} (s : Same H H') {p : Addr} (h : H' p = none) : H p = none := by
 cases e : H p with
 | none => rfl
 | some o => rw [s _ _ e] at h; cases h
theorem Hj (n : Int) (gs : List PyData) : (rG [.int n, .tuple gs]).isSome = (!gs.isEmpty && gs.all cW) := by
 show (if (!gs.isEmpty && gs.all cW) = true then some gs else none).isSome = _
 cases (!gs.isEmpty && gs.all cW) <;> rfl
theorem Wm {is : List Int} (h : is.length = 2) : ∃ a b, is = [a, b] := by
 match is, h with
 | [a, b], _ => exact ⟨a, b, rfl⟩
theorem W3 {is : List Int} (h : is.length = 3) : ∃ a b c, is = [a, b, c] := by
 match is, h with
 | [a, b, c], _ => exact ⟨a, b, c, rfl⟩
theorem W2 {is : List Int} (h : is.length = 4) : ∃ a b c d, is = [a, b, c, d] := by
 match is, h with
 | [a, b, c, d], _ => exact ⟨a, b, c, d, rfl⟩
theorem W4 {is : List Int} (h : is.length = 1) : ∃ a, is = [a] := by
 match is, h with
 | [a], _ => exact ⟨a, rfl⟩
inductive fu where
 | ins (w : Str) (is : List Int)
 | tab (n : Int) (gs : List Int)
def nF : fu → PyData
 | .ins w is => .tuple (.str w :: is.map PyData.int)
 | .tab n gs => .tuple [.str "table", .int n, .tuple (gs.map PyData.int)]
def gF (many own : Int) : fu → Prop
 | .ins w is => w ≠ "table" ∧ cu w is = true ∧ (gB w is).all (btw own many) = true ∧ (∀ i ∈ is, i.natAbs ≤ 2 ^ 64) ∧ is.length ≤ 4 ∧ w.length ≤ 10
 | .tab n gs => gs ≠ [] ∧ gs.length ≤ 200 ∧ gs.all (btw own many) = true ∧ n.natAbs ≤ 1000
def Ia : Sp := fun vs H Q _ => ∃ (p : Addr) (m B : Int), vs = [.ref p, .int m] ∧ cH H p B ∧ 0 ≤ B ∧ B ≤ 900000 ∧ 1 ≤ m ∧ m ≤ 21 ∧
 ∀ (l : Addr) (rs : List fu) H', bU p H H' → cH H' p (B + 20000) → bf (· ≠ p) H' (.ref l) (.list (rs.map nF)) → (rs.length : Int) = m → (∀ (j : Nat) r, rs[j]? = some r → gF m j r) → Q (.ref l) H'
theorem vo {k : Nat} (h : k ≤ 64) : (2 : Int) ^ k ≤ 2 ^ 64 := by
 have := Nat.pow_le_pow_right (n := 2) (by decide) h
 exact_mod_cast this
theorem vg {rs : List fu} {m : Int} {r : fu} (h : ∀ (j : Nat) r, rs[j]? = some r → gF m j r) (hr : gF m rs.length r) : ∀ (j : Nat) r', (rs ++ [r])[j]? = some r' → gF m j r' := fun j r' e => by
 rcases Nat.lt_or_ge j rs.length with z | z
 ·rw [List.getElem?_append_left z] at e
  exact h j r' e
 ·rw [List.getElem?_append_right z] at e
  cases hk : j - rs.length with
  | zero =>
   rw [hk] at e
   cases e
   rw [show j = rs.length by omega]
   exact hr
  | succ k => rw [hk] at e; cases e
theorem RB {m o n t : Int} (h1 : n.natAbs ≤ 2 ^ 64) (h2 : t.natAbs ≤ 2 ^ 64) (h : btw o m t = true) : gF m o (.ins "is" [n, t]) ∧ gF m o (.ins "below" [n, t]) := by
 constructor <;> exact ⟨by decide +kernel, by rw [fC (by first | exact .inl rfl | exact .inr rfl)]; rfl, by rw [dF (by decide +kernel) (show [n, t].getLast? = some t from rfl)]; simp [h], by simp [h1, h2], by simp, by decide +kernel⟩
theorem Fx {m o a b t : Int} (hab : a ≤ b) (h1 : a.natAbs ≤ 2 ^ 64) (h2 : b.natAbs ≤ 2 ^ 64) (h3 : t.natAbs ≤ 2 ^ 64) (h : btw o m t = true) : gF m o (.ins "within" [a, b, t]) :=
 ⟨by decide +kernel, by rw [jE]; exact decide_eq_true hab, by rw [dF (by decide +kernel) (show [a, b, t].getLast? = some t from rfl)]; simp [h], by simp [h1, h2, h3], by simp, by decide +kernel⟩
theorem Qf {m o a wd bits t : Int} (hw : 1 ≤ wd ∧ wd ≤ 64) (hb : 0 ≤ bits ∧ bits < 2 ^ wd.toNat) (h1 : a.natAbs ≤ 2 ^ 64) (h3 : t.natAbs ≤ 2 ^ 64) (h : btw o m t = true) : gF m o (.ins "mask" [a, wd, bits, t]) := by
 have p := vo (k := wd.toNat) (by omega)
 refine ⟨by decide +kernel, ?_, by rw [dF (by decide +kernel) (show [a, wd, bits, t].getLast? = some t from rfl)]; simp [h], ?_, by simp, by decide +kernel⟩
 ·rw [mL]
  show ((decide (1 ≤ wd) && decide (wd ≤ 64)) && (decide (0 ≤ bits) && decide (bits < 2 ^ wd.toNat))) = true
  rw [decide_eq_true hw.1, decide_eq_true hw.2, decide_eq_true hb.1, decide_eq_true hb.2]
  rfl
 ·intro i hi
  simp only [List.mem_cons, List.not_mem_nil, or_false] at hi
  rcases hi with rfl | rfl | rfl | rfl <;> omega
theorem Dc {m o l : Int} (h : 0 ≤ l) (h2 : l.natAbs ≤ 2 ^ 64) : gF m o (.ins "pick" [l]) :=
 ⟨by decide +kernel, by show (decide (("pick" : Str) = "pick") && decide (0 ≤ l)) = true; rw [decide_eq_true rfl, decide_eq_true h]; rfl, by rw [show gB "pick" [l] = [] from if_pos rfl]; rfl, by simp [h2], by simp, by decide +kernel⟩
theorem zx {o m r : Int} (h0 : 0 ≤ r) (h1 : r < m - o - 1) : btw o m (o + 1 + r) = true := by
 unfold btw
 rw [decide_eq_true (by omega), decide_eq_true (by omega)]
 rfl
mutual
def szB : PyData → Bool
 | .none => true
 | .bool _ => true
 | .int i => decide (i.natAbs ≤ 10 ^ 20)
 | .str x => decide (x.length ≤ 30) && x.cps.toList.all fun c => decide (c < 16 ^ 8)
 | .list ds => decide (ds.length ≤ 210) && SJ ds
 | .tuple ds => decide (ds.length ≤ 210) && SJ ds
 | .dict _ => false
def SJ : List PyData → Bool
 | [] => true
 | d :: ds => szB d && SJ ds
end
theorem Wr {K : PySem.W.Frag} {a : Addr} {xs : List V} {g : TG} {tb : TS} {D : Ends} {σ : St} {H : Hp} {R : It → Hp → Prop} (hR : R = (fun J H1 => ∃ W : Nat → Nat → St → Hp → Prop, (∃ m, W 0 m σ H1) ∧ ∀ i m σ H, W i m σ H →
  (J.stop i H ∧ D.nx σ H) ∨ (J.go i H ∧ ∃ N : St → Hp → Prop, (∀ σ' H', N σ' H' → ∃ m', m' < m ∧ W (i + 1) m' σ' H') ∧ ∀ x H', J.yld i H x H' → g x σ H' fun σ2 H2 => tb { D with nx := N, ct := N, bk := D.nx } σ2 H2)))
  (Pv : Nat → St → Hp → Prop) (h0 : Pv 0 σ H) (hl : ∀ i σ H, Pv i σ H → H a = some (.tup xs))
  (hs : ∀ i x σ H, xs[i]? = some x → Pv i σ H → g x σ H fun σ2 H2 => tb { D with nx := Pv (i + 1), ct := Pv (i + 1), bk := D.nx } σ2 H2) (hd : ∀ σ H, Pv xs.length σ H → D.nx σ H) : R (Itt K a) H := by
 refine K5 hR xs.length Pv h0 (fun i σ H hi p => ?_) (fun σ H p => ?_) (fun i σ H x H3 hi p y => ?_) hd
 ·exact ⟨xs, _, SqT.of (hl i σ H p), List.getElem?_eq_getElem hi⟩
 ·exact ⟨xs, SqT.of (hl _ σ H p), Nat.le_refl _⟩
 ·obtain ⟨rfl, hx⟩ := y
  exact hs i x σ _ (hx _ (SqT.of (hl i σ _ p))) p
theorem Nj {many own : Int} {r : fu} (h : gF many own r) : gG (nF r) = true ∧ (jj (nF r)).all (btw own many) = true := by
 cases r with
 | ins w is =>
  obtain ⟨hw, hs, hg, _⟩ := h
  refine ⟨by rw [show nF (.ins w is) = .tuple (.str w :: is.map PyData.int) from rfl, qi hw]; exact hs, ?_⟩
  show (jj (.tuple (.str w :: is.map PyData.int))).all (btw own many) = true
  unfold jj
  simp only [if_neg hw, jn]
  exact hg
 | tab n gs =>
  obtain ⟨hn, _, hg, _⟩ := h
  have he : (gs.map PyData.int).isEmpty = false := by
   cases gs with
   | nil => exact absurd rfl hn
   | cons a b => rfl
  refine ⟨?_, ?_⟩
  ·show gG (.tuple (.str "table" :: [.int n, .tuple (gs.map PyData.int)])) = true
   rw [wB, Hj, he, ju]
   rfl
  ·show (jj (.tuple (.str "table" :: [.int n, .tuple (gs.map PyData.int)]))).all (btw own many) = true
   unfold jj rG
   simp only [if_true, he, ju, Bool.not_false, Bool.and_self, Option.getD_some, jn]
   exact hg
theorem rC {prog : Program} {w : World} {A : Around} {E : Value → Shared → Prop} {s : Shared} {z TI TO i1 i2 l1 l2 : Addr} {k1 k2 : Nat} {xs ys : Array Value} {x y a b : Value} {Q : Value → Shared → Prop} (D : ZipApart z TI TO i1 i2 l1 l2) (hz : IsZip s.heap z TI TO Value.none) (hTI : IsPair s.heap TI (Value.ref i1) (Value.ref i2)) (hTO : IsPair s.heap TO a b)
  (h1 : s.heap.IsTupleIter i1 l1 k1) (h2 : s.heap.IsTupleIter i2 l2 k2) (hl1 : s.heap.IsTuple l1 xs) (hl2 : s.heap.IsTuple l2 ys) (hx : xs[k1]? = some x) (hy : ys[k2]? = some y)
  (hQ : ∀ h' : Heap, IsZip h' z TI TO (rawInt s.heap.objs.size) → IsPair h' TO x y → h'.IsTupleIter i1 l1 (k1 + 1) → h'.IsTupleIter i2 l2 (k2 + 1) → IsPair h' s.heap.objs.size x y → h'.objs.size = s.heap.objs.size + 1 → (∀ c o, c ≠ z → c ≠ TO → c ≠ i1 → c ≠ i2 → s.heap.get? c = some o → h'.get? c = some o) → Q (Value.ref s.heap.objs.size) { s with heap := h' }) :
  wpAny (model prog w) A (Builtin.«zip.__next__» { pos := [Value.ref z] }) (fun fin s' => ∃ v, fin = Fin.done (Flow.ret v) ∧ Q v s') E s := by
 show wpAny _ _ (field (Value.ref z) 2 >>= _) _ _ _
 refine wpAny_bind (wpAny_field hz rfl rfl ?_)
 show wpAny _ _ (field (Value.ref z) 3 >>= _) _ _ _
 refine wpAny_bind (wpAny_field hz rfl rfl ?_)
 refine wpAny_bind (wpAny_seqItems hTI rfl ?_)
 show wpAny _ _ (Builtin.SmallTypes.ownedTupleIsFree (Value.ref z) >>= _) _ _ _
 refine wpAny_bind ?_
 show wpAny _ _ (field (Value.ref z) 0 >>= _) _ _ _
 refine wpAny_bind (wpAny_field hz rfl rfl (wpAny_pure ?_))
 show wpAny _ _ (rule _ >>= _) _ _ _
 refine wpAny_bind (wpAny_rule (wpAny_bind (wpAny_field hz rfl rfl ?_)))
 show wpAny _ _ (setField (Value.ref z) 0 Value.ellipsis >>= _) _ _ _
 refine wpAny_bind (wpAny_setField_rec hz (Nat.lt_of_sub_pos (Nat.zero_lt_succ 4)) fun h₁ hz₁ hs₁ => ?_)
 have old1 : ∀ c o, c ≠ z → s.heap.get? c = some o → h₁.get? c = some o := fun c o hc e => (hs₁.2 c hc).trans e
 have h1a : h₁.IsTupleIter i1 l1 k1 := h1.at fun o e => old1 i1 o D.i1z e
 have h2a : h₁.IsTupleIter i2 l2 k2 := h2.at fun o e => old1 i2 o D.i2z e
 have tup : ∀ {h : Heap} {l : Addr} {vs : Array Value}, s.heap.IsTuple l vs → (∀ o, s.heap.get? l = some o → h.get? l = some o) → h.IsTuple l vs := fun ⟨o, e, r⟩ k => ⟨o, k o e, r⟩
 refine wpAny_bind ?_
 show wpAny _ _ (forIn [(Value.ref i1, 0), (Value.ref i2, 1)] (none, ()) _) _ _ _
 rw [List.forIn_cons]
 refine wpAny_bind ?_
 show wpAny _ _ ((Sem.onRaise (Builtin.SmallTypes.nextOf (Value.ref i1) >>= fun v => pure (some v)) (fun _ => setField (Value.ref z) 0 Value.none)) >>= _) _ _ _
 refine wpAny_bind (wpAny_onRaise (wpAny_bind (eF (s := { s with heap := h₁ }) h1a (tup hl1 fun o e => old1 l1 o D.l1z e) hx fun h₂ h1b sb₂ => wpAny_pure ?_)))
 have old2 : ∀ c o, c ≠ z → c ≠ i1 → s.heap.get? c = some o → h₂.get? c = some o := fun c o hc hc1 e => (sb₂.2 c hc1).trans (old1 c o hc e)
 have hTO2 : IsPair h₂ TO a b := old2 TO _ D.TOz D.TOi1 hTO
 show wpAny _ _ (seqItems? (Value.ref TO) >>= _) _ _ _
 refine wpAny_bind (wpAny_seqItems (s := { s with heap := h₂ }) hTO2 rfl ?_)
 show wpAny _ _ (updateSeq TO _ >>= _) _ _ _
 refine wpAny_bind (wpAny_updateSeq_pair (s := { s with heap := h₂ }) hTO2 fun h₃ g₃ sb₃ => ?_)
 refine wpAny_bind (wpAny_letGo (wpAny_pure ?_))
 show wpAny _ _ (forIn [(Value.ref i2, 1)] (none, ()) _) _ _ _
 rw [List.forIn_cons]
 refine wpAny_bind ?_
 have old3 : ∀ c o, c ≠ z → c ≠ i1 → c ≠ TO → s.heap.get? c = some o → h₃.get? c = some o := fun c o hc hc1 hc2 e => (sb₃.2 c hc2).trans (old2 c o hc hc1 e)
 have h2c : h₃.IsTupleIter i2 l2 k2 := h2.at fun o e => old3 i2 o D.i2z (Ne.symm D.i12) (Ne.symm D.TOi2) e
 have g₃' : IsPair h₃ TO x b := g₃
 show wpAny _ _ ((Sem.onRaise (Builtin.SmallTypes.nextOf (Value.ref i2) >>= fun v => pure (some v)) (fun _ => setField (Value.ref z) 0 Value.none)) >>= _) _ _ _
 refine wpAny_bind (wpAny_onRaise (wpAny_bind (eF (s := { s with heap := h₃ }) h2c (tup hl2 fun o e => old3 l2 o D.l2z D.l2i1 D.l2TO e) hy fun h₄ h2d sb₄ => wpAny_pure ?_)))
 have hTO4 : IsPair h₄ TO x b := (sb₄.2 TO D.TOi2).trans g₃'
 show wpAny _ _ (seqItems? (Value.ref TO) >>= _) _ _ _
 refine wpAny_bind (wpAny_seqItems (s := { s with heap := h₄ }) hTO4 rfl ?_)
 show wpAny _ _ (updateSeq TO _ >>= _) _ _ _
 refine wpAny_bind (wpAny_updateSeq_pair (s := { s with heap := h₄ }) hTO4 fun h₅ g₅ sb₅ => ?_)
 refine wpAny_bind (wpAny_letGo (wpAny_pure ?_))
 have g₅' : IsPair h₅ TO x y := g₅
 show wpAny _ _ (forIn [] (none, ()) _) _ _ _
 rw [List.forIn_nil]
 refine wpAny_pure ?_
 show wpAny _ _ (seqItems? (Value.ref TO) >>= _) _ _ _
 refine wpAny_bind (wpAny_seqItems (s := { s with heap := h₅ }) g₅' rfl ?_)
 show wpAny _ _ (newTuple [x, y] >>= _) _ _ _
 refine wpAny_bind (wpAny_newTuple ?_ (by show 2 ≤ sizeLine; decide))
 have sz : h₅.objs.size = s.heap.objs.size := by
  rw [sb₅.1, sb₄.1, sb₃.1, sb₂.1, hs₁.1]
 have z5 : h₅.get? z = _ := (sb₅.2 z (Ne.symm D.TOz)).trans ((sb₄.2 z (Ne.symm D.i2z)).trans ((sb₃.2 z (Ne.symm D.TOz)).trans ((sb₂.2 z (Ne.symm D.i1z)).trans hz₁)))
 have z6 : (h₅.push { cls := Value.type "tuple", data := Data.seq #[x, y] }).get? z = _ := Heap.get?_push_of_some _ z5
 refine wpAny_bind ?_
 show wpAny _ _ (setField (Value.ref z) 0 (rawInt h₅.objs.size) >>= fun _ => setField (Value.ref z) 1 (Value.bool false)) _ _ _
 refine wpAny_bind (wpAny_setField_rec (s := { s with heap := h₅.push { cls := Value.type "tuple", data := Data.seq #[x, y] } }) z6 (Nat.lt_of_sub_pos (Nat.zero_lt_succ 4)) fun h₇ hz₇ hs₇ => ?_)
 refine wpAny_setField_rec (s := { s with heap := h₇ }) hz₇ (Nat.lt_of_sub_pos (Nat.zero_lt_succ 3)) fun h₈ hz₈ hs₈ => ?_
 have nzs : s.heap.objs.size ≠ z := fun q => by
  have := Heap.lt_size hz
  rw [← q] at this
  exact Nat.lt_irrefl _ this
 have old6 : ∀ c o, h₅.get? c = some o → (h₅.push { cls := Value.type "tuple", data := Data.seq #[x, y] }).get? c = some o := fun c o e => Heap.get?_push_of_some _ e
 have old8 : ∀ c o, c ≠ z → h₅.get? c = some o → h₈.get? c = some o := fun c o hc e => (hs₈.2 c hc).trans ((hs₇.2 c hc).trans (old6 c o e))
 have new8 : h₈.get? s.heap.objs.size = some { cls := Value.type "tuple", data := Data.seq #[x, y] } := by
  refine (hs₈.2 _ nzs).trans ((hs₇.2 _ nzs).trans ?_)
  show (h₅.push { cls := Value.type "tuple", data := Data.seq #[x, y] }).get? s.heap.objs.size = _
  rw [← sz]
  exact Heap.get?_push_size _ rfl
 refine wpAny_pure ⟨_, rfl, ?_⟩
 rw [show (({ s with heap := h₅ } : Shared).heap.objs.size) = s.heap.objs.size from sz]
 refine hQ h₈ ?_ ?_ ?_ ?_ new8 ?_ ?_
 ·rw [sz] at hz₈
  exact hz₈
 ·exact old8 TO _ D.TOz g₅'
 ·refine h1b.at fun o e => old8 i1 o D.i1z ?_
  exact (sb₅.2 i1 (Ne.symm D.TOi1)).trans ((sb₄.2 i1 D.i12).trans ((sb₃.2 i1 (Ne.symm D.TOi1)).trans e))
 ·refine h2d.at fun o e => old8 i2 o D.i2z ?_
  exact (sb₅.2 i2 (Ne.symm D.TOi2)).trans e
 ·rw [hs₈.1, hs₇.1]
  show (h₅.push { cls := Value.type "tuple", data := Data.seq #[x, y] }).objs.size = _
  rw [Heap.size_push, sz]
 ·intro c o hc1 hc2 hc3 hc4 e
  exact old8 c o hc1 ((sb₅.2 c hc2).trans ((sb₄.2 c hc4).trans (old3 c o hc1 hc3 hc2 e)))
theorem jC {prog : Program} {w : World} {A : Around} {E : Value → Shared → Prop} {s : Shared} {z TI TO i1 i2 l1 l2 : Addr} {k1 k2 : Nat} {xs ys : Array Value} {x y a b : Value} {Q : Option Value → Shared → Prop} (D : ZipApart z TI TO i1 i2 l1 l2) (hz : IsZip s.heap z TI TO Value.none) (hTI : IsPair s.heap TI (Value.ref i1) (Value.ref i2)) (hTO : IsPair s.heap TO a b)
  (h1 : s.heap.IsTupleIter i1 l1 k1) (h2 : s.heap.IsTupleIter i2 l2 k2) (hl1 : s.heap.IsTuple l1 xs) (hl2 : s.heap.IsTuple l2 ys) (hx : xs[k1]? = some x) (hy : ys[k2]? = some y)
  (hQ : ∀ h' : Heap, IsZip h' z TI TO (rawInt s.heap.objs.size) → IsPair h' TO x y → h'.IsTupleIter i1 l1 (k1 + 1) → h'.IsTupleIter i2 l2 (k2 + 1) → IsPair h' s.heap.objs.size x y → h'.objs.size = s.heap.objs.size + 1 → (∀ c o, c ≠ z → c ≠ TO → c ≠ i1 → c ≠ i2 → s.heap.get? c = some o → h'.get? c = some o) → Q (some (Value.ref s.heap.objs.size)) { s with heap := h' }) :
  wpAny (model prog w) A (pyNext (Value.ref z)) Q E s := by
 have hT : ∃ o, s.heap.get? z = some o ∧ o.cls = Value.type "zip" := ⟨_, hz, rfl⟩
 exact wpAny_bind (wpAny_attempt (wpAny_callSpecial?_slot hT F.slot_zip_next (wpAny_call_entry F.slot_zip_next hT F.entry_zip_next
  (rC D hz hTI hTO h1 h2 hl1 hl2 hx hy fun h' a1 a2 a3 a4 a5 a6 a7 => wpAny_pure (hQ h' a1 a2 a3 a4 a5 a6 a7)) (F.args_zip_next_1 (Value.ref z)))))
theorem uo {prog : Program} {w : World} {A : Around} {E : Value → Shared → Prop} {s : Shared} {z TI TO i1 i2 l1 l2 : Addr} {k1 k2 : Nat} {xs ys : Array Value} {a b : Value} {Q : PySem.Fin → Shared → Prop} (hh : A.handled = none) (D : ZipApart z TI TO i1 i2 l1 l2) (hz : IsZip s.heap z TI TO Value.none) (hTI : IsPair s.heap TI (Value.ref i1) (Value.ref i2)) (hTO : IsPair s.heap TO a b)
  (h1 : s.heap.IsTupleIter i1 l1 k1) (h2 : s.heap.IsTupleIter i2 l2 k2) (hl1 : s.heap.IsTuple l1 xs) (hl2 : s.heap.IsTuple l2 ys) (hend : xs[k1]? = none ∨ ys[k2]? = none)
  (hE : ∀ (h' : Heap) (e : Addr), (∀ c o, c ≠ z → c ≠ TO → c ≠ i1 → c ≠ i2 → s.heap.get? c = some o → h'.get? c = some o) → (∃ o, h'.get? e = some o ∧ o.cls = Value.type "StopIteration") → E (Value.ref e) { s with heap := h' }) :
  wpAny (model prog w) A (Builtin.«zip.__next__» { pos := [Value.ref z] }) Q E s := by
 show wpAny _ _ (field (Value.ref z) 2 >>= _) _ _ _
 refine wpAny_bind (wpAny_field hz rfl rfl ?_)
 show wpAny _ _ (field (Value.ref z) 3 >>= _) _ _ _
 refine wpAny_bind (wpAny_field hz rfl rfl ?_)
 refine wpAny_bind (wpAny_seqItems hTI rfl ?_)
 show wpAny _ _ (Builtin.SmallTypes.ownedTupleIsFree (Value.ref z) >>= _) _ _ _
 refine wpAny_bind ?_
 show wpAny _ _ (field (Value.ref z) 0 >>= _) _ _ _
 refine wpAny_bind (wpAny_field hz rfl rfl (wpAny_pure ?_))
 show wpAny _ _ (rule _ >>= _) _ _ _
 refine wpAny_bind (wpAny_rule (wpAny_bind (wpAny_field hz rfl rfl ?_)))
 show wpAny _ _ (setField (Value.ref z) 0 Value.ellipsis >>= _) _ _ _
 refine wpAny_bind (wpAny_setField_rec hz (Nat.lt_of_sub_pos (Nat.zero_lt_succ 4)) fun h₁ hz₁ hs₁ => ?_)
 have old1 : ∀ c o, c ≠ z → s.heap.get? c = some o → h₁.get? c = some o := fun c o hc e => (hs₁.2 c hc).trans e
 have h1a : h₁.IsTupleIter i1 l1 k1 := h1.at fun o e => old1 i1 o D.i1z e
 have tup : ∀ {h : Heap} {l : Addr} {vs : Array Value}, s.heap.IsTuple l vs → (∀ o, s.heap.get? l = some o → h.get? l = some o) → h.IsTuple l vs := fun ⟨o, e, r⟩ k => ⟨o, k o e, r⟩
 have out : ∀ {h : Heap} {e : Addr} {vs : Array Value}, h.get? z = some { cls := Value.type "zip", data := Data.fields vs } → 0 < vs.size → (∀ c o, c ≠ z → c ≠ TO → c ≠ i1 → c ≠ i2 → s.heap.get? c = some o → h.get? c = some o) → (∃ o, h.get? e = some o ∧ o.cls = Value.type "StopIteration") →
   wpAny (model prog w) A (setField (Value.ref z) 0 Value.none) (fun _ s'' => E (Value.ref e) s'') E { s with heap := h } := fun {h e vs} ez hv hk he => by
  refine wpAny_setField_rec (s := { s with heap := h }) ez hv fun h' _ hs => hE h' e (fun c o c1 c2 c3 c4 g => (hs.2 c c1).trans (hk c o c1 c2 c3 c4 g)) ?_
  obtain ⟨o, ho, hc⟩ := he
  refine ⟨o, (hs.2 e fun q => ?_).trans ho, hc⟩
  rw [q, ez] at ho
  cases ho
  injection hc with hc
  exact absurd hc (by decide)
 refine wpAny_bind ?_
 show wpAny _ _ (forIn [(Value.ref i1, 0), (Value.ref i2, 1)] (none, ()) _) _ _ _
 rw [List.forIn_cons]
 refine wpAny_bind ?_
 show wpAny _ _ ((Sem.onRaise (Builtin.SmallTypes.nextOf (Value.ref i1) >>= fun v => pure (some v)) (fun _ => setField (Value.ref z) 0 Value.none)) >>= _) _ _ _
 cases hx : xs[k1]? with
 | none =>
  refine wpAny_bind (wpAny_onRaise (wpAny_bind (gM (s := { s with heap := h₁ }) hh h1a (tup hl1 fun o e => old1 l1 o D.l1z e) hx fun h₂ e ext he => ?_)))
  exact out (h := h₂) (ext z _ (Ne.symm D.i1z) hz₁) (Nat.lt_of_sub_pos (Nat.zero_lt_succ 4)) (fun c o c1 c2 c3 c4 g => ext c o c3 (old1 c o c1 g)) he
 | some x =>
  have hy : ys[k2]? = none := by
   rcases hend with q | q
   ·rw [hx] at q; cases q
   ·exact q
  refine wpAny_bind (wpAny_onRaise (wpAny_bind (eF (s := { s with heap := h₁ }) h1a (tup hl1 fun o e => old1 l1 o D.l1z e) hx fun h₂ h1b sb₂ => wpAny_pure ?_)))
  have old2 : ∀ c o, c ≠ z → c ≠ i1 → s.heap.get? c = some o → h₂.get? c = some o := fun c o hc hc1 e => (sb₂.2 c hc1).trans (old1 c o hc e)
  have hTO2 : IsPair h₂ TO a b := old2 TO _ D.TOz D.TOi1 hTO
  show wpAny _ _ (seqItems? (Value.ref TO) >>= _) _ _ _
  refine wpAny_bind (wpAny_seqItems (s := { s with heap := h₂ }) hTO2 rfl ?_)
  show wpAny _ _ (updateSeq TO _ >>= _) _ _ _
  refine wpAny_bind (wpAny_updateSeq_pair (s := { s with heap := h₂ }) hTO2 fun h₃ g₃ sb₃ => ?_)
  refine wpAny_bind (wpAny_letGo (wpAny_pure ?_))
  show wpAny _ _ (forIn [(Value.ref i2, 1)] (none, ()) _) _ _ _
  rw [List.forIn_cons]
  refine wpAny_bind ?_
  have old3 : ∀ c o, c ≠ z → c ≠ i1 → c ≠ TO → s.heap.get? c = some o → h₃.get? c = some o := fun c o hc hc1 hc2 e => (sb₃.2 c hc2).trans (old2 c o hc hc1 e)
  have h2c : h₃.IsTupleIter i2 l2 k2 := h2.at fun o e => old3 i2 o D.i2z (Ne.symm D.i12) (Ne.symm D.TOi2) e
  have z3 : h₃.get? z = _ := (sb₃.2 z (Ne.symm D.TOz)).trans ((sb₂.2 z (Ne.symm D.i1z)).trans hz₁)
  show wpAny _ _ ((Sem.onRaise (Builtin.SmallTypes.nextOf (Value.ref i2) >>= fun v => pure (some v)) (fun _ => setField (Value.ref z) 0 Value.none)) >>= _) _ _ _
  refine wpAny_bind (wpAny_onRaise (wpAny_bind (gM (s := { s with heap := h₃ }) hh h2c (tup hl2 fun o e => old3 l2 o D.l2z D.l2i1 D.l2TO e) hy fun h₄ e ext he => ?_)))
  exact out (h := h₄) (ext z _ (Ne.symm D.i2z) z3) (Nat.lt_of_sub_pos (Nat.zero_lt_succ 4)) (fun c o c1 c2 c3 c4 g => ext c o c4 (old3 c o c1 c3 c2 g)) he
theorem jW {prog : Program} {w : World} {A : Around} {E : Value → Shared → Prop} {s : Shared} {z TI TO i1 i2 l1 l2 : Addr} {k1 k2 : Nat} {xs ys : Array Value} {a b : Value} {Q : Option Value → Shared → Prop} (hh : A.handled = none) (D : ZipApart z TI TO i1 i2 l1 l2) (hz : IsZip s.heap z TI TO Value.none) (hTI : IsPair s.heap TI (Value.ref i1) (Value.ref i2)) (hTO : IsPair s.heap TO a b)
  (h1 : s.heap.IsTupleIter i1 l1 k1) (h2 : s.heap.IsTupleIter i2 l2 k2) (hl1 : s.heap.IsTuple l1 xs) (hl2 : s.heap.IsTuple l2 ys) (hend : xs[k1]? = none ∨ ys[k2]? = none)
  (hQ : ∀ h' : Heap, (∀ c o, c ≠ z → c ≠ TO → c ≠ i1 → c ≠ i2 → s.heap.get? c = some o → h'.get? c = some o) → Q none { s with heap := h' }) : wpAny (model prog w) A (pyNext (Value.ref z)) Q E s := by
 have hT : ∃ o, s.heap.get? z = some o ∧ o.cls = Value.type "zip" := ⟨_, hz, rfl⟩
 exact wpAny_bind (wpAny_attempt (wpAny_callSpecial?_slot hT F.slot_zip_next (wpAny_call_entry F.slot_zip_next hT F.entry_zip_next
  (uo hh D hz hTI hTO h1 h2 hl1 hl2 hend fun h' e hk he => by
   obtain ⟨o, ho, hc⟩ := he
   exact wpAny_bind (wpAny_isInstance ⟨o, ho, hc⟩ isSubtype_stop (wpAny_pure (hQ h' hk)))) (F.args_zip_next_1 (Value.ref z)))))
def tz1 (h : Heap) (l1 : Addr) : Heap := h.push { cls := Value.type "tuple_iterator", data := Data.fields #[Value.ref l1, Value.int 0 0] }
def tz2 (h : Heap) (l1 l2 : Addr) : Heap := (tz1 h l1).push { cls := Value.type "tuple_iterator", data := Data.fields #[Value.ref l2, Value.int 0 0] }
def tz3 (h : Heap) (l1 l2 : Addr) : Heap := (tz2 h l1 l2).push { cls := Value.type "tuple", data := Data.seq #[Value.ref h.objs.size, Value.ref (tz1 h l1).objs.size] }
def tz4 (h : Heap) (l1 l2 : Addr) : Heap := (tz3 h l1 l2).push { cls := Value.type "tuple", data := Data.seq #[Value.none, Value.none] }
def tz5 (h : Heap) (l1 l2 : Addr) : Heap := (tz4 h l1 l2).push { cls := Value.type "zip", data := Data.fields #[Value.none, Value.bool false, Value.bool false, Value.ref (tz2 h l1 l2).objs.size, Value.ref (tz3 h l1 l2).objs.size] }
theorem GR (l1 l2 : Addr) (xs ys : Array Value) : Meets (Builtin.«zip.__new__» { pos := [Value.type "zip", Value.ref l1, Value.ref l2] }) fun _ R s =>
  s.heap.IsTuple l1 xs ∧ s.heap.IsTuple l2 ys ∧ R (.ok (.ret (.ref (tz4 s.heap l1 l2).objs.size))) { s with heap := tz5 s.heap l1 l2 } := by
 refine Meets.of_wp fun prog w A R s h => ?_
 obtain ⟨ht1, ht2, hR⟩ := h
 unfold Builtin.«zip.__new__» Builtin.SmallTypes.newClass
 refine wpAny_bind (wpAny_bind (wpAny_pure (wpAny_ite_false rfl (wpAny_bind (wpAny_of_eq sub_zip (wpAny_ite_false rfl (wpAny_pure ?_)))))))
 show wpAny _ _ (Builtin.SmallTypes.iterAll [Value.ref l1, Value.ref l2] >>= _) _ _ _
 refine wpAny_bind ?_
 unfold Builtin.SmallTypes.iterAll
 refine wpAny_bind ?_
 rw [List.forIn_cons]
 refine wpAny_bind (wpAny_bind (wpAny_holding (wpAny_pyIter_tuple ht1 (wpAny_pure ?_))))
 show wpAny _ _ (forIn [Value.ref l2] #[Value.ref s.heap.objs.size] _) _ _ _
 rw [List.forIn_cons]
 have ht2' : (tz1 s.heap l1).IsTuple l2 ys := by
  obtain ⟨o, e, r⟩ := ht2
  exact ⟨o, Heap.get?_push_of_some _ e, r⟩
 refine wpAny_bind (wpAny_bind (wpAny_holding (wpAny_pyIter_tuple (s := { s with heap := tz1 s.heap l1 }) ht2' (wpAny_pure ?_))))
 show wpAny _ _ (forIn [] #[Value.ref s.heap.objs.size, Value.ref (tz1 s.heap l1).objs.size] _) _ _ _
 rw [List.forIn_nil]
 refine wpAny_pure (wpAny_pure ?_)
 show wpAny _ _ (newTuple [Value.ref s.heap.objs.size, Value.ref (tz1 s.heap l1).objs.size] >>= _) _ _ { s with heap := tz2 s.heap l1 l2 }
 refine wpAny_bind (wpAny_newTuple ?_ (by show 2 ≤ sizeLine; decide))
 show wpAny _ _ (newTuple [Value.none, Value.none] >>= _) _ _ { s with heap := tz3 s.heap l1 l2 }
 refine wpAny_bind (wpAny_newTuple ?_ (by show 2 ≤ sizeLine; decide))
 show wpAny _ _ (newObj (.type "zip") (.fields #[.none, .bool false, .bool false, .ref (tz2 s.heap l1 l2).objs.size, .ref (tz3 s.heap l1 l2).objs.size]) >>= fun r => ret r) _ _ { s with heap := tz4 s.heap l1 l2 }
 refine wpAny_bind (wpAny_newObj_type ?_)
 exact wpAny_pure ⟨_, rfl, hR⟩
theorem zq {prog : Program} {w : World} {A : Around} {E : Value → Shared → Prop} {s : Shared} {l1 l2 : Addr} {xs ys : Array Value} {Q : Value → Shared → Prop} (hl1 : s.heap.IsTuple l1 xs) (hl2 : s.heap.IsTuple l2 ys)
  (h : ∀ h' : Heap, IsZip h' (s.heap.objs.size + 4) (s.heap.objs.size + 2) (s.heap.objs.size + 3) Value.none → IsPair h' (s.heap.objs.size + 2) (Value.ref s.heap.objs.size) (Value.ref (s.heap.objs.size + 1)) → IsPair h' (s.heap.objs.size + 3) Value.none Value.none → h'.IsTupleIter s.heap.objs.size l1 0 → h'.IsTupleIter (s.heap.objs.size + 1) l2 0 →
   h'.objs.size = s.heap.objs.size + 5 → (∀ c o, s.heap.get? c = some o → h'.get? c = some o) → Q (Value.ref (s.heap.objs.size + 4)) { s with heap := h' }) : wpAny (model prog w) A (call (Value.type "zip") [Value.ref l1, Value.ref l2]) Q E s := by
 refine callType_new F.called_zip (by decide) (F.typeCall_zip_2 _ _) (F.newCall_zip_2 _ _) (fun obj => F.args_object_init_3 obj _ _) F.entry_zip_new (GR l1 l2 xs ys) ⟨hl1, hl2, ?_⟩
 have z1 : (tz1 s.heap l1).objs.size = s.heap.objs.size + 1 := Heap.size_push ..
 have z2 : (tz2 s.heap l1 l2).objs.size = s.heap.objs.size + 2 := (Heap.size_push ..).trans (by rw [z1])
 have z3 : (tz3 s.heap l1 l2).objs.size = s.heap.objs.size + 3 := (Heap.size_push ..).trans (by rw [z2])
 have z4 : (tz4 s.heap l1 l2).objs.size = s.heap.objs.size + 4 := (Heap.size_push ..).trans (by rw [z3])
 have z5 : (tz5 s.heap l1 l2).objs.size = s.heap.objs.size + 5 := (Heap.size_push ..).trans (by rw [z4])
 have g5 : (tz5 s.heap l1 l2).get? (tz4 s.heap l1 l2).objs.size = _ := Heap.get?_push_size _ rfl
 have g4 : (tz5 s.heap l1 l2).get? (tz3 s.heap l1 l2).objs.size = _ := Heap.get?_push_of_some _ (Heap.get?_push_size _ rfl)
 have g3 : (tz5 s.heap l1 l2).get? (tz2 s.heap l1 l2).objs.size = _ := Heap.get?_push_of_some _ (Heap.get?_push_of_some _ (Heap.get?_push_size _ rfl))
 have g2 : (tz5 s.heap l1 l2).get? (tz1 s.heap l1).objs.size = _ := Heap.get?_push_of_some _ (Heap.get?_push_of_some _ (Heap.get?_push_of_some _ (Heap.get?_push_size _ rfl)))
 have g1 : (tz5 s.heap l1 l2).get? s.heap.objs.size = _ := Heap.get?_push_of_some _ (Heap.get?_push_of_some _ (Heap.get?_push_of_some _ (Heap.get?_push_of_some _ (Heap.get?_push_size _ rfl))))
 have hk : ∀ c o, s.heap.get? c = some o → (tz5 s.heap l1 l2).get? c = some o := fun c o e => Heap.get?_push_of_some _ (Heap.get?_push_of_some _ (Heap.get?_push_of_some _ (Heap.get?_push_of_some _ (Heap.get?_push_of_some _ e))))
 rw [z4, z2, z3] at g5
 rw [z3] at g4
 rw [z2, z1] at g3
 rw [z1] at g2
 rw [z4]
 generalize tz5 s.heap l1 l2 = h' at z5 g5 g4 g3 g2 g1 hk
 exact ⟨⟨_, g5, rfl⟩, h h' g5 g3 g4 ⟨_, g1, rfl, rfl⟩ ⟨_, g2, rfl, rfl⟩ z5 hk⟩
def Itu (K : PySem.W.Frag) (a b : Addr) : It :=
 ⟨fun i H => ∃ xs ys x y, SqT K H a xs ∧ SqT K H b ys ∧ xs[i]? = some x ∧ ys[i]? = some y,
  fun i H v H' => ∃ p x y, v = .ref p ∧ H p = none ∧ H' = upd H p (.tup [x, y]) ∧ (∀ xs, SqT K H a xs → xs[i]? = some x) ∧ ∀ ys, SqT K H b ys → ys[i]? = some y,
  fun i H => ∃ xs ys, SqT K H a xs ∧ SqT K H b ys ∧ (xs[i]? = none ∨ ys[i]? = none)⟩
theorem Ec {P : Program} {w : World} {K : PySem.W.Frag} {es : List Expr} {kk : Nat} {tpos : Pos} {z TI TO i1 i2 l1 l2 : Addr} (D : ZipApart z TI TO i1 i2 l1 l2) :
  Turn P w K (.Tuple es kk tpos) (Itu K l1 l2) [z, TI, TO, i1, i2] z (fun i h => IsZip h z TI TO .none ∧ IsPair h TI (.ref i1) (.ref i2) ∧ (∃ a b, IsPair h TO a b) ∧ h.IsTupleIter i1 l1 i ∧ h.IsTupleIter i2 l2 i) where
 mem := by simp
 obj := fun i h st b hb => by
  obtain ⟨hz, hTI, ⟨a, b', hTO⟩, ⟨o1, e1, c1, d1⟩, ⟨o2, e2, c2, d2⟩⟩ := st
  simp only [List.mem_cons, List.not_mem_nil, or_false] at hb
  rcases hb with rfl | rfl | rfl | rfl | rfl
  ·exact ⟨_, hz, fun v q => by cases q⟩
  ·exact ⟨_, hTI, fun v q => by cases q⟩
  ·exact ⟨_, hTO, fun v q => by cases q⟩
  ·exact ⟨o1, e1, fun v q => by rw [d1] at q; cases q⟩
  ·exact ⟨o2, e2, fun v q => by rw [d2] at q; cases q⟩
 keep := fun i h h' st k => by
  obtain ⟨hz, hTI, ⟨a, b', hTO⟩, h1, h2⟩ := st
  exact ⟨k z (by simp) _ hz, k TI (by simp) _ hTI, ⟨a, b', k TO (by simp) _ hTO⟩, h1.at fun o e => k i1 (by simp) o e, h2.at fun o e => k i2 (by simp) o e⟩
 item := by
  intro X hP hw hK hc i pins s σ H E I hf st hg
  subst hP hw hK
  obtain ⟨xs, ys, x, y, q1, q2, hx, hy⟩ := hg
  obtain ⟨its1, rv1, p1, hz1⟩ := I.tuple q1
  obtain ⟨its2, rv2, p2, hz2⟩ := I.tuple q2
  obtain ⟨u1, hu1, ru1⟩ := rv1.get hx
  obtain ⟨u2, hu2, ru2⟩ := rv2.get hy
  obtain ⟨hz, hTI, ⟨a, b', hTO⟩, h1, h2⟩ := st
  refine jC D hz hTI hTO h1 h2 p1 p2 (x := u1) (y := u2) (by simpa using hu1) (by simpa using hu2) fun h' a1 a2 a3 a4 a5 a6 hk => ?_
  have new : cj X.prog X.w (upd H s.heap.objs.size (.tup [x, y])) h' s.heap.objs.size (.tup [x, y]) := ⟨by show 2 ≤ sizeLine; decide, [u1, u2], .cons ru1 (.cons ru2 .nil), _, a5, rfl, _, rfl⟩
  have I1 : Inv X pins σ (upd H s.heap.objs.size (.tup [x, y])) { s with heap := h' } := I.Ci (t' := s.toks) (ch := [z, TO, i1, i2]) (fun b hb => hf b (by
   simp only [List.mem_cons, List.not_mem_nil, or_false] at hb ⊢
   rcases hb with r | r | r | r <;> simp [r]))
   (fun b o hb e => hk b o (fun q => hb (by simp [q])) (fun q => hb (by simp [q])) (fun q => hb (by simp [q])) (fun q => hb (by simp [q])) e) (Nat.le_refl _) new
  have hTI' : IsPair h' TI (.ref i1) (.ref i2) := hk _ _ D.TIz D.TITO D.TIi1 D.TIi2 hTI
  have hsz : ∀ b, b ∈ [z, TI, TO, i1, i2] → b ≠ s.heap.objs.size := fun b hb => by
   obtain ⟨_, _, hlt, _⟩ := hf b hb
   have lt : ∃ o, s.heap.get? b = some o := by
    simp only [List.mem_cons, List.not_mem_nil, or_false] at hb
    rcases hb with rfl | rfl | rfl | rfl | rfl
    ·exact ⟨_, hz⟩
    ·exact ⟨_, hTI⟩
    ·exact ⟨_, hTO⟩
    ·obtain ⟨o, e, _⟩ := h1; exact ⟨o, e⟩
    ·obtain ⟨o, e, _⟩ := h2; exact ⟨o, e⟩
   obtain ⟨o, e⟩ := lt
   exact Nat.ne_of_lt (Heap.lt_size e)
  refine ⟨_, rfl, wpAny_letOwnedTupleGo_zip (s := { s with heap := h' }) a1 fun h'' z2 sb => ?_⟩
  have fz := hf z (by simp)
  have I2 : Inv X pins σ (upd H s.heap.objs.size (.tup [x, y])) { s with heap := h'' } := Inv.turned (s := { s with heap := h' }) (it := z) (t' := s.toks) I1 (fun b o hb e => (sb.2 b hb).trans e) (by rw [aG (hsz z (by simp))]; exact fz.1) fz.2.1 fz.2.2.2.1 fz.2.2.2.2.1 fz.2.2.2.2.2
  refine ⟨.ref s.heap.objs.size, _, I2, rfl, ⟨_, x, y, rfl, I.fresh, rfl, fun xs' q => by rw [I.lH q q1]; exact hx, fun ys' q => by rw [I.lH q q2]; exact hy⟩,
   ⟨z2, (sb.2 _ D.TIz).trans hTI', ⟨_, _, (sb.2 _ D.TOz).trans a2⟩, a3.extBut sb.extBut D.i1z, a4.extBut sb.extBut D.i2z⟩, fun b hb => by rw [aG (hsz b hb)]; exact (hf b hb).1⟩
 done := by
  intro X hP hw hK hc i pins s σ H E I hf st hg
  subst hP hw hK
  obtain ⟨xs, ys, q1, q2, hx⟩ := hg
  obtain ⟨its1, rv1, p1, hz1⟩ := I.tuple q1
  obtain ⟨its2, rv2, p2, hz2⟩ := I.tuple q2
  obtain ⟨hz, hTI, ⟨a, b', hTO⟩, h1, h2⟩ := st
  have hend : its1.toArray[i]? = none ∨ its2.toArray[i]? = none := by
   rcases hx with r | r
   ·exact .inl (by simpa using rv1.none_of r)
   ·exact .inr (by simpa using rv2.none_of r)
  refine jW (I.ok.hd hc) D hz hTI hTO h1 h2 p1 p2 hend fun h' hk => ⟨rfl, ?_⟩
  exact I.Cj (t' := s.toks) (ch := [z, TO, i1, i2]) (fun b hb => hf b (by
   simp only [List.mem_cons, List.not_mem_nil, or_false] at hb ⊢
   rcases hb with r | r | r | r <;> simp [r]))
   (fun b o hb e => hk b o (fun q => hb (by simp [q])) (fun q => hb (by simp [q])) (fun q => hb (by simp [q])) (fun q => hb (by simp [q])) e)
 self := fun _ _ _ _ _ st h => wpAny_pyIter_zip st.1 h
def zpq (K : PySem.W.Frag) (o1 o2 : Option HO) (a b : Addr) (H : Hp) (R : It → Hp → Prop) : Prop := match o1, o2 with
 | some (.lst _), some (.lst _) => R (Itz K a b) H
 | some (.tup _), some (.tup _) => R (Itu K a b) H
 | _, _ => False
def zpK (K : PySem.W.Frag) (vs : List V) (H : Hp) (R : It → Hp → Prop) : Prop := match vs with
 | [.ref a, .ref b] => zpq K (H a) (H b) a b H R
 | _ => False
def KC (K : PySem.W.Frag) (ta : TA) : TI := fun σ H R => ta σ H fun vs H1 => zpK K vs H1 R
theorem Kz (K : PySem.W.Frag) (ta : TA) (σ : St) (H : Hp) (R : It → Hp → Prop) : KC K ta σ H R = ta σ H fun vs H1 => zpK K vs H1 R := rfl
theorem RQ (K : PySem.W.Frag) (a b : Addr) (H : Hp) (R : It → Hp → Prop) : zpK K [.ref a, .ref b] H R = zpq K (H a) (H b) a b H R := rfl
theorem RP (K : PySem.W.Frag) (xs ys : List V) (a b : Addr) (H : Hp) (R : It → Hp → Prop) : zpq K (some (.lst xs)) (some (.lst ys)) a b H R = R (Itz K a b) H := rfl
theorem RN (K : PySem.W.Frag) (xs ys : List V) (a b : Addr) (H : Hp) (R : It → Hp → Prop) : zpq K (some (.tup xs)) (some (.tup ys)) a b H R = R (Itu K a b) H := rfl
section
variable {X : Cx}
theorem O9 {es : List Expr} {kk : Nat} {tpos : Pos} {a b : Expr} {ta : TA} {p pos : Pos} (hg : Gl X "zip") (hm : X.mg "zip" = none) (ha : PA X [a, b] ta) (hs : starEach [a, b] X.env = [(false, eval a X.env), (false, eval b X.env)] := by rfl) (hs2 : starEach [b] X.env = [(false, eval b X.env)] := by rfl) :
  PI X (.Tuple es kk tpos) (.Call (.Name "zip" p) [a, b] [] pos) (KC X.K ta) := by
 intro pins s σ H R I h
 refine Call_ (pL I hg hm boot_zip (PyProof.Rows.callWith_type1 (thA (ha pos pins s σ H _ I h) fun us s1 vs H1 I1 r1 q1 => ?_) (by rw [hs, hs2]) (by rw [hs2]; rfl)))
 replace q1 : zpK X.K vs H1 R := q1
 unfold zpK at q1
 split at q1
 ·rename_i l1 l2
  unfold zpq at q1
  cases r1 with
  | cons r rr =>
   cases rr with
   | cons r' rr =>
    cases rr
    cases r
    cases r'
    have apart : l1 < s1.heap.objs.size → l2 < s1.heap.objs.size → ZipApart (s1.heap.objs.size + 4) (s1.heap.objs.size + 2) (s1.heap.objs.size + 3) s1.heap.objs.size (s1.heap.objs.size + 1) l1 l2 := by
     generalize s1.heap.objs.size = n
     intro lt1 lt2
     have lt1' : @LT.lt Nat _ l1 n := lt1
     have lt2' : @LT.lt Nat _ l2 n := lt2
     constructor <;> (intro (z : @Eq Nat _ _); omega)
    have fp : ∀ b ∈ [s1.heap.objs.size + 4, s1.heap.objs.size + 2, s1.heap.objs.size + 3, s1.heap.objs.size, s1.heap.objs.size + 1], oR X pins H1 b := fun b hb => by
     have hle : s1.heap.objs.size ≤ b := by
      simp only [List.mem_cons, List.not_mem_nil, or_false] at hb
      rcases hb with rfl | rfl | rfl | rfl | rfl <;> simp
     exact I1.BK hle (I1.hok.fresh hle)
    split at q1
    ·rename_i xs ys e1 e2
     obtain ⟨its1, rv1, p1, hz1⟩ := I1.list (SqL.of e1)
     obtain ⟨its2, rv2, p2, hz2⟩ := I1.list (SqL.of e2)
     have lt1 : l1 < s1.heap.objs.size := by obtain ⟨_, e, _⟩ := p1.isList; exact Heap.lt_size e
     have lt2 : l2 < s1.heap.objs.size := by obtain ⟨_, e, _⟩ := p2.isList; exact Heap.lt_size e
     refine call_zip_2 p1.isList p2.isList fun h' b1 b2 b3 b4 b5 b6 hk => ?_
     refine wpAny_pyIter_zip (s := { s1 with heap := h' }) b1 ?_
     exact ⟨_, _, _, _, H1, rfl, I1.kept (t' := s1.toks) hk, GX (apart lt1 lt2), ⟨b1, b2, ⟨_, _, b3⟩, b4, b5⟩, fp, q1⟩
    ·rename_i xs ys e1 e2
     obtain ⟨its1, rv1, p1, hz1⟩ := I1.tuple (SqT.of e1)
     obtain ⟨its2, rv2, p2, hz2⟩ := I1.tuple (SqT.of e2)
     have lt1 : l1 < s1.heap.objs.size := by obtain ⟨_, e, _⟩ := p1; exact Heap.lt_size e
     have lt2 : l2 < s1.heap.objs.size := by obtain ⟨_, e, _⟩ := p2; exact Heap.lt_size e
     refine zq p1 p2 fun h' b1 b2 b3 b4 b5 b6 hk => ?_
     refine wpAny_pyIter_zip (s := { s1 with heap := h' }) b1 ?_
     exact ⟨_, _, _, _, H1, rfl, I1.kept (t' := s1.toks) hk, Ec (apart lt1 lt2), ⟨b1, b2, ⟨_, _, b3⟩, b4, b5⟩, fp, q1⟩
    ·exact q1.elim
 ·exact q1.elim
theorem Oo {es : List Expr} {kk : Nat} {tpos : Pos} {a b : Expr} {t : TA} {p pos : Pos} (hg : Gl X "zip") (hm : X.mg "zip" = none) (ha : QA X [a, b] t) (hs : starEach [a, b] X.env = [(false, eval a X.env), (false, eval b X.env)] := by rfl) (hs2 : starEach [b] X.env = [(false, eval b X.env)] := by rfl) : QI X (.Tuple es kk tpos) (.Call (.Name "zip" p) [a, b] [] pos) (KC X.K t) := ⟨O9 hg hm ha.h hs hs2⟩
end
def lJ (n : Nat) : Sp := fun vs H Q _ => ∃ x y ok d, vs = [x, y] ∧ bf ok H x d ∧ bf ok H y d ∧ d.depth < n ∧ ∀ H', Same H H' → Q (.bl true) H'
theorem vM {d : PyData} {ds : List PyData} (h : d ∈ ds) : d.depth < (PyData.list ds).depth ∧ d.depth < (PyData.tuple ds).depth := by
 have := oK h
 rw [PyData.depth.eq_1, PyData.depth.eq_2]
 omega
def rd8 := And.intro @Kz (And.intro @RQ (And.intro @RP @RN))
section
variable {K : PySem.W.Frag} {mp : List (Option Nat)} {g : TG} {tc : TT} {te : TE} {σ : St} {H : Hp} {Q : VK} {R : It → Hp → Prop}
theorem Rg {a b : Addr} {xs ys : List V} (hR : R = xW mp g tc te σ Q) (hz : xs.length ≤ sizeLine) (hl2 : xs.length = ys.length) (Pv : Nat → List V → St → Hp → Prop) (h0 : Pv 0 [] (jk mp σ) H) (hl : ∀ i acc τ H, Pv i acc τ H → acc.length ≤ i)
  (hq : ∀ i acc τ H, Pv i acc τ H → H a = some (.lst xs) ∧ H b = some (.lst ys))
  (hs : ∀ i x y acc τ H p, xs[i]? = some x → ys[i]? = some y → Pv i acc τ H → H p = none → g (.ref p) τ (upd H p (.tup [x, y])) fun τ1 H4 => tc τ1 H4 fun b H5 => if b = true then te τ1 H5 fun v H6 => Pv (i + 1) (acc ++ [v]) τ1 H6 else Pv (i + 1) acc τ1 H5)
  (hd : ∀ acc τ H d, Pv xs.length acc τ H → H d = none → Q (.ref d) (upd H d (.lst acc))) : R (Itz K a b) H := by
 refine lR hR xs.length hz Pv h0 hl (fun i acc τ H hi p => ?_) (fun acc τ H p => ?_) (fun i acc τ H x H3 hi p y => ?_) hd
 ·obtain ⟨e1, e2⟩ := hq i acc τ H p
  exact ⟨xs, ys, _, _, SqL.of e1, SqL.of e2, List.getElem?_eq_getElem hi, List.getElem?_eq_getElem (by omega)⟩
 ·obtain ⟨e1, e2⟩ := hq _ acc τ H p
  exact ⟨xs, ys, SqL.of e1, SqL.of e2, .inl (List.getElem?_eq_none (Nat.le_refl _))⟩
 ·obtain ⟨e1, e2⟩ := hq i acc τ H p
  obtain ⟨q, x1, y1, rfl, hq1, rfl, hx, hy⟩ := y
  exact hs i x1 y1 acc τ H q (hx _ (SqL.of e1)) (hy _ (SqL.of e2)) p hq1
theorem Rf {a b : Addr} {xs ys : List V} (hR : R = xW mp g tc te σ Q) (hz : xs.length ≤ sizeLine) (hl2 : xs.length = ys.length) (Pv : Nat → List V → St → Hp → Prop) (h0 : Pv 0 [] (jk mp σ) H) (hl : ∀ i acc τ H, Pv i acc τ H → acc.length ≤ i)
  (hq : ∀ i acc τ H, Pv i acc τ H → H a = some (.tup xs) ∧ H b = some (.tup ys))
  (hs : ∀ i x y acc τ H p, xs[i]? = some x → ys[i]? = some y → Pv i acc τ H → H p = none → g (.ref p) τ (upd H p (.tup [x, y])) fun τ1 H4 => tc τ1 H4 fun b H5 => if b = true then te τ1 H5 fun v H6 => Pv (i + 1) (acc ++ [v]) τ1 H6 else Pv (i + 1) acc τ1 H5)
  (hd : ∀ acc τ H d, Pv xs.length acc τ H → H d = none → Q (.ref d) (upd H d (.lst acc))) : R (Itu K a b) H := by
 refine lR hR xs.length hz Pv h0 hl (fun i acc τ H hi p => ?_) (fun acc τ H p => ?_) (fun i acc τ H x H3 hi p y => ?_) hd
 ·obtain ⟨e1, e2⟩ := hq i acc τ H p
  exact ⟨xs, ys, _, _, SqT.of e1, SqT.of e2, List.getElem?_eq_getElem hi, List.getElem?_eq_getElem (by omega)⟩
 ·obtain ⟨e1, e2⟩ := hq _ acc τ H p
  exact ⟨xs, ys, SqT.of e1, SqT.of e2, .inl (List.getElem?_eq_none (Nat.le_refl _))⟩
 ·obtain ⟨e1, e2⟩ := hq i acc τ H p
  obtain ⟨q, x1, y1, rfl, hq1, rfl, hx, hy⟩ := y
  exact hs i x1 y1 acc τ H q (hx _ (SqT.of e1)) (hy _ (SqT.of e2)) p hq1
end
inductive RowC where
 | one (n t : Int)
 | rng (a b t : Int)
 | low (n t : Int)
 | msk (lo wd bits t : Int)
 | tab (lo : Int) (gs : List Int)
 | pik (l : Int)
def rowCD : RowC → PyData
 | .one n t => .tuple [.str "is", .int n, .int t]
 | .rng a b t => .tuple [.str "within", .int a, .int b, .int t]
 | .low n t => .tuple [.str "below", .int n, .int t]
 | .msk lo wd bits t => .tuple [.str "mask", .int lo, .int wd, .int bits, .int t]
 | .tab lo gs => .tuple [.str "table", .int lo, .tuple (gs.map PyData.int)]
 | .pik l => .tuple [.str "pick", .int l]
def Vr (m o : Int) : RowC → Prop
 | .one _ t => btw o m t = true
 | .rng _ _ t => btw o m t = true
 | .low _ t => btw o m t = true
 | .msk _ wd bits t => btw o m t = true ∧ 1 ≤ wd ∧ wd ≤ 64 ∧ 0 ≤ bits
 | .tab _ gs => gs.all (btw o m) = true
 | .pik _ => True
def Wz : RowC → Addr → List V
 | .one n t, _ => [.str "is", .int n, .int t]
 | .rng a b t, _ => [.str "within", .int a, .int b, .int t]
 | .low n t, _ => [.str "below", .int n, .int t]
 | .msk lo wd bits t, _ => [.str "mask", .int lo, .int wd, .int bits, .int t]
 | .tab lo _, g => [.str "table", .int lo, .ref g]
 | .pik l, _ => [.str "pick", .int l]
def RowAt (H : Hp) (x : V) (c : RowC) : Prop := ∃ a g, x = .ref a ∧ H a = some (.tup (Wz c g)) ∧ ∀ lo gs, c = .tab lo gs → H g = some (.tup (gs.map V.int))
def scV : PyData → Option V
 | .int i => some (.int i)
 | .str z => some (.str z)
 | _ => none
theorem bf.sc {ok : Addr → Prop} {H : Hp} {x v : V} {d : PyData} (t : bf ok H x d) (h : scV d = some v) : x = v := by
 cases t with
 | int i => exact Option.some.inj h
 | str z => exact Option.some.inj h
 | _ => cases h
theorem aR.sc {ok : Addr → Prop} {H : Hp} : ∀ {xs vs : List V} {ds : List PyData}, aR ok H xs ds → ds.map scV = vs.map some → xs = vs
 | _, [], _, .nil, _ => rfl
 | _, v :: vs, _, .nil, h => by cases h
 | _, [], _, .cons _ _, h => by cases h
 | _, v :: vs, _, .cons t ts, h => by
  rw [List.map_cons, List.map_cons] at h
  injection h with h1 h2
  rw [t.sc h1, ts.sc h2]
theorem aR.uncons {ok : Addr → Prop} {H : Hp} {xs : List V} {d : PyData} {ds : List PyData} (t : aR ok H xs (d :: ds)) : ∃ x r, xs = x :: r ∧ bf ok H x d ∧ aR ok H r ds := by
 cases t with
 | cons h r => exact ⟨_, _, rfl, h, r⟩
theorem bf.tupOf {ok : Addr → Prop} {H : Hp} {x : V} {ds : List PyData} (t : bf ok H x (.tuple ds)) : ∃ p xs, x = .ref p ∧ H p = some (.tup xs) ∧ aR ok H xs ds := by
 cases t with
 | tup o e z ts => exact ⟨_, _, rfl, e, ts⟩
theorem tY (is : List Int) : PyData.depthAll (is.map PyData.int) = 0 := by
 induction is with
 | nil => rfl
 | cons i is ih => rw [List.map_cons, PyData.depthAll.eq_2, ih]; rfl
section
variable {X : Cx} {e o : Expr} {te to : TE} {pos : Pos}
def ppq (ob : Option HO) (l : Addr) (H : Hp) (Q : VK) : Prop := match ob with
 | some (.lst xs) => ∃ y, xs[xs.length - 1]? = some y ∧ Q y (upd H l (.lst xs.dropLast))
 | _ => False
def ppK (x : V) (H : Hp) (Q : VK) : Prop := match x with
 | .ref l => ppq (H l) l H Q
 | _ => False
def Vx (to : TE) : TE := fun σ H Q => to σ H fun x H1 => ppK x H1 Q
theorem Hr (to : TE) (σ : St) (H : Hp) (Q : VK) : Vx to σ H Q = to σ H fun x H1 => ppK x H1 Q := rfl
theorem O6 (l : Addr) (H : Hp) (Q : VK) : ppK (.ref l) H Q = ppq (H l) l H Q := rfl
theorem O5 (xs : List V) (l : Addr) (H : Hp) (Q : VK) : ppq (some (.lst xs)) l H Q = ∃ y, xs[xs.length - 1]? = some y ∧ Q y (upd H l (.lst xs.dropLast)) := rfl
def Sv (ta : TA) : TE := fun σ H Q => ta σ H fun vs H1 => ∃ j : Int, vs = [.int j] ∧ (-(2 ^ 62) ≤ j ∧ j < 2 ^ 62) ∧ (j - 0).toNat ≤ sizeLine ∧ ∀ p, H1 p = none → Q (.ref p) (upd H1 p (.lst (VD 0 (j - 0).toNat)))
end
def rd9 := And.intro @Hr (And.intro @O6 (And.intro @O5 (And.intro @Sv.eq_1 (And.intro @Wy.eq_1 @ipI.eq_1))))
inductive Pl where
 | pick (l : Int)
 | one (k : Nat) (r : Pl)
 | wit (k : Nat) (r : Pl)
 | low (k : Nat) (a b : Pl)
 | msk (l : Int) (r : Pl)
 | tab
def wQ : Pl → Nat
 | .pick _ => 1
 | .one _ r => wQ r + 1
 | .wit _ r => wQ r + 1
 | .low _ a b => wQ a + wQ b + 1
 | .msk _ r => wQ r + 1
 | .tab => 1
abbrev Sts := List (Int × Int × Int)
def v9 (ss : Sts) (k : Nat) : Int × Int × Int := ss.getD k (0, 0, 0)
structure Lf (ss : Sts) (left : List Nat) : Prop where
 ne : left ≠ []
 lt : ∀ k ∈ left, k < ss.length
 up : left.Pairwise (· < ·)
def kids (ss : Sts) : Pl → List Nat → List (List Nat × Pl)
 | .pick _, _ => []
 | .tab, _ => []
 | .one k r, left => [(left.filter (· ≠ k), r)]
 | .wit k r, left => [(left.filter (· ≠ k), r)]
 | .low k a b, left => [(left.filter (· < k), a), (left.filter (k ≤ ·), b)]
 | .msk l r, left => [(left.filter fun k => (v9 ss k).2.2 ≠ l, r)]
def zJ (ss : Sts) : Pl → List Nat → Prop
 | .pick _, left => Lf ss left
 | .tab, left => Lf ss left
 | .one k r, left => Lf ss left ∧ zJ ss r (left.filter (· ≠ k))
 | .wit k r, left => Lf ss left ∧ zJ ss r (left.filter (· ≠ k))
 | .low k a b, left => Lf ss left ∧ zJ ss a (left.filter (· < k)) ∧ zJ ss b (left.filter (k ≤ ·))
 | .msk l r, left => Lf ss left ∧ zJ ss r (left.filter fun k => (v9 ss k).2.2 ≠ l)
theorem zJ.kids {ss : Sts} {p : Pl} {left : List Nat} (h : zJ ss p left) : ∀ x ∈ kids ss p left, zJ ss x.2 x.1 := by
 intro x hx
 cases p with
 | pick l => cases hx
 | tab => cases hx
 | one k r => rw [List.mem_singleton.mp hx]; exact h.2
 | wit k r => rw [List.mem_singleton.mp hx]; exact h.2
 | low k a b =>
  rcases List.mem_cons.mp hx with rfl | hx
  ·exact h.2.1
  ·rw [List.mem_singleton.mp hx]; exact h.2.2
 | msk l r => rw [List.mem_singleton.mp hx]; exact h.2
def Rx (ss : Sts) (left : List Nat) : Int := (v9 ss (left.getLast?.getD 0)).2.1 - (v9 ss (left.head?.getD 0)).1 + 1
theorem oM (xs : List V) (n : Nat) (h : n ≤ xs.length) : jy xs (some (n : Int)) none = xs.drop n := by
 unfold jy
 have e1 : HT.sIx xs.length 0 (some (n : Int)) = n := by
  simp only [HT.sIx]
  split
  ·omega
  ·omega
 have e2 : HT.sIx xs.length xs.length none = xs.length := by simp [HT.sIx]
 rw [e1, e2]
 exact List.take_of_length_le (by rw [List.length_drop]; exact Nat.le_refl _)
section
variable {X : Cx} {e o : Expr} {te to : TE} {pos : Pos}
end
def Wlk (h : Heap) (i l : Addr) (k : Nat) (xs : Array Value) : Prop := (h.IsTupleIter i l k ∧ h.IsTuple l xs) ∨ (h.IsListIter i l k ∧ h.IsList l xs)
@[reducible] def IsZip2 (h : Heap) (z TI TO a : Addr) (b : Bool) : Prop := h.get? z = some { cls := Value.type "zip", data := Data.fields #[rawInt a, Value.bool b, Value.bool false, Value.ref TI, Value.ref TO] }
section
variable {X : Cx}
end
section
variable {X : Cx} {o i e value : Expr} {pos pos' tpos : Pos} {td ty tv : TE}
end
section
variable {prog : Program} {w : World} {A : Around} {R : Result → Shared → Prop} {s : Shared}
end
section
variable {X : Cx} {NX N : List Str} {kX : List (Str × NameKind)} {mp : List (Option Nat)} {scope : Scope}
end
section
variable {X : Cx}
end
theorem wU {M : Model} {A : Around} {E : Value → Shared → Prop} {s : Shared} {base : Heap} {env : Env} {outer : List Env} {L e : Addr} {oe : Obj} {vs : Array Value} {head : Value} {b0 : Bool} {Q : Unit → Shared → Prop} (hfr : A.frames = some (env :: outer)) (hl : s.heap.FunFrames base (env :: outer)) (hf : env.frame = some L)
  (he : s.heap.get? e = some oe) (hd : oe.data = Data.fields vs) (h1s : 1 < vs.size) (hen : e ∉ List.filterMap (fun x => x.frame) (env :: outer))
  (hQ : ∀ (h' : Heap) (T : Addr) (ts : Array Value), h'.get? e = some { cls := oe.cls, dict := oe.dict, data := Data.fields (vs.setIfInBounds 1 (Value.ref T)), slots := oe.slots } → h'.get? T = some { cls := Value.type "traceback", data := Data.fields ts } → ts[3]? = some (rawInt L) → T ≠ e → s.heap.objs.size ≤ T →
   (∀ b o, b ≠ e → b ∉ List.filterMap (fun x => x.frame) (env :: outer) → s.heap.get? b = some o → h'.get? b = some o) → (∀ b o, b ∈ List.filterMap (fun x => x.frame) (env :: outer) → s.heap.get? b = some o → ∃ sl, h'.get? b = some { cls := o.cls, dict := o.dict, data := o.data, slots := sl }) → Q () { s with heap := h' }) :
  wpAny M A (do
   let a ← PySem.frameOf env
   let pl ← entryPlaceOf L b0
   let b ← EntryCells.newEntry head a Value.none (rawInt ↑L) Value.none pl
   setField (Value.ref e) 1 b) Q E s := by
 refine wpAny_bind (wpAny_frameOf_fun hfr hl hf fun h₁ so => ?_)
 refine wpAny_bind (wpAny_entryPlaceOf fun pl hpl => ?_)
 have he1 : h₁.get? e = some oe := (so.2.1 e hen).trans he
 refine wpAny_bind ?_
 unfold EntryCells.newEntry newFields
 refine wpAny_newObj_type ?_ ?_
 ·have he2 := Heap.get?_push_of_some (h := h₁) { cls := Value.type "traceback", data := Data.fields ([head, Value.ref L, Value.none, rawInt ↑L, Value.none] ++ if pl.isEmpty = true then List.replicate 6 Value.none else pl).toArray } he1
  refine wpAny_setField (s := { s with heap := h₁.push { cls := Value.type "traceback", data := Data.fields ([head, Value.ref L, Value.none, rawInt ↑L, Value.none] ++ if pl.isEmpty = true then List.replicate 6 Value.none else pl).toArray } }) he2 hd h1s ?_
  have hne : h₁.objs.size ≠ e := fun z => by
   have := Heap.lt_size he1
   rw [z] at this
   exact Nat.lt_irrefl _ this
  refine hQ _ h₁.objs.size ([head, Value.ref L, Value.none, rawInt ↑L, Value.none] ++ if pl.isEmpty = true then List.replicate 6 Value.none else pl).toArray ?_ ?_ (by simp) hne (by rw [so.1]; exact Nat.le_refl _) (fun b o hb hbf g => ?_) (fun b o hbf g => ?_)
  ·have := Heap.get?_update_self (f := Obj.mapFields fun x => x.setIfInBounds 1 (Value.ref h₁.objs.size)) he2 ?_
   ·rw [this]
    obtain ⟨c, d, dt, sl⟩ := oe
    cases hd
    rfl
   ·obtain ⟨c, d, dt, sl⟩ := oe
    cases hd
    rfl
  ·refine (Heap.get?_update_other _ _ hne.symm).trans ?_
   exact Heap.get?_push_size _ rfl
  ·refine (Heap.get?_update_other _ _ (Ne.symm hb)).trans (Heap.get?_push_of_some _ ((so.2.1 b hbf).trans g))
  ·obtain ⟨sl, q⟩ := so.2.2 b o g
   refine ⟨sl, (Heap.get?_update_other _ _ fun z => hen (by rw [z]; exact hbf)).trans (Heap.get?_push_of_some _ q)⟩
 ·have hp := hpl
  unfold IsPlace at hp
  show ([head, Value.ref L, Value.none, rawInt ↑L, Value.none] ++ if pl.isEmpty = true then List.replicate 6 Value.none else pl).toArray.size ≤ sizeLine + 2
  rw [List.size_toArray, List.length_append]
  split
  ·rw [List.length_replicate]; show 5 + 6 ≤ _; decide
  ·rcases hp with rfl | ⟨_, _, _, _, _, _, _, rfl⟩
   ·show 5 + 0 ≤ _; decide
   ·show 5 + 6 ≤ _; decide
theorem Qs {prog : Program} {w : World} {A : Around} {E : Value → Shared → Prop} {s : Shared} {base : Heap} {env : Env} {outer : List Env} {L e : Addr} {oe : Obj} {vs : Array Value} {Q : Unit → Shared → Prop} (hfr : A.frames = some (env :: outer)) (hl : s.heap.FunFrames base (env :: outer)) (hf : env.frame = some L)
  (he : s.heap.get? e = some oe) (hd : oe.data = Data.fields vs) (h1s : 1 < vs.size) (hen : e ∉ List.filterMap (fun x => x.frame) (env :: outer))
  (ht : vs[1]? = some Value.none ∨ ∃ T ts, vs[1]? = some (Value.ref T) ∧ T ≠ e ∧ s.heap.get? T = some { cls := Value.type "traceback", data := Data.fields ts } ∧ ts[3]? = some Value.none)
  (hQ : ∀ (h' : Heap) (T : Addr) (ts : Array Value), h'.get? e = some { cls := oe.cls, dict := oe.dict, data := Data.fields (vs.setIfInBounds 1 (Value.ref T)), slots := oe.slots } → h'.get? T = some { cls := Value.type "traceback", data := Data.fields ts } → ts[3]? = some Value.none → T ≠ e → s.heap.objs.size ≤ T →
   (∀ b o, b ≠ e → b ∉ List.filterMap (fun x => x.frame) (env :: outer) → vs[1]? ≠ some (Value.ref b) → s.heap.get? b = some o → h'.get? b = some o) → (∀ b o, b ∈ List.filterMap (fun x => x.frame) (env :: outer) → s.heap.get? b = some o → ∃ sl, h'.get? b = some { cls := o.cls, dict := o.dict, data := o.data, slots := sl }) → Q () { s with heap := h' }) :
  wpAny (model prog w) A (leaving env (Value.ref e)) Q E s := by
 unfold leaving
 have fin : ∀ (h₂ : Heap) (T : Addr) (ts : Array Value), h₂.get? e = some { cls := oe.cls, dict := oe.dict, data := Data.fields (vs.setIfInBounds 1 (Value.ref T)), slots := oe.slots } → h₂.get? T = some { cls := Value.type "traceback", data := Data.fields ts } → ts[3]? = some (rawInt L) → T ≠ e → s.heap.objs.size ≤ T → T ∉ List.filterMap (fun x => x.frame) (env :: outer) →
   (∀ b o, b ≠ e → b ∉ List.filterMap (fun x => x.frame) (env :: outer) → vs[1]? ≠ some (Value.ref b) → s.heap.get? b = some o → h₂.get? b = some o) → (∀ b o, b ∈ List.filterMap (fun x => x.frame) (env :: outer) → s.heap.get? b = some o → ∃ sl, h₂.get? b = some { cls := o.cls, dict := o.dict, data := o.data, slots := sl }) →
   wpAny (model prog w) A (setFlight (Value.ref e) none) Q E { s with heap := h₂ } := fun h₂ T ts g1 g2 g3 g4 g5 g6 g7 g8 => by
  unfold setFlight
  have v1 : (vs.setIfInBounds 1 (Value.ref T))[1]? = some (Value.ref T) := by
   rw [Array.getElem?_setIfInBounds_self_of_lt h1s]
  refine wpAny_bind (wpAny_field g1 rfl v1 (wpAny_ite_true rfl ?_))
  refine wpAny_setField_rec (s := { s with heap := h₂ }) g2 (Array.getElem?_eq_some_iff.mp g3).1 fun h₃ q1 q2 => ?_
  refine hQ h₃ T _ ((q2.2 e (Ne.symm g4)).trans g1) q1 ?_ g4 g5 (fun b o c1 c2 c3 g => ?_) (fun b o c1 g => ?_)
  ·rw [Array.getElem?_setIfInBounds_self_of_lt (Array.getElem?_eq_some_iff.mp g3).1]
   rfl
  ·have hb : b ≠ T := fun z => by
    have := Heap.lt_size g
    rw [z] at this
    exact absurd this (Nat.not_lt.mpr g5)
   exact (q2.2 b hb).trans (g7 b o c1 c2 c3 g)
  ·obtain ⟨sl, q⟩ := g8 b o c1 g
   exact ⟨sl, (q2.2 b fun z => g6 (by rw [← z]; exact c1)).trans q⟩
 refine wpAny_bind ?_
 unfold noteFrame
 rw [hf]
 have fresh : ∀ {T : Addr}, s.heap.objs.size ≤ T → T ∉ List.filterMap (fun x => x.frame) (env :: outer) := fun {T} hT hm => by
  obtain ⟨_, o, g, _⟩ := hl.mem hm
  exact absurd (Heap.lt_size g) (Nat.not_lt.mpr hT)
 rcases ht with ht | ⟨T0, ts0, ht, hTe, hT0, h30⟩
 ·refine wpAny_bind (wpAny_field he hd ht (wpAny_ite_false rfl ?_))
  exact wU hfr hl hf he hd h1s hen fun h₂ T ts g1 g2 g3 g4 g5 g6 g7 => fin h₂ T ts g1 g2 g3 g4 g5 (fresh g5) (fun b o c1 c2 _ g => g6 b o c1 c2 g) g7
 ·refine wpAny_bind (wpAny_field he hd ht (wpAny_ite_true rfl ?_))
  refine wpAny_bind (wpAny_field hT0 rfl h30 (wpAny_ite_false rfl ?_))
  refine wpAny_bind (wpAny_setField_rec hT0 (Array.getElem?_eq_some_iff.mp h30).1 fun h₁ q1 q2 => ?_)
  have hT0f : T0 ∉ List.filterMap (fun x => x.frame) (env :: outer) := fun hm => by
   obtain ⟨_, o, g, nf⟩ := hl.mem hm
   rw [hT0] at g
   cases g
   exact nf _ rfl
  have hl1 : h₁.FunFrames base (env :: outer) := hl.of_keeps fun b o g nf => ⟨o, (q2.2 b fun z => by rw [z, hT0] at g; cases g; exact nf _ rfl).trans g, rfl⟩
  refine wU (s := { s with heap := h₁ }) hfr hl1 hf ((q2.2 e (Ne.symm hTe)).trans he) hd h1s hen fun h₂ T ts g1 g2 g3 g4 g5 g6 g7 => ?_
  have g5' : s.heap.objs.size ≤ T := by rw [← q2.1]; exact g5
  refine fin h₂ T ts g1 g2 g3 g4 g5' (fresh g5') (fun b o c1 c2 c3 g => g6 b o c1 c2 ((q2.2 b fun z => c3 (by rw [z]; exact ht)).trans g)) fun b o c1 g => ?_
  exact g7 b o c1 ((q2.2 b fun z => hT0f (by rw [← z]; exact c1)).trans g)
theorem KN {h : Heap} {a : Addr} (hl : h.objs.size ≤ a) : h.get? a = none := by
 cases e : h.get? a with
 | none => rfl
 | some o => exact absurd (Heap.lt_size e) (Nat.not_lt.mpr hl)
theorem zK {prog : Program} {w : World} {A : Around} {E : Value → Shared → Prop} {h : Heap} {g : Array GenState} {d : Drawn} {t : Nat} {os : OsState} {nm q : Str} {C N : Addr} {bs bm bmB bmN : List Value} {hdct : Bool} {sn : List Str} {sub : List Value} {ab : Bool} {col : Option Bool} {dd : Option Addr} {k0 k1 k2 k3 k5 : Option Value} {B Bn newId nid initId inN : String}
  (Fn : ExcBaseFacts Bn newId inN bmN) (hBn : bmB.contains (Value.type Bn) = true) (F : ExcBaseFacts B nid initId bmB) (T : OwnTail h bmB bm) {mN : Str → Option Value} {rest : List Value} {fI : Addr} {oI : Obj} {Q : PySem.Fin → Shared → Prop}
  (hC : h.get? C = some (excClassObj nm q C N bs bm hdct sn sub ab col dd k0 k1 k2 k3 k5 newId)) (hn : h.Ns N mN) (hi : mN (Str.ofString "__init__") = some (Value.ref fI)) (hfI : h.get? fI = some oI) (hfc : oI.cls = Value.type "function")
  (hq : ∀ (h' : Heap) (e : Addr), h.objs.size ≤ e → h.MadeExcOf h' e (Value.ref C) rest → wpAny (model prog w) A (call (Value.ref fI) (Value.ref e :: rest)) (fun r s' => r = Value.none ∧ Q (Fin.done (Flow.ret (Value.ref e))) s') E { heap := h', gens := g, drawn := d, toks := t, os := os }) (hrest : rest.length ≤ sizeLine) :
  wpAny (model prog w) A (Builtin.«type.__call__» { pos := Value.ref C :: rest }) Q E { heap := h, gens := g, drawn := d, toks := t, os := os } := by
 unfold Builtin.«type.__call__»
 refine wpAny_ite_false rfl ?_
 refine wpAny_bind ?_
 unfold mroOf
 refine wpAny_bind (wpAny_bind (wpAny_load' hC (wpAny_pure (wpAny_pure ?_))))
 refine wpAny_ite_false rfl ?_
 refine wpAny_bind (wpAny_madeBy_exc hC ?_)
 refine wpAny_bind (wpAny_pure ?_)
 refine wpAny_bind (wpAny_holding (wpAny_call (codeAny_call_builtin_code (Code.quiet_builtin { pos := Value.ref C :: rest } Fn.quiet) (wpAny_check_new_subU Fn hBn T hC (codeAny_exc_new_subU Fn hBn F T hC ?_ hrest)))))
 generalize hh2 : (h.push { cls := Value.type "tuple", data := Data.seq rest.toArray }).push { cls := Value.ref C, data := Data.fields #[Value.ref h.objs.size, Value.none, Value.none, Value.none, Value.bool false, Value.none] } = h2
 have kp : ∀ b o, h.get? b = some o → h2.get? b = some o := fun b o e => by
  rw [← hh2]
  exact Heap.get?_push_of_some _ (Heap.get?_push_of_some _ e)
 have z1 : (h.push { cls := Value.type "tuple", data := Data.seq rest.toArray }).objs.size = h.objs.size + 1 := Heap.size_push ..
 have hget : h2.get? (h.objs.size + 1) = some { cls := Value.ref C, data := Data.fields #[Value.ref h.objs.size, Value.none, Value.none, Value.none, Value.bool false, Value.none] } := by
  rw [← hh2, ← z1]
  exact Heap.get?_push_size _ rfl
 have htup : h2.get? h.objs.size = some { cls := Value.type "tuple", data := Data.seq rest.toArray } := by
  rw [← hh2]
  exact Heap.get?_push_of_some _ (Heap.get?_push_size _ rfl)
 have made : h.MadeExcOf h2 (h.objs.size + 1) (Value.ref C) rest := ⟨kp, KN (Nat.le_succ _), h.objs.size, hget, KN (Nat.le_refl _), htup⟩
 have hC1 := kp _ _ hC
 have hn1 : h2.Ns N mN := by
  obtain ⟨o, es, ep, e, r⟩ := hn
  exact ⟨o, es, ep, kp _ _ e, r⟩
 show wpAny _ _ (isInstance (Value.ref (h.objs.size + 1)) (Value.ref C) >>= _) _ _ _
 refine wpAny_bind ?_
 unfold isInstance typeOf
 refine wpAny_bind (wpAny_bind (wpAny_loadPart_at hget (wpAny_pure ?_)))
 refine wpAny_isSubtype_exc hC1 ?_
 rw [show (Value.ref C :: bm).contains (Value.ref C) = true by simp]
 refine wpAny_ite_false rfl ?_
 refine wpAny_bind (wpAny_holding ?_)
 unfold callSpecial? specialOf typeOf
 refine wpAny_bind (wpAny_bind (wpAny_bind (wpAny_loadPart_at hget (wpAny_pure ?_))))
 refine wpAny_typeLookup_tail hC1 hn1 (T.keeps kp) F.mroIs F.init.lookup ?_
 rw [hi]
 refine wpAny_holding ?_
 refine wpAny_bind ?_
 unfold bindSpecial
 refine wpAny_bind (wpAny_typeOf (T := "function") ⟨oI, kp _ _ hfI, hfc⟩ (wpAny_ite_true rfl (wpAny_pure ?_)))
 refine wpAny_bind (wpAny_mono (hq h2 _ (Nat.le_succ _) made) (fun r s' ⟨e1, e2⟩ => ?_) fun _ _ z => z)
 subst e1
 refine wpAny_pure ?_
 exact wpAny_ite_false rfl (wpAny_pure e2)
theorem Gx {prog : Program} {w : World} {A : Around} {E : Value → Shared → Prop} {h : Heap} {g : Array GenState} {d : Drawn} {t : Nat} {os : OsState} {nm q : Str} {C N : Addr} {bs bm bmB bmN : List Value} {hdct : Bool} {sn : List Str} {sub : List Value} {ab : Bool} {col : Option Bool} {dd : Option Addr} {k0 k1 k2 k3 k5 : Option Value} {B Bn newId nid initId inN : String}
  (Fn : ExcBaseFacts Bn newId inN bmN) (hBn : bmB.contains (Value.type Bn) = true) (F : ExcBaseFacts B nid initId bmB) (T : OwnTail h bmB bm) {mN : Str → Option Value} {rest : List Value} {fI : Addr} {oI : Obj} {Q : Value → Shared → Prop}
  (hC : h.get? C = some (excClassObj nm q C N bs bm hdct sn sub ab col dd k0 k1 k2 k3 k5 newId)) (hn : h.Ns N mN) (hi : mN (Str.ofString "__init__") = some (Value.ref fI)) (hfI : h.get? fI = some oI) (hfc : oI.cls = Value.type "function")
  (hq : ∀ (h' : Heap) (e : Addr), h.objs.size ≤ e → h.MadeExcOf h' e (Value.ref C) rest → wpAny (model prog w) (A.under (Code.builtin "type.__call__" { pos := Value.ref C :: rest })) (call (Value.ref fI) (Value.ref e :: rest)) (fun r s' => r = Value.none ∧ Q (Value.ref e) s') E { heap := h', gens := g, drawn := d, toks := t, os := os }) (hrest : rest.length ≤ sizeLine) :
  wpAny (model prog w) A (call (Value.ref C) rest) Q E { heap := h, gens := g, drawn := d, toks := t, os := os } := by
 have hT : (⟨h, g, d, t, os⟩ : Shared).TypeIs (Value.ref C) "type" := ⟨_, hC, rfl⟩
 refine wpAny_call (codeAny_of_tree ?_)
 show wpAny _ _ (load C >>= _) _ _ _
 refine wpAny_bind (wpAny_load' hC ?_)
 show wpAny _ _ (callAny.viaDunder (Value.ref C) { pos := rest }) _ _ _
 unfold callAny.viaDunder
 refine wpAny_bind (wpAny_specialOf hT tc_lookup ?_)
 refine wpAny_bind (wpAny_of_eq (tc_bind (Value.ref C)) ?_)
 refine wpAny_bind ?_
 show wpAny _ _ (pure true) _ _ _
 refine wpAny_pure (wpAny_ite_true rfl (wpAny_pure ⟨rfl, ?_⟩))
 refine codeAny_call_builtin_at (Code.quiet_builtin _ (by decide +kernel)) entry_typeCall (wpAny_check_type_call_sub hC ?_)
 exact zK Fn hBn F T hC hn hi hfI hfc (fun h' e hs hm => hq h' e hs hm) hrest
structure Lies (s s' : Shared) (H' : Hp) (x : Addr) (ox : Obj) (vs : Array Value) : Prop where
 at_ : s'.heap.get? x = some ox
 dat : ox.data = Data.fields vs
 siz : 1 < vs.size
 new : s.heap.objs.size ≤ x
 fre : H' x = none
 tb : vs[1]? = some Value.none ∨ ∃ T ts, vs[1]? = some (Value.ref T) ∧ T ≠ x ∧ s'.heap.get? T = some { cls := Value.type "traceback", data := Data.fields ts } ∧ ts[3]? = some Value.none ∧ s.heap.objs.size ≤ T ∧ H' T = none
def CX1 (P : Program) (w : World) : CXT := fun outer H s E e s' => ∃ (x : Addr) (ox : Obj) (vs : Array Value) (H' : Hp), e = Value.ref x ∧ Lies s s' H' x ox vs ∧
 s'.os = s.os ∧ AllBare s'.gens ∧ Un (frs outer) [] H H' s.heap s'.heap ∧ HOk P w H' s'.heap ∧ E ox.cls ox.dict H'
theorem own1 {P : Program} {w : World} {K : PySem.W.Frag} {mg : Str → Option Value} {base : Heap} {N : List Str} {qual : Str} {scope : Scope} {f : Addr} {cd : Value} {A : Around} {outer : List Env} {s : Shared} {H : Hp} {E : XK} {CX : CXT} :
  PassesOwn (model P w) (A.deeper (envOfC qual scope s.heap.objs.size f cd)) (envOfC qual scope s.heap.objs.size f cd) (uM CX P w K mg base N qual scope f cd A outer s H E).xe := by
 show PassesOwn _ _ _ (fun e s' => wpAny (model P w) (A.deeper (envOfC qual scope s.heap.objs.size f cd)) (leaving (envOfC qual scope s.heap.objs.size f cd) e) (fun _ s'' => CX outer H s E e s'') (fun e' s'' => CX outer H s E e' s'') s')
 exact PassesOwn.leaving
section
variable {M : Model} {A : Around} {E : Value → Shared → Prop} {env : Env}
variable {nm q : Str} {C N : Addr} {bs bm : List Value} {hdct : Bool} {sn : List Str} {sub : List Value} {ab : Bool} {col : Option Bool} {dd : Option Addr} {k0 k1 k2 k3 k5 : Option Value} {newId : String}
theorem Nk {s : Shared} {x : Sem Value} {Q : Flow → Shared → Prop} (hbase : bm.contains (Value.type "BaseException") = true) (hh : A.handled = none)
  (h : wpAny M A x (fun v s₁ => ∃ e t dx, v = Value.ref e ∧ s₁.heap.get? C = some (excClassObj nm q C N bs bm hdct sn sub ab col dd k0 k1 k2 k3 k5 newId) ∧
   s₁.heap.get? e = some { cls := Value.ref C, dict := dx, data := Data.fields #[Value.ref t, Value.none, Value.none, Value.none, Value.bool false, Value.none] } ∧ E (Value.ref e) s₁) E s) :
  wpAny M A (raiseStmt env (some x) none) Q E s := by
 have hcB : (Value.ref C :: bm).contains (Value.type "BaseException") = true := by rw [List.contains_cons, hbase, Bool.or_true]
 unfold raiseStmt
 refine wpAny_bind (wpAny_mono h (fun v s₁ h₁ => ?_) fun _ _ x => x)
 obtain ⟨e, t, dx, rfl, hC, he, hE⟩ := h₁
 obtain ⟨hp, g, d, tk, os⟩ := s₁
 repeat (first | with_reducible refine wpAny_loadPart_at he ?_ | with_reducible refine wpAny_loadPart_at hC ?_ | (with_reducible refine wpAny_isSubtype_exc hC ?_; rw [hcB]) | wp_step)
 exact wpAny_raiseNew_none hh hE
end
section
variable {prog : Program} {w : World} {A : Around} {E : Value → Shared → Prop}
variable {nm q : Str} {C N : Addr} {bs bm bmB : List Value} {hdct : Bool} {sn : List Str} {sub : List Value} {ab : Bool} {col : Option Bool} {dd : Option Addr} {k0 k1 k2 k3 k5 : Option Value} {nwId B newId initId : String}
theorem Vb {hp : Heap} {g : Array GenState} {d : Drawn} {tk : Nat} {os : OsState} {e t : Addr} {dx : Option Addr} {rest : List Value} {Q : Value → Shared → Prop} (F : ExcBaseFacts B newId initId bmB) (hB : bm.contains (Value.type B) = true)
  (hC : hp.get? C = some (excClassObj nm q C N bs bm hdct sn sub ab col dd k0 k1 k2 k3 k5 nwId))
  (he : hp.get? e = some { cls := Value.ref C, dict := dx, data := Data.fields #[Value.ref t, Value.none, Value.none, Value.none, Value.bool false, Value.none] })
  (hq : ∀ h' : Heap, (∀ b o, b ≠ e → hp.get? b = some o → h'.get? b = some o) → h'.get? e = some { cls := Value.ref C, dict := dx, data := Data.fields #[Value.ref hp.objs.size, Value.none, Value.none, Value.none, Value.bool false, Value.none] } → Q Value.none ⟨h', g, d, tk, os⟩)
  (hrest : rest.length ≤ sizeLine) : wpAny (model prog w) A (call (Value.builtin initId) (Value.ref e :: rest)) Q E ⟨hp, g, d, tk, os⟩ := by
 have hcB : (Value.ref C :: bm).contains (Value.type B) = true := by rw [List.contains_cons, hB, Bool.or_true]
 refine wpAny_call (codeAny_call_builtin F.init.plain F.initEntry ?_)
 have hshort := F.noStar
 simp only [checkBuiltinCall, F.initKind, F.initSplit, F.initRow]
 unfold isInstance
 repeat (first | with_reducible refine wpAny_loadPart_at he ?_ | (with_reducible refine wpAny_isSubtype_exc hC ?_; rw [hcB]) | wp_step)
 refine wpAny_onRaise ?_
 rw [show ∀ (a b : String) (n : Nat), Bind.check ⟨.positional, "*", B, .self, [⟨"args", .varPos, false⟩]⟩ a b n (List.map (fun x => x.fst) ({ pos := Value.ref e :: rest } : Args).kw) = pure () from
  fun a b n => check_star_args _ _ _ _ _ _]
 refine wpAny_pure ?_
 have he2 := Heap.get?_push_of_some (h := hp) { cls := Value.type "tuple", data := Data.seq rest.toArray } he
 wp_walk
 refine hq _ (fun b o hb g => (Heap.get?_update_other _ _ (Ne.symm hb)).trans (Heap.get?_push_of_some _ g)) ?_
 rw [Heap.get?_update_self _ he2 rfl]
 rfl
end
open PySem.W (Frag clsIn findIn takerIn InstAt looks_clsIn looks_findIn looks_takesIn Looks check_slot looks_mroIn mroIn set_plain osa_eq)
open Builtin Builtin.ObjectAttr
def vbm : List Value := [.type "ValueError", .type "Exception", .type "BaseException", .type "object"]
theorem Uj (self : Value) (C D : Addr) : refuseLoop self "__setattr__" (.ref C :: .ref D :: vbm) = pure () := by
 rw [refuseLoop_ref, refuseLoop_ref]
 exact PySem.F.store_ValueError.passes self
section
variable {prog : Program} {w : World} {A : Around} {E : Value → Shared → Prop} {K : Frag} {h : Heap} {g : Array GenState} {d : Drawn} {t : Nat} {os : OsState} {x C D : Addr} {cd : ClassData} {name : Str} {v : Value} {o : Obj} {vs : Array Value}
theorem VB {Q : Unit → Shared → Prop} (X : K.In h) (hc : clsIn K C = some cd) (hmro : cd.mro = .ref C :: .ref D :: vbm) (hhd : cd.hasDict = true) (hset : findIn K (.ref C) "__setattr__" = some (some (.builtin "object.__setattr__"))) (hno : findIn K (.ref C) name = some none)
  (hx : h.get? x = some o) (hcl : o.cls = .ref C) (hdn : o.dict = none) (hda : o.data = .fields vs)
  (hq : ∀ (h' : Heap) (tk' : Nat), h'.get? x = some { cls := o.cls, dict := some h.objs.size, data := o.data, slots := o.slots } → h'.Ns1 h.objs.size (fun y => if y = name then some v else none) →
   (∀ b ob, b ≠ x → h.get? b = some ob → h'.get? b = some ob) → Q () ⟨h', g, d, tk', os⟩) :
  wpAny (model prog w) A (setAttr (.ref x) name v) Q E ⟨h, g, d, t, os⟩ := by
 have I : ∀ tk : Nat, InstAt (⟨h, g, d, tk, os⟩ : Shared).heap x o C none := fun _ => ⟨hx, hcl, by obtain ⟨_, _, dt, _⟩ := o; cases hda; rfl, by rw [hdn]; trivial⟩
 refine set_plain X (I t) hset ?_
 have SF := PySem.F.store_object
 have ne : cd.mro.isEmpty = false := by rw [hmro]; rfl
 have sub : Looks (model prog w) h (isInstance (.ref x) (.type "object")) true := (I t).type.andThen (looks_mroIn X (by unfold mroIn; rw [hc, Option.bind_some, if_neg (by rw [ne]; decide), hmro]; rfl))
 refine codeAny_call_builtin SF.slot.plain SF.entry (@check_slot (model prog w) _ _ ⟨h, g, d, t + 1, os⟩ "object.__setattr__" "object" "__setattr__" (.ref x) [.str name t, v] [] _ SF.kind SF.split sub (SF.args (.ref x) (.str name t) v) ?_)
 have hm : Looks (model prog w) h (mroOf (.ref C)) cd.mro := (looks_clsIn X hc).andThen .now
 have IT : Looks (model prog w) h (typeOf (.ref x)) (.ref C) := (I t).type
 have LF : Looks (model prog w) h (typeLookup (.ref C) name) none := looks_findIn X hno
 rw [osa_eq, refuse_eq]
 refine wpAny_bind (wpAny_bind (IT.here (wpAny_bind (hm.here ?_))))
 rw [hmro, Uj]
 refine wpAny_pure (wpAny_bind (IT.here (wpAny_bind (LF.here (wpAny_bind (wpAny_pure ?_))))))
 dsimp only
 have LC : Looks (model prog w) h (classData C) cd := looks_clsIn X hc
 obtain ⟨oc, odi, oda, osl⟩ := o
 dsimp only at hcl hdn hda
 subst hcl hdn hda
 refine wpAny_bind (wpAny_pure (wpAny_bind ?_))
 show wpAny _ _ (instanceDict x true) _ _ _
 unfold instanceDict
 refine wpAny_bind (wpAny_loadPart hx (wpAny_bind (LC.here ?_)))
 rw [hhd]
 have hx₁ : (h.push { cls := .type "dict", data := .dict #[] }).get? x = some { cls := .ref C, data := .fields vs, slots := osl } := Heap.get?_push_of_some _ hx
 have hxs : x ≠ h.objs.size := Nat.ne_of_lt (Heap.lt_size hx)
 rw [if_neg (by decide)]
 dsimp only
 rw [if_neg (by simp [typeHasDict])]
 refine wpAny_bind (wpAny_alloc' ?_)
 refine wpAny_bind (wpAny_update' hx₁ ?_)
 refine wpAny_pure ?_
 have hgd : ((h.push { cls := .type "dict", data := .dict #[] }).update x fun o => { cls := o.cls, dict := some h.objs.size, data := o.data, slots := o.slots }).get? h.objs.size
   = some { cls := .type "dict", data := .dict #[] } :=
  (Heap.get?_update_ne _ _ _ _ hxs.symm).trans (Heap.get?_push_at rfl rfl)
 have hnd : ((h.push { cls := .type "dict", data := .dict #[] }).update x fun o => { cls := o.cls, dict := some h.objs.size, data := o.data, slots := o.slots }).Ns h.objs.size (fun _ => none) :=
  ⟨_, #[], _, hgd, rfl, fun e he => absurd he (by simp), fun _ => rfl⟩
 show wpAny _ _ (storeInDict h.objs.size (.str name t) name v) _ _ _
 unfold storeInDict newKeyGuard
 refine wpAny_bind (wpAny_pure (wpAny_bind (wpAny_nsSet1 (Heap.Ns1.of_empty hnd) fun h' hn' hs => ?_)))
 obtain ⟨oD, esD, epD, hoD, hdD, hcD⟩ := hn'.count (Within.cons name v Within.nil)
 refine wpAny_bind (wpAny_lookBehind hoD (by rw [hdD]; exact pastItsLine_dict (Nat.le_trans hcD (by rw [List.length_cons, List.length_nil, sizeLine_eq]; omega))) ?_)
 refine wpAny_pure ?_
 refine hq h' _ ?_ hn' (fun b ob hbx hb => ?_)
 ·refine (hs.2 x hxs).trans (Heap.get?_update_self _ hx₁ ?_)
  exact (Heap.get?_some_iff.mp hx).2
 ·exact (hs.2 b (Nat.ne_of_lt (Heap.lt_size hb))).trans ((Heap.get?_update_ne _ _ _ _ hbx).trans (Heap.get?_push_of_some _ hb))
end
open PySem.W (Frag clsIn findIn takerIn InstAt looks_clsIn looks_findIn looks_takesIn Looks check_slot looks_mroIn mroIn handedIn handedOut_of)
section
variable {prog : Program} {w : World} {A : Around} {E : Value → Shared → Prop} {K : Frag} {h : Heap} {g : Array GenState} {d : Drawn} {t : Nat} {os : OsState} {x C D dx : Addr} {cd : ClassData} {name : Str} {v : Value} {o : Obj} {vs : Array Value} {m : Str → Option Value} {expr : Bool}
theorem Wq {Q : Value → Shared → Prop} (X : K.In h) (hc : clsIn K C = some cd) (hmro : cd.mro = .ref C :: .ref D :: vbm) (hhd : cd.hasDict = true) (hga : findIn K (.ref C) "__getattribute__" = some (some (.builtin "BaseException.__getattribute__"))) (hk : findIn K (.ref C) "__getattr__" = some none) (hno : findIn K (.ref C) name = some none)
  (hx : h.get? x = some o) (hcl : o.cls = .ref C) (hdx : o.dict = some dx) (hda : o.data = .fields vs) (hn : h.Ns dx m) (hm : m name = some v) (hh : handedIn v = true) (hq : Q v ⟨h, g, d, t + 1, os⟩) :
  wpAny (model prog w) A (getAttr (.ref x) name expr) Q E ⟨h, g, d, t, os⟩ := by
 obtain ⟨oc, odi, oda, osl⟩ := o
 dsimp only at hcl hdx hda
 subst hcl hdx hda
 have IT : Looks (model prog w) h (typeOf (.ref x)) (.ref C) := (Looks.ld hx).andThen .now
 have L1 : Looks (model prog w) h (typeLookup (.ref C) "__getattribute__") (some (.builtin "BaseException.__getattribute__")) := looks_findIn X hga
 have LK : Looks (model prog w) h (typeLookup (.ref C) "__getattr__") none := looks_findIn X hk
 have LF : Looks (model prog w) h (typeLookup (.ref C) name) none := looks_findIn X hno
 have LC : Looks (model prog w) h (classData C) cd := looks_clsIn X hc
 have ne : cd.mro.isEmpty = false := by rw [hmro]; rfl
 have sub : Looks (model prog w) h (isInstance (.ref x) (.type "BaseException")) true := IT.andThen (looks_mroIn X (by unfold mroIn; rw [hc, Option.bind_some, if_neg (by rw [ne]; decide), hmro]; rfl))
 have FB := PySem.F.attrBase_ValueError
 refine wpAny_bind (wpAny_mkText (wpAny_holding (wpAny_bind (IT _ _ _ _ (fun _ _ e => e) (wpAny_bind (L1 _ _ _ _ (fun _ _ e => e) ?_))))))
 dsimp only
 have hx2 : (Value.builtin "BaseException.__getattribute__" == Value.builtin "object.__getattribute__") = false := by decide +kernel
 rw [show (onTheHeap (Value.ref C) && Value.builtin "BaseException.__getattribute__" == Value.builtin "object.__getattribute__") = false from by rw [hx2]; rfl, if_neg (by decide)]
 unfold getAttrByItsOwn
 have HB : Looks (model prog w) h (hookBefore (.ref C)) none := by
  unfold hookBefore
  rw [if_pos (show onTheHeap (Value.ref C) = true from rfl)]
  exact LK
 refine wpAny_bind (HB _ _ _ _ (fun _ _ e => e) (wpAny_bind (wpAny_attempt (wpAny_holding ?_))))
 unfold callGetattribute
 rw [show (expr && onTheHeap (Value.builtin "BaseException.__getattribute__")) = false from Bool.and_false _, if_neg (by decide)]
 unfold boundAndCalled
 rw [FB.ga.bind]
 refine wpAny_bind (wpAny_pure ?_)
 show wpAny _ _ (call (.builtin "BaseException.__getattribute__") [.ref x, .str name t]) _ _ _
 refine wpAny_call ?_
 refine codeAny_call_builtin FB.ga.plain F.entry_bexc_ga ?_
 refine @check_slot (model prog w) _ _ ⟨h, g, d, t + 1, os⟩ "BaseException.__getattribute__" "BaseException" "__getattribute__" (.ref x) [.str name t] [] _ (by decide +kernel) (by decide +kernel) sub (F.args_bexc_ga (.ref x) (.str name t)) ?_
 unfold Builtin.«object.__getattribute__»
 have LO : Looks (model prog w) h (inOwnDict name (.ref x)) (some v) := by
  intro A Q E s k q
  refine wpAny_bind (wpAny_bind (wpAny_loadPart (k _ _ hx) ?_))
  show wpAny _ _ (instanceDict x false) _ _ _
  unfold instanceDict
  refine wpAny_bind (wpAny_loadPart (k _ _ hx) (wpAny_bind (LC A _ E s k ?_)))
  rw [hhd]
  refine wpAny_pure (a := some dx) ?_
  exact wpAny_nsGet (hn.keeps k) (by rw [hm]; exact q)
 have LV : Looks (model prog w) h (find (.ref x) (.ref C) name) (.value v) := by
  refine LF.andThen (Looks.now.andThen (Looks.now.andThen (LO.andThen ?_)))
  exact Looks.tag .now
 refine wpAny_bind (wpAny_pure (wpAny_bind (wpAny_pure (wpAny_bind (IT _ _ _ _ (fun _ _ e => e) (wpAny_bind (LV _ _ _ _ (fun _ _ e => e) (wpAny_pure ?_))))))))
 show wpAny _ _ (handedOut v) _ _ _
 rw [handedOut_of hh]
 exact wpAny_pure hq
end
def XO (a C : Addr) (dx : Option Addr) : HO := .ext fun h => ∃ t, h.get? a = some { cls := .ref C, dict := dx, data := .fields #[.ref t, .none, .none, .none, .bool false, .none] }
structure lX (K : PySem.W.Frag) (C D N fI : Addr) : Prop where
 obj : ∃ nm q bs sn sub ab col dd k0 k1 k2 k3 k5, K.lookup C = some (excClassObj nm q C N bs (.ref D :: vbm) true sn sub ab col dd k0 k1 k2 k3 k5 "ValueError.__new__")
 tail : PySem.W.tailIn K vbm (.ref D :: vbm) = true
 nsok : PySem.W.nsOkIn K N = true
 init : PySem.W.nsIn K N "__init__" = some (some (.ref fI))
 set : PySem.W.findIn K (.ref C) "__setattr__" = some (some (.builtin "object.__setattr__"))
 ga : PySem.W.findIn K (.ref C) "__getattribute__" = some (some (.builtin "BaseException.__getattribute__"))
 gk : PySem.W.findIn K (.ref C) "__getattr__" = some none
structure XBase (K : PySem.W.Frag) (D : Addr) : Prop where
 reads : PySem.W.readsIn K D (.type "type") = true
 sp : PySem.W.specialIn K (.ref D) "__getattribute__" = some (some (.builtin "type.__getattribute__"))
 fnd : PySem.W.findCls K (.ref D) (.type "type") "__init__" = some (.val (.builtin "ValueError.__init__"))
section
variable {X : Cx} {C D N fI : Addr} {x : Str} {np apos cpos : Pos} {e : Expr} {es : List Expr} {t : TA}
def tBI (C : Addr) (t : TA) : TE := fun σ H Q => t σ H fun vs H1 => ∃ a rest dx, vs = .ref a :: rest ∧ rest.length ≤ 1000 ∧ H1 a = some (XO a C dx) ∧ Q .non H1
theorem RV {H : Hp} {a : Addr} {o : HO} (h : H a = some o) : upd H a o = H := by
 funext b
 unfold upd
 split
 ·rename_i z; rw [z, h]
 ·rfl
theorem JS {pl : Sem Bool} (XC : lX X.K C D N fI) (XD : XBase X.K D) (hg : Gl X x) (hm : X.mg x = some (.ref D)) (ha : PA X (e :: es) t) (hdb : (x == ("__debug__" : Str)) = false := by decide)
  (hst : starEach (e :: es) X.env = (false, eval e X.env) :: starEach es X.env := by rfl) (hpl : (backTo cpos (starEach es X.env)).any (·.1) = false := by rfl)
  (ht : eval (.Call (.Attribute (.Name x np) "__init__" apos) (e :: es) [] cpos) X.env = (do
   let ov ← eval (.Name x np) X.env
   standAt apos.atName
   let (f, first) ← holding [ov] (getMethod ov "__init__" pl)
   callWith cpos f first (backTo cpos (starEach (e :: es) X.env)) (backToKw cpos (keywordEach [] X.env))) := by rfl) :
  PE X (.Call (.Attribute (.Name x np) "__init__" apos) (e :: es) [] cpos) (tBI C t) := by
 intro pins s σ H Q I h
 refine PySem.W.methodCall_KW (pl := pl) (qZ I hg hm ?_ hdb) ht
 refine PySem.W.method_cls I.kIn XD.sp (PySem.W.cls_value I.kIn XD.reads XD.fnd (by decide +kernel) ?_)
 have I1 := I.tok (s.toks + 1)
 have hA := ha cpos pins _ σ H _ I1 h
 rw [hst] at hA ⊢
 refine Calls.callWith_builtin (by show (false || (backTo cpos (starEach es X.env)).any (·.1)) = false; rw [hpl] <;> rfl) (Calls.evalArgs_plain ?_)
 refine thn hA fun us s2 ⟨vs, H2, I2, r2, a, rest, dx, ev, hl, hH, q⟩ => ?_
 subst ev
 cases r2 with
 | cons ra rr =>
  obtain rfl := (show _ = Value.ref a from ra)
  obtain ⟨t0, ht0⟩ := (show ∃ t, _ from ((I2.hok a _ hH).1))
  obtain ⟨nm, q', bs, sn, sub, ab, col, dd, k0, k1, k2, k3, k5, hC⟩ := XC.obj
  obtain ⟨hp, g, d, tk, os⟩ := s2
  refine Vb (rest := _) PySem.F.excBase_ValueError (bm := .ref D :: vbm) rfl (I2.kIn _ _ hC) ht0 (fun h' k1 k2 => ?_) ?_
  ·have I3 := I2.write (x := a) (e := a) (o := XO a C dx) (t' := tk) (h' := h') (by rw [hH]; trivial) (.inl rfl) k1 ⟨_, k2⟩ ⟨⟨_, k2⟩, ⟨_, k2⟩, fun h1 h2 ⟨t, z⟩ z2 => ⟨t, z2 _ z⟩⟩
   rw [RV hH] at I3
   exact ⟨.non, H2, I3, rfl, q⟩
  ·rw [← rr.length]
   exact Nat.le_trans hl (by rw [sizeLine_eq]; decide)
end
section
variable {X : Cx} {C D N fI : Addr} {f : Str} {o value : Expr} {pos pos' : Pos} {ta tv : TE}
def Ip (K : PySem.W.Frag) (C : Addr) (ta tv : TE) (f : Str) : TS := fun D σ H => tv σ H fun y H1 => ta σ H1 fun x H2 => ∃ a, x = .ref a ∧ H2 a = some (XO a C none) ∧ PySem.W.findIn K (.ref C) f = some none ∧
 ∀ dx, H2 dx = none → dx ≠ a → D.nx σ (upd (upd H2 dx (.xd [(f, y)])) a (XO a C (some dx)))
theorem Iw {f : Str} {y : V} {u : Value} (r : RelV y u) (f' : Str) : zH ([(f, y)].lookup f') (if f' = f then some u else none) := by
 unfold List.lookup
 by_cases h : f' = f
 ·subst h
  rw [if_pos rfl, show (f' == f') = true from beq_self_eq_true f']
  exact r
 ·rw [if_neg h, show (f' == f) = false from beq_eq_false_iff_ne.mpr h]
  exact trivial
theorem lX.cls {K : PySem.W.Frag} (c : lX K C D N fI) : ∃ cd, PySem.W.clsIn K C = some cd ∧ cd.mro = .ref C :: .ref D :: vbm ∧ cd.hasDict = true := by
 obtain ⟨nm, q', bs, sn, sub, ab, col, dd, k0, k1, k2, k3, k5, hC⟩ := c.obj
 unfold PySem.W.clsIn
 rw [hC]
 exact ⟨_, rfl, rfl, rfl⟩
theorem O2 (XC : lX X.K C D N fI) (ha : PE X o ta) (hv : PE X value tv) (hs : swapsWith value (some (.Attribute o f pos')) pos.line X.env = pure false) : PS X (.Assign [.Attribute o f pos'] value pos) (Ip X.K C ta tv f) := by
 intro pins s σ H Dn I h
 refine plainObj_wpAny_Assign_Attribute (thE (hv pins s σ H _ I h) fun u s1 y H1 I1 ry q => thn (ha pins s1 σ H1 _ I1 q) fun ov s2 ⟨x, H2, I2, rx, a, ex, ea, hno, q2⟩ => ?_) hs
 subst ex
 obtain rfl : ov = Value.ref a := rx
 obtain ⟨cd, c1, c2, c3⟩ := XC.cls
 obtain ⟨t0, ht0⟩ := (show ∃ t, _ from ((I2.hok a _ ea).1))
 obtain ⟨hp, g, d, tk, os⟩ := s2
 refine VB I2.kIn c1 c2 c3 XC.set hno ht0 rfl rfl rfl fun h' tk' g1 g2 g3 => ?_
 have hfr : H2 hp.objs.size = none := I2.hok.fresh (Nat.le_refl _)
 have hne : hp.objs.size ≠ a := fun z => by
  have := Heap.lt_size ht0
  rw [z] at this
  exact Nat.lt_irrefl _ this
 have old : ∀ b u, H2 b = some u → b ≠ hp.objs.size := fun b u e z => by rw [z, hfr] at e; cases e
 have oth : ∀ b u, H2 b = some u → u ≠ XO a C none → upd (upd H2 hp.objs.size (.xd [(f, y)])) a (XO a C (some hp.objs.size)) b = some u := fun b u e ne => by
  rw [aG (fun z => ne (by rw [z, ea] at e; exact (Option.some.inj e).symm)), aG (old b u e), e]
 have lt : ∀ b ob, hp.get? b = some ob → b ≠ hp.objs.size := fun b ob e z => by
  have := Heap.lt_size e
  rw [z] at this
  exact Nat.lt_irrefl _ this
 refine ⟨σ, _, I2.un (h' := h') (t' := tk') ?_ ?_, q2 _ hfr hne⟩
 ·refine ⟨fun b ob e n _ _ => ?_, fun b ob e n _ _ => ⟨ob.slots, ?_⟩, fun b ob e n _ => ?_, fun b ob e _ => ?_, fun b xs e => oth b _ e (by unfold XO; exact fun z => nomatch z), fun b ob u e => oth b _ e (by unfold XO; exact fun z => nomatch z), fun b ps e => ⟨#[], by rw [Array.append_empty]; exact oth b _ e (by unfold XO; exact fun z => nomatch z)⟩⟩
  ·exact g3 b ob (fun z => by rw [z, ea] at n; cases n) e
  ·exact g3 b ob (fun z => by rw [z, ea] at n; cases n) e
  ·rw [aG (fun z => by rw [z, ea] at n; cases n), aG (lt b ob e), n]
  ·by_cases z : b = a
   ·rw [z]; exact ⟨_, g1⟩
   ·exact ⟨_, g3 b ob z e⟩
 ·intro c u e
  by_cases z : c = a
  ·subst z
   rw [aB] at e
   cases e
   exact ⟨⟨t0, g1⟩, ⟨_, g1⟩, fun h1 h2 ⟨t, z⟩ z2 => ⟨t, z2 _ z⟩⟩
  ·rw [aG z] at e
   by_cases z2 : c = hp.objs.size
   ·rw [z2, aB] at e
    cases e
    rw [z2]
    exact ⟨_, g2, fun f' => Iw ry f'⟩
   ·rw [aG z2] at e
    refine (I2.hok c u e).stay (fun b ob hb eb => g3 b ob (fun zz => ?_) eb) (fun b hb => oth b _ hb (by unfold XO; exact fun z => nomatch z)) fun b xs hb => oth b _ hb (by unfold XO; exact fun z => nomatch z)
    rcases hb with hb | hb
    ·exact z (hb.symm.trans zz)
    ·rw [zz, ea] at hb; cases hb
end
abbrev TJ := St → Hp → (Hp → Prop) → Prop
def PJ (X : Cx) (es : List Expr) (t : TJ) : Prop :=
 ∀ (pins : List (Addr × Obj)) (s : Shared) (σ : St) (H : Hp) (acc : Str) (R : Hp → Prop) (Q : Str → Shared → Prop), Inv X pins σ H s → acc.length + 400 * es.length ≤ sizeLine → t σ H R →
  (∀ out s' H', Inv X pins σ H' s' → out.length ≤ sizeLine → R H' → Q out s') → Joins (model X.prog X.w) X.A X.xe (evalEach es X.env) acc Q s
section
variable {X : Cx} {e : Expr} {es : List Expr} {t : TJ} {te : TE} {x : Str} {j : Nat} {pos : Pos}
theorem T4 : PJ X [] (fun _ H R => R H) := fun pins s σ H acc R Q I hl h k => k acc s H I (Nat.le_trans (Nat.le_add_right _ _) hl) h
theorem JD {kd} (hx : x.length ≤ 400) (hr : PJ X es t) : PJ X (.Constant (.str x) kd pos :: es) t := by
 intro pins s σ H acc R Q I hl h k
 show wpAny (model X.prog X.w) X.A (eval (.Constant (.str x) kd pos) X.env) _ X.xe s
 refine Calls.Constant_str ⟨x, _, rfl, ?_, hr pins _ σ H (acc ++ x) R Q (I.tok _) ?_ h k⟩
 ·rw [strLen_append]
  rw [List.length_cons] at hl
  omega
 ·rw [strLen_append]
  rw [List.length_cons] at hl
  omega
theorem T5 (he : PE X e te) (hr : PJ X es t) : PJ X (.FormattedValue e (-1) none pos :: es) (fun σ H R => te σ H fun v H1 => ∃ i : Int, v = .int i ∧ (-(2 ^ 70) < i ∧ i < 2 ^ 70) ∧ t σ H1 R) := by
 intro pins s σ H acc R Q I hl h k
 show wpAny (model X.prog X.w) X.A (eval (.FormattedValue e (-1) none pos) X.env) _ X.xe s
 refine wpAny_FormattedValue_plain (thn (he pins s σ H _ I h) fun u s1 ⟨v, H1, I1, rv, i, ev, hb, q⟩ => ?_)
 subst ev
 obtain ⟨tk, rfl⟩ := (show ∃ tk, u = Value.int i tk from rv)
 have hlg : i.natAbs.log2 < 1920 := by
  have : i.natAbs < 2 ^ 70 := by omega
  by_cases z : i.natAbs = 0
  ·rw [z]; decide
  ·have := (Nat.log2_lt z).mpr this
   omega
 have h4 := QM (i := i) (by omega)
 rw [List.length_cons] at hl
 refine wpAny_formatField_int hlg ⟨_, _, rfl, ?_, hr pins _ σ H1 _ R Q (I1.tok _) ?_ q k⟩
 ·rw [strLen_append]; omega
 ·rw [strLen_append]; omega
theorem Fq {v₁ v₂ : Expr} {rest : List Expr} (h : PJ X (v₁ :: v₂ :: rest) t) (hl : (v₁ :: v₂ :: rest).length ≤ 100) : PE X (.JoinedStr (v₁ :: v₂ :: rest) pos) (fun σ H Q => t σ H fun H1 => ∀ x, Q (.str x) H1) := by
 intro pins s σ H Q I ht
 refine wpAny_JoinedStr (h pins s σ H Str.empty _ _ I ?_ ht fun out s' H' I' ho q => ⟨ho, .str out, H', I'.tok _, ⟨_, rfl⟩, q out⟩)
 show 0 + 400 * _ ≤ _
 rw [sizeLine_eq]
 omega
end
structure Vt (X : Cx) (s : Shared) (H : Hp) (x : Addr) (ox : Obj) (vs : Array Value) : Prop where
 at_ : s.heap.get? x = some ox
 dat : ox.data = Data.fields vs
 siz : 1 < vs.size
 new : X.s₀.heap.objs.size ≤ x
 loc : x ≠ X.env.locals
 fre : H x = none
 tb : vs[1]? = some Value.none ∨ ∃ T ts, vs[1]? = some (Value.ref T) ∧ T ≠ x ∧ s.heap.get? T = some { cls := Value.type "traceback", data := Data.fields ts } ∧ ts[3]? = some Value.none ∧ X.s₀.heap.objs.size ≤ T ∧ H T = none
def Vp (X : Cx) (E : XK) : Prop := ∀ (pins : List (Addr × Obj)) (σ : St) (H : Hp) (s : Shared) (x : Addr) (ox : Obj) (vs : Array Value), Inv X pins σ H s → Vt X s H x ox vs → E ox.cls ox.dict H → X.xe (.ref x) s
theorem WW {P : Program} {w : World} {K : PySem.W.Frag} {mg : Str → Option Value} {base : Heap} {N : List Str} {qual : Str} {scope : Scope} {f : Addr} {cd : Value} {A : Around} {outer : List Env} {s : Shared} {H : Hp} {E : XK} :
  Vp (uM (CX1 P w) P w K mg base N qual scope f cd A outer s H E) E := by
 intro pins σ H2 s2 x ox vs I2 L q
 have hst := I2.stack
 have hen : x ∉ frs (envOfC qual scope s.heap.objs.size f cd :: outer) := fun hm => by
  rcases List.mem_cons.mp (I2.oV x hm) with z | z
  ·exact L.loc z
  ·obtain ⟨_, o, g, _⟩ := I2.ok.lG.mem z
   exact absurd (Heap.lt_size g) (Nat.not_lt.mpr L.new)
 have hfree := I2.qP
 show wpAny (model P w) (A.deeper (envOfC qual scope s.heap.objs.size f cd)) (leaving (envOfC qual scope s.heap.objs.size f cd) (Value.ref x)) _ _ s2
 refine Qs (base := base) (outer := outer) (L := s.heap.objs.size) I2.ok.frames hst rfl L.at_ L.dat L.siz hen ?_ ?_
 ·rcases L.tb with z | ⟨T, ts, z1, z2, z3, z4, _, _⟩
  ·exact .inl z
  ·exact .inr ⟨T, ts, z1, z2, z3, z4⟩
 ·intro h' T ts g1 g2 g3 g4 g5 g6 g7
  have hT0 : ∀ b, vs[1]? = some (Value.ref b) → s.heap.objs.size ≤ b ∧ H2 b = none := fun b hb => by
   rcases L.tb with z | ⟨T0, _, z, _, _, _, z5, z6⟩
   ·rw [z] at hb; cases hb
   ·rw [z] at hb; cases hb; exact ⟨z5, z6⟩
  have old : ∀ b o, s.heap.get? b = some o → b < s.heap.objs.size ∧ b ≠ x ∧ vs[1]? ≠ some (Value.ref b) := fun b o g => by
   have hb := Heap.lt_size g
   have hn : s.heap.objs.size ≤ x := L.new
   refine ⟨hb, fun z => ?_, fun z => ?_⟩
   ·subst z; exact absurd (Nat.lt_of_lt_of_le hb hn) (Nat.lt_irrefl _)
   ·exact absurd (Nat.lt_of_lt_of_le hb (hT0 b z).1) (Nat.lt_irrefl _)
  have hH2T : H2 T = none := I2.hok.fresh g5
  refine ⟨x, _, _, H2, rfl, ⟨g1, rfl, ?_, L.new, L.fre, .inr ⟨T, ts, ?_, g4, g2, g3, ?_, hH2T⟩⟩, I2.os, I2.bare, ?_, ?_, q⟩
  ·rw [Array.size_setIfInBounds]; exact L.siz
  ·rw [Array.getElem?_setIfInBounds_self_of_lt L.siz]
  ·exact Nat.le_trans I2.sz g5
  ·have B := I2.base
   refine ⟨fun b o g n hf hx => ?_, fun b o g n hf hx => ?_, B.free, fun b o g hx => ?_, B.tups, B.frzs, B.tbls⟩
   ·obtain ⟨c1, c2, c3⟩ := old b o g
    refine g6 b o c2 (fun z => ?_) c3 (B.keep b o g n hf hx)
    rcases List.mem_cons.mp (show b ∈ s.heap.objs.size :: frs outer from z) with z | z
    ·rw [z] at c1; exact absurd c1 (Nat.lt_irrefl _)
    ·exact hf z
   ·obtain ⟨sl, g'⟩ := B.slot b o g n hf hx
    obtain ⟨sl', g''⟩ := g7 b _ (List.mem_cons_of_mem _ hf) g'
    exact ⟨sl', g''⟩
   ·obtain ⟨c1, c2, c3⟩ := old b o g
    obtain ⟨o', g'⟩ := B.there b o g hx
    by_cases hm : b ∈ frs (envOfC qual scope s.heap.objs.size f cd :: outer)
    ·obtain ⟨sl, g''⟩ := g7 b o' hm g'
     exact ⟨_, g''⟩
    ·exact ⟨_, g6 b o' c2 hm c3 g'⟩
  ·intro a o ha
   refine (I2.hok a o ha).stay (fun b u hb gb => ?_) (fun _ z => z) fun _ _ z => z
   have hb' : H2 b ≠ none := by
    rcases hb with rfl | hb
    ·rw [ha]; exact fun z => nomatch z
    ·rw [hb]; exact fun z => nomatch z
   refine g6 b u (fun z => hb' (by rw [z]; exact L.fre)) (fun z => hb' (hfree b z)) (fun z => hb' (hT0 b z).2) gb
def unt (H : Hp) (a : Addr) : Hp := fun b => if b = a then none else H b
theorem xZ {H : Hp} {a : Addr} : unt H a a = none := by unfold unt; rw [if_pos rfl]
theorem vZ {H : Hp} {a b : Addr} (h : b ≠ a) : unt H a b = H b := by unfold unt; rw [if_neg h]
theorem Inv.forget {X : Cx} {pins : List (Addr × Obj)} {σ : St} {H : Hp} {s : Shared} {e C : Addr} {dx : Option Addr} (I : Inv X pins σ H s) (he : H e = some (XO e C dx)) : Inv X pins σ (unt H e) s := by
 have oth : ∀ b u, H b = some u → u ≠ XO e C dx → unt H e b = some u := fun b u h n => by
  rw [vZ (fun z => n (by rw [z, he] at h; exact (Option.some.inj h).symm)), h]
 have non : ∀ b, H b = none → unt H e b = none := fun b h => by
  unfold unt
  split
  ·rfl
  ·exact h
 have B := I.base
 refine ⟨I.ok, I.os, I.bare, ⟨B.keep, B.slot, fun b o g n hx => non b (B.free b o g n hx), B.there, fun b xs h => oth b _ (B.tups b xs h) (by unfold XO; exact fun z => nomatch z), fun b o u h => oth b _ (B.frzs b o u h) (by unfold XO; exact fun z => nomatch z), fun b ps h => ?_⟩, I.loc, I.cell, non _ I.free, fun x c h => non _ (I.freeC x c h), fun p hp => ?_, fun a o ha => ?_, I.len⟩
 ·obtain ⟨m, hm⟩ := B.tbls b ps h
  exact ⟨m, oth b _ hm (by unfold XO; exact fun z => nomatch z)⟩
 ·obtain ⟨z1, z2, z3⟩ := I.pin p hp
  exact ⟨z1, non _ z2, z3⟩
 ·have hne : a ≠ e := fun z => by rw [z, xZ] at ha; cases ha
  rw [vZ hne] at ha
  exact (I.hok a o ha).stay (fun b u _ g => g) (fun b h => oth b _ h (by unfold XO; exact fun z => nomatch z)) fun b xs h => oth b _ h (by unfold XO; exact fun z => nomatch z)
theorem FP {K : PySem.W.Frag} {h : Heap} {N : Addr} {mg : Str → Option Value} {n : Str} {v : Value} (X : K.In h) (G : h.Ns N mg) (e : PySem.W.nsIn K N n = some (some v)) : mg n = some v := by
 obtain ⟨o, es, ep, ho, hd, _, hf⟩ := G
 unfold PySem.W.nsIn at e
 split at e
 ·rename_i q
  have q := (X _ _ q).symm.trans ho
  cases q
  cases hd
  split at e
  ·rename_i he
   cases e
   rw [← hf]
   unfold nsFind findBy
   rw [← Array.find?_toList, he]
   rfl
  ·split at e <;> cases e
 ·cases e
section
variable {X : Cx} {C D N fI : Addr} {x : Str} {np cpos pos : Pos} {e : Expr} {es : List Expr} {t : TA} {k : Nat} {fd : FuncData} {ps : List Str} {sp : Sp} {E : XK}
def zQ (C : Addr) (sp : Sp) (E : XK) (t : TA) : TS := fun _ σ H => t σ H fun vs H1 => vs.length ≤ 1000 ∧ ∀ a, H1 a = none →
 sp (.ref a :: vs) (upd H1 a (XO a C none)) (fun v H2 => v = .non ∧ ∃ dx, H2 a = some (XO a C (some dx)) ∧ E (.ref C) (some dx) (unt H2 a)) E0
theorem Fl (XC : lX X.K C D N fI) (F : dH X.prog X.w X.K X.mg X.base CX0 k fI fd ps sp) (hr : fB (k + 1) X.A) (hb : Binds X.K fd ps []) (hfI : ∃ oI, X.K.lookup fI = some oI ∧ oI.cls = .type "function") (hcalm : X.calm = true) (hout : Vp X E)
  (hg : Gl X x) (hm : X.mg x = some (.ref C)) (ha : PA X (e :: es) t) (hdb : (x == ("__debug__" : Str)) = false := by decide)
  (hst : starEach (e :: es) X.env = (false, eval e X.env) :: starEach es X.env := by rfl) (hpl : (backTo cpos (starEach es X.env)).any (·.1) = false := by rfl) :
  PS X (.Raise (some (.Call (.Name x np) (e :: es) [] cpos)) none pos) (zQ C sp E t) := by
 intro pins s σ H Dn I h
 have hplain : (backTo cpos (starEach (e :: es) X.env)).any (·.1) = false := by
  rw [hst]; show (false || (backTo cpos (starEach es X.env)).any (·.1)) = false; rw [hpl] <;> rfl
 obtain ⟨nm, q', bs, sn, sub, ab, col, dd, k0, k1, k2, k3, k5, hC⟩ := XC.obj
 obtain ⟨oI, hoI, hoc⟩ := hfI
 have hA := ha cpos pins s σ H _ I h
 have hE : wpAny (model X.prog X.w) X.A (evalArgs (.ref C) true (backTo cpos (starEach (e :: es) X.env)) []) (fun a s2 => a.kw = [] ∧ AP X pins σ (fun vs H1 => vs.length ≤ 1000 ∧ ∀ a, H1 a = none →
   sp (.ref a :: vs) (upd H1 a (XO a C none)) (fun v H2 => v = .non ∧ ∃ dx, H2 a = some (XO a C (some dx)) ∧ E (.ref C) (some dx) (unt H2 a)) E0) a.pos s2) X.xe s := by
  rw [hst] at hA ⊢
  exact Calls.evalArgs_plain (thn hA fun us s2 z => ⟨rfl, z⟩)
 rw [arm_exec_Raise]
 refine wpAny_bind (wpAny_standAt (Nk (C := C) (nm := nm) (q := q') (N := N) (bs := bs) (bm := .ref D :: vbm) (hdct := true) (sn := sn) (sub := sub) (ab := ab) (col := col) (dd := dd) (k0 := k0) (k1 := k1) (k2 := k2) (k3 := k3) (k5 := k5) (newId := "ValueError.__new__") rfl (I.ok.hd hcalm) ?_))
 refine wpAny_bind (wpAny_mono (wpAny_Call_ofName (qZ I hg hm ?_ hdb)) (fun v s₃ h₃ => wpAny_bind (wpAny_standAt (wpAny_pure h₃))) fun _ _ x => x)
 unfold callWith
 refine wpAny_bind (wpAny_holding (wpAny_mono hE (fun a s₂ h₂ => wpAny_bind (wpAny_standAt ?_)) fun _ _ x => x))
 obtain ⟨apos, akw⟩ := a
 obtain ⟨hkw, vs, H1, I1, rv, hl, hsp⟩ := h₂
 obtain rfl : akw = [] := hkw
 obtain ⟨hp, g, d, tk, os⟩ := s₂
 simp only [hplain]
 have hC1 := I1.kIn _ _ hC
 refine wpAny_bind (wpAny_keeperOf_exc hC1 ?_)
 refine wpAny_bind ?_
 have T : OwnTail hp vbm (.ref D :: vbm) := PySem.W.tail_of_in I1.kIn XC.tail
 have hNs : hp.Ns N (hp.nsMap N) := .of_isNs (PySem.W.isNs_of_in I1.kIn XC.nsok)
 refine Gx (B := "ValueError") (Bn := "ValueError") (bmB := vbm) (bmN := vbm) PySem.F.excBase_ValueError rfl PySem.F.excBase_ValueError T hC1 hNs (FP I1.kIn hNs XC.init) (I1.kIn _ _ hoI) hoc ?_ ?_
 ·intro h' ea hs hmk
  obtain ⟨tt, hget, _, _⟩ := hmk.there
  have I2 := I1.laid (a := ea) (o := XO ea C none) (t' := tk) (h' := h') hmk.keeps hs ⟨⟨tt, hget⟩, ⟨_, hget⟩, fun h1 h2 ⟨t, z⟩ z2 => ⟨t, z2 _ z⟩⟩
  have hq := hsp ea (I1.hok.fresh hs)
  have r2 : Vals (V.ref ea :: vs) (Value.ref ea :: apos) := .cons rfl rv
  have hln : (Value.ref ea :: apos ++ []).length = ps.length := by
   rw [List.append_nil, ← r2.length]
   exact F.len _ _ _ _ hq
  have hbn := hb _ (Value.ref ea :: apos) I2.kIn hln
  rw [List.append_nil] at hbn
  refine wpAny_call (codeAny_mono (F.run _ X.stack _ _ ⟨Value.ref ea :: apos, []⟩ (Value.ref ea :: apos) _ _ E0 (hr.make C apos []) (I2.env0.make C apos []) hbn r2 hq) fun r s' hq' => ?_)
  cases r with
  | error e' => exact False.elim hq'
  | ok fl =>
   cases fl with
   | ret u =>
    obtain ⟨v, H3, I3, ru, ev, dx, hH, hEE⟩ := I2.after hq'
    subst ev
    obtain ⟨t3, ht3⟩ := (show ∃ t, _ from ((I3.hok ea _ hH).1))
    refine ⟨ru, wpAny_bind (wpAny_holding (wpAny_point (wpAny_pure ⟨ea, t3, some dx, rfl, I3.kIn _ _ hC, ht3, ?_⟩)))⟩
    refine hout pins σ (unt H3 ea) s' ea _ _ (I3.forget hH) ⟨ht3, rfl, by show 1 < 6; decide, Nat.le_trans I1.sz hs, fun z => ?_, xZ, .inl rfl⟩ hEE
    have := I1.lt
    rw [← z] at this
    exact Nat.lt_irrefl _ (Nat.lt_of_lt_of_le this hs)
   | next => exact False.elim hq'
   | brk => exact False.elim hq'
   | cont => exact False.elim hq'
 ·show apos.length ≤ _
  rw [← (show Vals vs apos from rv).length]
  exact Nat.le_trans hl (by rw [sizeLine_eq]; decide)
end
section
variable {M : Model} {A : Around} {E : Value → Shared → Prop}
variable {nm q nmD qD : Str} {C N D ND : Addr} {bs bm bsD bmD : List Value} {hdct hdctD : Bool} {sn snD : List Str} {sub subD : List Value} {ab abD : Bool} {col colD : Option Bool} {dd ddD : Option Addr} {k0 k1 k2 k3 k5 j0 j1 j2 j3 j5 : Option Value} {newId newIdD : String}
theorem Q7 {h : Heap} {g : Array GenState} {d : Drawn} {t : Nat} {os : OsState} {e : Addr} {oe : Obj} {Q : Bool → Shared → Prop}
  (hC : h.get? C = some (excClassObj nm q C N bs bm hdct sn sub ab col dd k0 k1 k2 k3 k5 newId)) (hD : h.get? D = some (excClassObj nmD qD D ND bsD bmD hdctD snD subD abD colD ddD j0 j1 j2 j3 j5 newIdD)) (he : h.get? e = some oe) (hcls : oe.cls = .ref C)
  (hbase : bmD.contains (.type "BaseException") = true) (hs : bm.contains (.ref D) = true) (hq : Q true ⟨h, g, d, t, os⟩) : wpAny M A (excMatches (.ref e) (.ref D)) Q E ⟨h, g, d, t, os⟩ := by
 have hcB : (Value.ref D :: bmD).contains (.type "BaseException") = true := by rw [List.contains_cons, hbase, Bool.or_true]
 have hcS : (Value.ref C :: bm).contains (.ref D) = true := by rw [List.contains_cons, hs, Bool.or_true]
 have f1 := tc_notTuple
 have hT : (⟨h, g, d, t, os⟩ : Shared).TypeIs (.ref D) "type" := ⟨_, hD, rfl⟩
 unfold excMatches
 repeat (any_goals (first | assumption | (with_reducible refine wpAny_loadPart_at he ?_; rw [hcls]) | with_reducible refine wpAny_loadPart_at hD ?_ | (with_reducible refine wpAny_isSubtype_exc hD ?_; rw [hcB]) | (with_reducible refine wpAny_isSubtype_exc hC ?_; rw [hcS]) | wp_step))
end
theorem rm {X : Cx} {pins : List (Addr × Obj)} {σ : St} {H : Hp} {s : Shared} {M : Model} {A : Around} {E : Value → Shared → Prop} {i : Nat} {n : Str} {pos : Pos} {Q : Unit → Shared → Prop} (I : Inv X pins σ H s) (hN : X.N.Nodup) (hi : X.N[i]? = some n) (hk : X.env.scope.names.lookup n = some .local)
  (h : ∀ s', Inv X pins (σ.set i none) H s' → Q () s') : wpAny M A (do bindName X.env n .none; unbindBehindTheSuite X.env n pos) Q E s := by
 obtain ⟨m, hn, hl⟩ := id I.loc
 have hcls : (X.env.scope.kind == .class || (X.env.scope.kind == .module && X.env.locals != X.env.globals)) = false := by rw [I.ok.kind]; rfl
 have hiσ : i < σ.length := by rw [I.len]; exact (List.getElem?_eq_some_iff.mp hi).1
 have cne := I.cne
 have tracked : ∀ {a : Addr} {h' : Heap}, (∃ o, s.heap.get? a = some o ∧ H a = none) → Heap.SameBut a s.heap h' → HOk X.prog X.w H h' := fun {a h'} ha hs b ob e => by
  obtain ⟨_, _, hfree⟩ := ha
  refine (I.hok b ob e).stay (fun c w' hc q => (hs.2 c ?_).trans q) (fun _ q => q) fun _ _ q => q
  rintro rfl
  rcases hc with rfl | hc
  ·rw [hfree] at e; cases e
  ·rw [hfree] at hc; cases hc
 refine wpAny_nameGoes_keeps (show X.env.kindOf n = some .local from hk) hn hcls fun h' v hn' hs => ?_
 obtain ⟨oL, _, _, hoL, _⟩ := id hn
 refine h _ ⟨I.ok, I.os, I.bare, ⟨fun b o e n hb hx => ?_, fun b o e n hb hx => ?_, I.base.free, fun b o e hx => ?_, I.base.tups, I.base.frzs, I.base.tbls⟩, ⟨_, hn', fun j y v' e1 e2 e3 => ?_⟩, fun y c e => ?_, I.free, I.freeC, fun p hp => ?_, tracked ⟨oL, hoL, I.free⟩ hs, by simpa using I.len⟩
 ·exact (hs.2 b (Nat.ne_of_lt (Nat.lt_of_lt_of_le (Heap.lt_size e) I.ok.above))).trans (I.base.keep b o e n hb hx)
 ·obtain ⟨sl, e1⟩ := I.base.slot b o e n hb hx
  exact ⟨sl, (hs.2 b (Nat.ne_of_lt (Nat.lt_of_lt_of_le (Heap.lt_size e) I.ok.above))).trans e1⟩
 ·obtain ⟨o', e1⟩ := I.base.there b o e hx
  exact ⟨o', (hs.2 b (Nat.ne_of_lt (Nat.lt_of_lt_of_le (Heap.lt_size e) I.ok.above))).trans e1⟩
 ·by_cases hj : j = i
  ·subst hj
   rw [List.getElem?_set_self hiσ] at e2
   cases e2
  ·rw [List.getElem?_set_ne (Ne.symm hj)] at e2
   obtain ⟨u', r', q⟩ := hl j y v' e1 e2 e3
   refine ⟨u', r', ?_⟩
   rcases q with ⟨k, e⟩ | ⟨k, c, e, z⟩
   ·refine .inl ⟨k, ?_⟩
    have : y ≠ n := fun e => hj (sI hN e1 (e ▸ hi))
    simp [this, e]
   ·exact .inr ⟨k, c, e, z.sameBut hs (cne y c e)⟩
 ·obtain ⟨w', z⟩ := I.cell y c e
  exact ⟨w', z.sameBut hs (cne y c e)⟩
 ·obtain ⟨e, n, ne, nf, d⟩ := I.pin p hp
  exact ⟨(hs.2 p.1 ne).trans e, n, ne, nf, d⟩
theorem Qt {prog : Program} {w : World} {A : Around} {E : Value → Shared → Prop} {s : Shared} {base : Heap} {env : Env} {outer : List Env} {L e : Addr} {oe : Obj} {vs : Array Value} {Q : Unit → Shared → Prop} (hfr : A.frames = some (env :: outer)) (hl : s.heap.FunFrames base (env :: outer)) (hf : env.frame = some L)
  (he : s.heap.get? e = some oe) (hd : oe.data = Data.fields vs) (h1s : 1 < vs.size) (hen : e ∉ List.filterMap (fun x => x.frame) (env :: outer))
  (ht : vs[1]? = some Value.none ∨ ∃ T ts, vs[1]? = some (Value.ref T) ∧ T ≠ e ∧ s.heap.get? T = some { cls := Value.type "traceback", data := Data.fields ts } ∧ ts[3]? = some Value.none)
  (hQ : ∀ (h' : Heap) (T : Addr) (ts : Array Value), h'.get? e = some { cls := oe.cls, dict := oe.dict, data := Data.fields (vs.setIfInBounds 1 (Value.ref T)), slots := oe.slots } → h'.get? T = some { cls := Value.type "traceback", data := Data.fields ts } → ts[3]? = some Value.none → T ≠ e → s.heap.objs.size ≤ T →
   (∀ b o, b ≠ e → b ∉ List.filterMap (fun x => x.frame) (env :: outer) → vs[1]? ≠ some (Value.ref b) → s.heap.get? b = some o → h'.get? b = some o) → (∀ b o, b ∈ List.filterMap (fun x => x.frame) (env :: outer) → s.heap.get? b = some o → ∃ sl, h'.get? b = some { cls := o.cls, dict := o.dict, data := o.data, slots := sl }) → Q () { s with heap := h' }) :
  wpAny (model prog w) A (noteFrame (Value.ref e) env) (fun _ s' => wpAny (model prog w) A (setFlight (Value.ref e) none) Q E s') E s := by
 have fin : ∀ (h₂ : Heap) (T : Addr) (ts : Array Value), h₂.get? e = some { cls := oe.cls, dict := oe.dict, data := Data.fields (vs.setIfInBounds 1 (Value.ref T)), slots := oe.slots } → h₂.get? T = some { cls := Value.type "traceback", data := Data.fields ts } → ts[3]? = some (rawInt L) → T ≠ e → s.heap.objs.size ≤ T → T ∉ List.filterMap (fun x => x.frame) (env :: outer) →
   (∀ b o, b ≠ e → b ∉ List.filterMap (fun x => x.frame) (env :: outer) → vs[1]? ≠ some (Value.ref b) → s.heap.get? b = some o → h₂.get? b = some o) → (∀ b o, b ∈ List.filterMap (fun x => x.frame) (env :: outer) → s.heap.get? b = some o → ∃ sl, h₂.get? b = some { cls := o.cls, dict := o.dict, data := o.data, slots := sl }) →
   wpAny (model prog w) A (setFlight (Value.ref e) none) Q E { s with heap := h₂ } := fun h₂ T ts g1 g2 g3 g4 g5 g6 g7 g8 => by
  unfold setFlight
  have v1 : (vs.setIfInBounds 1 (Value.ref T))[1]? = some (Value.ref T) := by
   rw [Array.getElem?_setIfInBounds_self_of_lt h1s]
  refine wpAny_bind (wpAny_field g1 rfl v1 (wpAny_ite_true rfl ?_))
  refine wpAny_setField_rec (s := { s with heap := h₂ }) g2 (Array.getElem?_eq_some_iff.mp g3).1 fun h₃ q1 q2 => ?_
  refine hQ h₃ T _ ((q2.2 e (Ne.symm g4)).trans g1) q1 ?_ g4 g5 (fun b o c1 c2 c3 g => ?_) (fun b o c1 g => ?_)
  ·rw [Array.getElem?_setIfInBounds_self_of_lt (Array.getElem?_eq_some_iff.mp g3).1]
   rfl
  ·have hb : b ≠ T := fun z => by
    have := Heap.lt_size g
    rw [z] at this
    exact absurd this (Nat.not_lt.mpr g5)
   exact (q2.2 b hb).trans (g7 b o c1 c2 c3 g)
  ·obtain ⟨sl, q⟩ := g8 b o c1 g
   exact ⟨sl, (q2.2 b fun z => g6 (by rw [← z]; exact c1)).trans q⟩
 unfold noteFrame
 rw [hf]
 have fresh : ∀ {T : Addr}, s.heap.objs.size ≤ T → T ∉ List.filterMap (fun x => x.frame) (env :: outer) := fun {T} hT hm => by
  obtain ⟨_, o, g, _⟩ := hl.mem hm
  exact absurd (Heap.lt_size g) (Nat.not_lt.mpr hT)
 rcases ht with ht | ⟨T0, ts0, ht, hTe, hT0, h30⟩
 ·refine wpAny_bind (wpAny_field he hd ht (wpAny_ite_false rfl ?_))
  exact wU hfr hl hf he hd h1s hen fun h₂ T ts g1 g2 g3 g4 g5 g6 g7 => fin h₂ T ts g1 g2 g3 g4 g5 (fresh g5) (fun b o c1 c2 _ g => g6 b o c1 c2 g) g7
 ·refine wpAny_bind (wpAny_field he hd ht (wpAny_ite_true rfl ?_))
  refine wpAny_bind (wpAny_field hT0 rfl h30 (wpAny_ite_false rfl ?_))
  refine wpAny_bind (wpAny_setField_rec hT0 (Array.getElem?_eq_some_iff.mp h30).1 fun h₁ q1 q2 => ?_)
  have hT0f : T0 ∉ List.filterMap (fun x => x.frame) (env :: outer) := fun hm => by
   obtain ⟨_, o, g, nf⟩ := hl.mem hm
   rw [hT0] at g
   cases g
   exact nf _ rfl
  have hl1 : h₁.FunFrames base (env :: outer) := hl.of_keeps fun b o g nf => ⟨o, (q2.2 b fun z => by rw [z, hT0] at g; cases g; exact nf _ rfl).trans g, rfl⟩
  refine wU (s := { s with heap := h₁ }) hfr hl1 hf ((q2.2 e (Ne.symm hTe)).trans he) hd h1s hen fun h₂ T ts g1 g2 g3 g4 g5 g6 g7 => ?_
  have g5' : s.heap.objs.size ≤ T := by rw [← q2.1]; exact g5
  refine fin h₂ T ts g1 g2 g3 g4 g5' (fresh g5') (fun b o c1 c2 c3 g => g6 b o c1 c2 ((q2.2 b fun z => c3 (by rw [z]; exact ht)).trans g)) fun b o c1 g => ?_
  exact g7 b o c1 ((q2.2 b fun z => hT0f (by rw [← z]; exact c1)).trans g)
theorem Bp {prog : Program} {w : World} {A : Around} {E : Value → Shared → Prop} {s : Shared} {env : Env} {e : Addr} {D : Addr} {t : Expr} {n : Str} {b₀ : Stmt} {suite : List Stmt} {pos : Pos} {rest : List ExceptHandler} {Q : Flow → Shared → Prop}
  (h : wpAny (model prog w) (A.mark (some (.ref e))) (eval t env) (fun c s₁ => c = .ref D ∧ (∀ (Q' : Bool → Shared → Prop) A' E', Q' true s₁ → wpAny (model prog w) A' (excMatches (.ref e) (.ref D)) Q' E' s₁) ∧
   wpAny (model prog w) (A.mark (some (.ref e))) (setFlight (.ref e) none) (fun _ s₂ =>
     wpAny (model prog w) (A.mark (some (.ref e))) (storeName env n (.ref e)) (fun _ s₃ =>
      wpAny (model prog w) (A.mark (some (.ref e))) (execs (b₀ :: suite) env)
       (fun f s₄ => wpAny (model prog w) A (do bindName env n .none; unbindBehindTheSuite env n pos) (fun _ s₅ => Q f s₅) E s₄)
       (AsSuiteRaised (model prog w) (A.mark (some (.ref e))) env n pos (notedBy (model prog w) (A.mark (some (.ref e))) env (cameBackBy (model prog w) A env E))) s₃) (notedBy (model prog w) (A.mark (some (.ref e))) env (cameBackBy (model prog w) A env E)) s₂) (notedBy (model prog w) (A.mark (some (.ref e))) env (cameBackBy (model prog w) A env E)) s₁) (notedBy (model prog w) (A.mark (some (.ref e))) env (cameBackBy (model prog w) A env E)) s) :
  wpAny (model prog w) A (handleBy (.ref e) env (.ExceptHandler (some t) (some n) (b₀ :: suite) pos :: rest)) Q E s := by
 refine wpAny_handleBy_cons (codeAny_handlers_test (wpAny_mono h (fun c s₁ h₁ => ?_) fun _ _ y => y)) (by intro q; cases q)
 obtain ⟨rfl, hm, hk⟩ := h₁
 exact hm _ _ _ (codeAny_handlers_suite_as hk)
def zP (X : Cx) (pins : List (Addr × Obj)) (xe : Value → Shared → Prop) : Cx := { X with xe := xe, pn := X.pn ++ pins }
def Dh (X : Cx) (x : Addr) : Cx := { X with A := X.A.mark (some (.ref x)), calm := false, xe := fun _ _ => False }
section
variable {X : Cx} {pins pins' : List (Addr × Obj)} {σ : St} {H : Hp} {s : Shared} {xe : Value → Shared → Prop} {x : Addr}
theorem QL (I : Inv X pins σ H s) : Inv (zP X pins xe) [] σ H s :=
 ⟨⟨I.ok.mod, I.ok.kind, I.ok.glob, I.ok.blt, I.ok.above, I.ok.inj, I.ok.has, I.ok.cab, I.ok.hd, I.ok.frames, I.ok.stk, I.ok.exf, I.ok.bs, I.ok.bsz, I.ok.noex, I.ok.exfs, I.ok.lG, I.ok.frf⟩, I.os, I.bare, I.base, I.loc, I.cell, I.free, I.freeC,
  fun p hp => I.pin p (by rw [List.append_nil] at hp; exact hp), I.hok, I.len⟩
theorem iI (I : Inv (zP X pins xe) pins' σ H s) : Inv X pins σ H s :=
 ⟨⟨I.ok.mod, I.ok.kind, I.ok.glob, I.ok.blt, I.ok.above, I.ok.inj, I.ok.has, I.ok.cab, I.ok.hd, I.ok.frames, I.ok.stk, I.ok.exf, I.ok.bs, I.ok.bsz, I.ok.noex, I.ok.exfs, I.ok.lG, I.ok.frf⟩, I.os, I.bare, I.base, I.loc, I.cell, I.free, I.freeC,
  fun p hp => I.pin p (List.mem_append_left _ hp), I.hok, I.len⟩
theorem Ky (I : Inv X pins σ H s) : Inv (Dh X x) pins σ H s :=
 ⟨⟨I.ok.mod, I.ok.kind, I.ok.glob, I.ok.blt, I.ok.above, I.ok.inj, I.ok.has, I.ok.cab, fun z => (nomatch z), I.ok.frames, I.ok.stk, I.ok.exf, I.ok.bs, I.ok.bsz, I.ok.noex, I.ok.exfs, I.ok.lG, I.ok.frf⟩, I.os, I.bare, I.base, I.loc, I.cell, I.free, I.freeC, I.pin, I.hok, I.len⟩
theorem jL (ok : X.Ok) (I : Inv (Dh X x) pins σ H s) : Inv X pins σ H s :=
 ⟨ok, I.os, I.bare, I.base, I.loc, I.cell, I.free, I.freeC, I.pin, I.hok, I.len⟩
theorem m8 {D : Ends} {f : Flow} (h : SP (zP X pins xe) [] D f s) : SP X pins D f s := by
 cases f with
 | next => obtain ⟨σ', H', I, q⟩ := h; exact ⟨σ', H', iI I, q⟩
 | brk => obtain ⟨σ', H', I, q⟩ := h; exact ⟨σ', H', iI I, q⟩
 | cont => obtain ⟨σ', H', I, q⟩ := h; exact ⟨σ', H', iI I, q⟩
 | ret u => obtain ⟨v, σ', H', I, r, q⟩ := h; exact ⟨v, σ', H', iI I, r, q⟩
end
def XR (x C : Addr) (dx : Option Addr) : HO := .ext fun h => ∃ vs sl, h.get? x = some { cls := .ref C, dict := dx, data := .fields vs, slots := sl }
def Mv : Option Value → List Addr
 | some (.ref b) => [b]
 | _ => []
theorem Ka {o : Option Value} {b : Addr} (h : b ∈ Mv o) : o = some (.ref b) := by
 unfold Mv at h
 split at h
 ·rw [List.mem_singleton.mp h]
 ·cases h
structure RL (s : Shared) (x T : Addr) (ox : Obj) (vs ts : Array Value) : Prop where
 at_ : s.heap.get? x = some ox
 dat : ox.data = .fields vs
 one : vs[1]? = some (.ref T)
 ent : s.heap.get? T = some { cls := .type "traceback", data := .fields ts }
 fl : ts[3]? = some .none
 ne : T ≠ x
section
variable {X : Cx} {pins : List (Addr × Obj)} {σ : St} {H1 H2 : Hp} {s1 s2 : Shared} {x C : Addr} {ox : Obj} {vs : Array Value}
theorem Lp {E : Value → Shared → Prop} {Q : Unit → Shared → Prop} (hstk : X.stack = X.env :: X.outer ∧ X.env.frame = some X.env.locals) (I1 : Inv X pins σ H1 s1) (L : Lies s1 s2 H2 x ox vs) (hc : ox.cls = .ref C)
  (hos : s2.os = s1.os) (hg : AllBare s2.gens) (un : Un (frs X.stack) [] H1 H2 s1.heap s2.heap) (hok : HOk X.prog X.w H2 s2.heap)
  (hQ : ∀ s3 T ox3 vs3 ts, Inv X pins σ (upd H2 x (XR x C ox.dict)) s3 → RL s3 x T ox3 vs3 ts → Q () s3) :
  wpAny (model X.prog X.w) X.A (noteFrame (.ref x) X.env) (fun _ s' => wpAny (model X.prog X.w) X.A (setFlight (.ref x) none) Q E s') E s2 := by
 have I2 : Inv X pins σ H2 s2 := I1.call' (ch := []) hos un hok hg (fun b z => absurd z (by simp))
 have hfree := I2.qP
 have hst := I2.stack
 have hfrm := I2.ok.frames
 have hold : ∀ b o, s1.heap.get? b = some o → b ≠ x := fun b o g z => by
  have h1 := Heap.lt_size g
  have h2 := L.new
  rw [z] at h1
  exact absurd (Nat.lt_of_lt_of_le h1 h2) (Nat.lt_irrefl _)
 have hen : x ∉ frs X.stack := fun hm => by
  obtain ⟨_, o, g, _⟩ := I1.stack.mem hm
  exact hold x o g rfl
 rw [hstk.1] at hen hst hfrm
 have hT0 : ∀ b, vs[1]? = some (Value.ref b) → s1.heap.objs.size ≤ b ∧ H2 b = none := fun b hb => by
  rcases L.tb with z | ⟨T0, _, z, _, _, _, z5, z6⟩
  ·rw [z] at hb; cases hb
  ·rw [z] at hb; cases hb; exact ⟨z5, z6⟩
 refine Qt (base := X.base) (outer := X.outer) (L := X.env.locals) hfrm hst hstk.2 L.at_ L.dat L.siz hen ?_ ?_
 ·rcases L.tb with z | ⟨T, ts, z1, z2, z3, z4, _, _⟩
  ·exact .inl z
  ·exact .inr ⟨T, ts, z1, z2, z3, z4⟩
 ·intro h' T ts g1 g2 g3 g4 g5 g6 g7
  let chs : List Addr := x :: Mv vs[1]?
  have hchs : ∀ b ∈ chs, b = x ∨ vs[1]? = some (.ref b) := fun b hb => by
   rcases List.mem_cons.mp hb with z | z
   ·exact .inl z
   ·exact .inr (Ka z)
  have hch2 : ∀ b, vs[1]? = some (.ref b) → b ∈ chs := fun b hb => by
   show b ∈ x :: Mv vs[1]?
   rw [hb]
   exact List.mem_cons_of_mem _ (List.mem_singleton.mpr rfl)
  have hnew : ∀ b ∈ chs, s1.heap.objs.size ≤ b := fun b hb => by
   rcases hchs b hb with z | z
   ·rw [z]; exact L.new
   ·exact (hT0 b z).1
  have hno : ∀ b ∈ chs, ∀ c o, s1.heap.get? c = some o → c ≠ b := fun b hb c o g z => by
   have h1 := Heap.lt_size g
   rw [z] at h1
   exact absurd (Nat.lt_of_lt_of_le h1 (hnew b hb)) (Nat.lt_irrefl _)
  have hfr2 : ∀ b, b ∉ frs X.stack → b ∉ List.filterMap (fun x => x.frame) (X.env :: X.outer) := fun b hb => by
   rw [hstk.1] at hb
   exact hb
  have hfr3 : ∀ b, b ∈ frs X.stack → b ∈ List.filterMap (fun x => x.frame) (X.env :: X.outer) := fun b hb => by
   rw [hstk.1] at hb
   exact hb
  have u3 : Un (frs X.stack) chs H2 (upd H2 x (XR x C ox.dict)) s2.heap h' := by
   refine ⟨fun b o g n hf hx => ?_, fun b o g n hf hx => ?_, fun b o g n hx => ?_, fun b o g hx => ?_, fun b xs e => ?_, fun b o u e => ?_, fun b ps e => ⟨#[], ?_⟩⟩
   ·exact g6 b o (fun z => hx (by rw [z]; exact List.mem_cons_self)) (hfr2 b hf) (fun z => hx (hch2 b z)) g
   ·exact g7 b o (hfr3 b hf) g
   ·rw [aG (fun z => hx (by rw [z]; exact List.mem_cons_self)), n]
   ·by_cases hm : b ∈ frs X.stack
    ·obtain ⟨sl, g''⟩ := g7 b o (hfr3 b hm) g
     exact ⟨_, g''⟩
    ·exact ⟨_, g6 b o (fun z => hx (by rw [z]; exact List.mem_cons_self)) (hfr2 b hm) (fun z => hx (hch2 b z)) g⟩
   ·rw [aG (fun z => by rw [z, L.fre] at e; cases e), e]
   ·rw [aG (fun z => by rw [z, L.fre] at e; cases e), e]
   ·rw [aG (fun z => by rw [z, L.fre] at e; cases e), e, Array.append_empty]
  have hok3 : HOk X.prog X.w (upd H2 x (XR x C ox.dict)) h' := by
   intro a o ha
   by_cases z : a = x
   ·subst z
    rw [aB] at ha
    cases ha
    rw [hc] at g1
    exact ⟨⟨_, _, g1⟩, ⟨_, g1⟩, fun h1 h2 ⟨v, sl, z⟩ z2 => ⟨v, sl, z2 _ z⟩⟩
   ·rw [aG z] at ha
    refine (I2.hok a o ha).stay (fun b u hb gb => ?_) (fun b hb => by rw [aG (fun z => by rw [z, L.fre] at hb; cases hb), hb]) fun b xs hb => by rw [aG (fun z => by rw [z, L.fre] at hb; cases hb), hb]
    have hb' : H2 b ≠ none := by
     rcases hb with rfl | hb
     ·rw [ha]; exact fun z => nomatch z
     ·rw [hb]; exact fun z => nomatch z
    exact g6 b u (fun z => hb' (by rw [z]; exact L.fre)) (fun z => hb' (hfree b (by rw [hstk.1]; exact z))) (fun z => hb' (hT0 b z).2) gb
  have I3 : Inv X pins σ (upd H2 x (XR x C ox.dict)) { s2 with heap := h' } := by
   refine I2.call (g' := s2.gens) (t' := s2.toks) (d' := s2.drawn) (ch := chs) u3 hok3 hg fun b hb => ⟨.inr (Nat.le_trans I1.sz (hnew b hb)), fun z => ?_, fun y c e z => ?_, fun p hp z => ?_⟩
   ·obtain ⟨m, ⟨o, _, _, ho, _⟩, _⟩ := I1.loc
    exact hno b hb _ o ho z.symm
   ·obtain ⟨v, o, ho, _⟩ := I1.cell y c e
    exact hno b hb c o ho z
   ·obtain ⟨e, _⟩ := I1.pin p hp
    exact hno b hb p.1 p.2 e z
  exact hQ _ T _ _ ts I3 ⟨g1, rfl, by rw [Array.getElem?_setIfInBounds_self_of_lt L.siz], g2, g3, g4⟩
theorem set_same {ts : Array Value} {i : Nat} {v : Value} (h : ts[i]? = some v) : ts.setIfInBounds i v = ts := by
 apply Array.ext_getElem?
 intro j
 rw [Array.getElem?_setIfInBounds]
 split
 ·rename_i z
  subst z
  split
  ·exact h.symm
  ·rename_i z
   have := (Array.getElem?_eq_some_iff.mp h).1
   exact absurd this z
 ·rfl
theorem K6 {prog : Program} {w : World} {A : Around} {E : Value → Shared → Prop} {Q : Unit → Shared → Prop} {H : Hp} {s : Shared} {T : Addr} {ts : Array Value} (I : Inv X pins σ H s) (n : RL s x T ox vs ts) (hQ : ∀ s', Inv X pins σ H s' → Q () s') : wpAny (model prog w) A (setFlight (.ref x) none) Q E s := by
 unfold setFlight
 refine wpAny_bind (wpAny_field n.at_ n.dat n.one (wpAny_ite_true rfl ?_))
 refine wpAny_setField_rec n.ent (Array.getElem?_eq_some_iff.mp n.fl).1 fun h₃ q1 q2 => ?_
 refine hQ _ (I.kept (t' := s.toks) fun b u g => ?_)
 by_cases z : b = T
 ·subst z
  rw [n.ent] at g
  cases g
  rw [q1]
  exact congrArg (fun a => some ({ cls := Value.type "traceback", data := Data.fields a } : Obj)) (set_same n.fl)
 ·exact (q2.2 b z).trans g
end
section
variable {X : Cx} {C D N fI ND : Addr} {dn n : Str} {i : Nat} {body suite : List Stmt} {b₀ : Stmt} {np hpos pos : Pos} {tb : XK → TS} {ts : TS}
def xH (i : Nat) (Dn : Ends) : Ends := { nx := fun σ H => Dn.nx (σ.set i none) H, rt := Dn.rt, bk := fun σ H => Dn.bk (σ.set i none) H, ct := fun σ H => Dn.ct (σ.set i none) H }
def Rv (C : Addr) (len i : Nat) (ts : TS) (Dn : Ends) : XK := fun c dx H' => c = .ref C ∧ ∀ (x : Addr) (σ' : St), σ'.length = len → H' x = none → ts (xH i Dn) (σ'.set i (some (.ref x))) (upd H' x (XR x C dx))
def R8 (C : Addr) (len i : Nat) (tb : XK → TS) (ts : TS) : TS := fun Dn σ H => tb (Rv C len i ts Dn) Dn σ H
structure Rq (K : PySem.W.Frag) (D ND : Addr) : Prop where
 obj : ∃ nm q bs hd sn sub ab col dd k0 k1 k2 k3 k5 nid, K.lookup D = some (excClassObj nm q D ND bs vbm hd sn sub ab col dd k0 k1 k2 k3 k5 nid)
theorem Tz (hstk : X.stack = X.env :: X.outer ∧ X.env.frame = some X.env.locals) (hN : X.N.Nodup) (hi : X.N[i]? = some n) (hk : X.env.scope.names.lookup n = some .local) (hg : Gl X dn) (hm : X.mg dn = some (.ref D)) (XD : Rq X.K D ND) (XC : lX X.K C D N fI)
  (hbody : ∀ (E1 : XK) (xe : Value → Shared → Prop) (pins : List (Addr × Obj)), m5 (CX1 X.prog X.w) (zP X pins xe) E1 → PSs (zP X pins xe) body (tb E1)) (hsuite : ∀ x, PSs (Dh X x) (b₀ :: suite) ts) (hdb : (dn == ("__debug__" : Str)) = false := by decide) :
  PS X (.Try body [.ExceptHandler (some (.Name dn np)) (some n) (b₀ :: suite) hpos] [] [] pos) (R8 C X.N.length i tb ts) := by
 intro pins s σ H Dn I h
 obtain ⟨nm, q', bs, sn, sub, ab, col, dd, k0, k1, k2, k3, k5, hC⟩ := XC.obj
 obtain ⟨nmD, qD, bsD, hdD, snD, subD, abD, colD, ddD, j0, j1, j2, j3, j5, nid, hD⟩ := XD.obj
 refine wpAny_Try_except ?_
 have hb := hbody (Rv C X.N.length i ts Dn) (fun e s₁ => wpAny (model X.prog X.w) X.A (noteFrame e X.env) (fun _ s₂ => wpAny (model X.prog X.w) X.A (setFlight e none) (fun _ s₃ => wpAny (model X.prog X.w) X.A (handleBy e X.env [.ExceptHandler (some (.Name dn np)) (some n) (b₀ :: suite) hpos]) (SP X pins Dn) X.xe s₃) X.xe s₂) X.xe s₁) pins ?_ [] s σ H Dn (QL I) h
 ·refine wpAny_mono hb (fun f s' hs => ?_) (fun e s' hs => hs)
  cases f with
  | next => exact wpAny_pure (m8 hs)
  | brk => exact m8 hs
  | cont => exact m8 hs
  | ret u => exact m8 hs
 ·intro pins' σ' H1 s1 e s2 I1 ⟨x, ox, vs, H2, he, L, hos, hgn, un, hok, hc, hts⟩
  subst he
  show wpAny (model X.prog X.w) X.A (noteFrame (.ref x) X.env) _ _ s2
  refine Lp hstk (iI I1) L hc hos hgn un hok fun s3 T ox3 vs3 tts I3 n3 => ?_
  refine Bp (D := D) ?_
  refine Calls.Name_function_global I3.ok.kind hg (Calls.loadGlobal_global (by rw [I3.ok.glob]; exact I3.mod.glob.keeps I3.bk) hm ⟨rfl, fun Q' A' E' q => ?_, ?_⟩) hdb
  ·obtain ⟨vx, sx, hx⟩ := (show ∃ vs sl, _ from (I3.hok x _ aB).1)
   obtain ⟨hh, g, d, tk, os⟩ := s3
   exact Q7 (I3.kIn _ _ hC) (I3.kIn _ _ hD) hx rfl rfl (by rw [List.contains_cons, beq_self_eq_true, Bool.true_or]) q
  ·refine K6 I3 n3 fun s4 I4 => j7 I4 hN hi (.inl hk) (show RelV (.ref x) (.ref x) from rfl) (fun s5 I5 => ?_) (.inr hk)
   have hs5 := hsuite x pins s5 _ _ (xH i Dn) (Ky I5) (hts x σ' (iI I1).len L.fre)
   refine wpAny_mono hs5 (fun f s6 hs => ?_) (fun e s6 z => z.elim)
   cases f with
   | next =>
    obtain ⟨σ6, H6, I6, q6⟩ := hs
    exact rm (jL I5.ok I6) hN hi hk fun s7 I7 => ⟨_, _, I7, q6⟩
   | brk =>
    obtain ⟨σ6, H6, I6, q6⟩ := hs
    exact rm (jL I5.ok I6) hN hi hk fun s7 I7 => ⟨_, _, I7, q6⟩
   | cont =>
    obtain ⟨σ6, H6, I6, q6⟩ := hs
    exact rm (jL I5.ok I6) hN hi hk fun s7 I7 => ⟨_, _, I7, q6⟩
   | ret u =>
    obtain ⟨v, σ6, H6, I6, r6, q6⟩ := hs
    exact rm (jL I5.ok I6) hN hi hk fun s7 I7 => ⟨v, _, _, I7, r6, q6⟩
end
open PySem.W (Frag clsIn findIn takerIn InstAt looks_clsIn looks_findIn looks_takesIn looks_specialIn specialIn takesIn Looks check_slot looks_mroIn mroIn handedIn handedOut_of class_get KitX)
structure XIs (K : Frag) (C : Addr) : Prop where
 ga : findIn K (.ref C) "__getattribute__" = some (some (.builtin "BaseException.__getattribute__"))
 gk : findIn K (.ref C) "__getattr__" = some none
 ha : findIn K (.ref C) "__class__" = some (some (.builtin "object.__class__"))
 hn : specialIn K (.builtin "object.__class__") "__get__" = some (some (.builtin "getset_descriptor.__get__"))
 htk : takesIn K (.builtin "object.__class__") = some true
 hm : mroIn K C (.type "object") = some true
 hb : mroIn K C (.type "BaseException") = some true
 cl : (clsIn K C).isSome = true
section
variable {prog : Program} {w : World} {A : Around} {E : Value → Shared → Prop} {s : Shared} {K : Frag} {x C : Addr} {ox : Obj} {od : Option Obj}
theorem Rh {Q : Option Value → Shared → Prop} (Z : XIs K C) (X : K.In s.heap) (I : InstAt s.heap x ox C od) (hq : Q (some (.ref C)) { s with toks := s.toks + 1 }) :
  wpAny (model prog w) A (getAttr? (.ref x) "__class__") Q E s := by
 have IT : Looks (model prog w) s.heap (typeOf (.ref x)) (.ref C) := I.type
 have L1 : Looks (model prog w) s.heap (typeLookup (.ref C) "__getattribute__") (some (.builtin "BaseException.__getattribute__")) := looks_findIn X Z.ga
 have LK : Looks (model prog w) s.heap (typeLookup (.ref C) "__getattr__") none := looks_findIn X Z.gk
 have LF : Looks (model prog w) s.heap (typeLookup (.ref C) "__class__") (some (.builtin "object.__class__")) := looks_findIn X Z.ha
 have LN : Looks (model prog w) s.heap (specialOf (.builtin "object.__class__") "__get__") (some (.builtin "getset_descriptor.__get__")) := looks_specialIn X Z.hn
 have LT : Looks (model prog w) s.heap (takesStores (.builtin "object.__class__")) true := looks_takesIn X Z.htk
 have sub : Looks (model prog w) s.heap (isInstance (.ref x) (.type "BaseException")) true := IT.andThen (looks_mroIn X Z.hb)
 have FB := PySem.F.attrBase_ValueError
 unfold getAttr? getAttrBy?
 refine wpAny_bind (wpAny_mkText (wpAny_bind (wpAny_attempt ?_)))
 unfold getAttrBy
 refine wpAny_holding (wpAny_bind (IT _ _ _ _ (fun _ _ e => e) (wpAny_bind (L1 _ _ _ _ (fun _ _ e => e) ?_))))
 dsimp only
 have hx2 : (Value.builtin "BaseException.__getattribute__" == Value.builtin "object.__getattribute__") = false := by decide +kernel
 rw [show (onTheHeap (Value.ref C) && Value.builtin "BaseException.__getattribute__" == Value.builtin "object.__getattribute__") = false from by rw [hx2]; rfl, if_neg (by decide)]
 unfold getAttrByItsOwn
 have HB : Looks (model prog w) s.heap (hookBefore (.ref C)) none := by
  unfold hookBefore
  rw [if_pos (show onTheHeap (Value.ref C) = true from rfl)]
  exact LK
 refine wpAny_bind (HB _ _ _ _ (fun _ _ e => e) (wpAny_bind (wpAny_attempt (wpAny_holding ?_))))
 unfold callGetattribute
 rw [show (false && onTheHeap (Value.builtin "BaseException.__getattribute__")) = false from rfl, if_neg (by decide)]
 unfold boundAndCalled
 rw [FB.ga.bind]
 refine wpAny_bind (wpAny_pure ?_)
 show wpAny _ _ (call (.builtin "BaseException.__getattribute__") [.ref x, .str "__class__" s.toks]) _ _ _
 refine wpAny_call ?_
 refine codeAny_call_builtin FB.ga.plain F.entry_bexc_ga ?_
 refine @check_slot (model prog w) _ _ { s with toks := s.toks + 1 } "BaseException.__getattribute__" "BaseException" "__getattribute__" (.ref x) [.str "__class__" s.toks] [] _ (by decide +kernel) (by decide +kernel) sub (F.args_bexc_ga (.ref x) (.str "__class__" s.toks)) ?_
 unfold Builtin.«object.__getattribute__»
 have LD : Looks (model prog w) s.heap (dataDescriptor? (some (.builtin "object.__class__")) (some (.builtin "getset_descriptor.__get__"))) (some (.builtin "getset_descriptor.__get__", .builtin "object.__class__")) := LT.andThen .now
 have LV : Looks (model prog w) s.heap (find (.ref x) (.ref C) "__class__") (.bind (.builtin "getset_descriptor.__get__") (.builtin "object.__class__")) := by
  refine LF.andThen (LN.andThen (LD.andThen ?_))
  exact Looks.tag .now
 refine wpAny_bind (wpAny_pure (wpAny_bind (wpAny_pure (wpAny_bind (IT _ _ _ _ (fun _ _ e => e) (wpAny_bind (LV _ _ _ _ (fun _ _ e => e) ?_)))))))
 show wpAny _ _ (holding [.builtin "object.__class__"] (call (.builtin "getset_descriptor.__get__") [.builtin "object.__class__", .ref x, .ref C]) >>= ret) _ _ _
 refine wpAny_bind (wpAny_holding (wpAny_call (class_get (s := { s with toks := s.toks + 1 }) X I Z.hm ?_)))
 refine wpAny_pure ?_
 show wpAny _ _ (handedOut (.ref C)) _ _ _
 rw [handedOut_of (show handedIn (.ref C) = true from rfl)]
 exact wpAny_pure (wpAny_pure hq)
theorem Kh (Z : XIs K C) : KitX K (.ref x) (.ref C) (fun h => ∃ ox od, InstAt h x ox C od) where
 ty := fun _ _ _ ⟨_, _, I⟩ => I.type
 it := fun _ _ X _ => by
  have hcD := Z.cl
  unfold clsIn at hcD
  split at hcD
  ·rename_i c' d' cd' sl' ho
   intro A' Q' E' s' k q
   unfold isType loadHead
   exact wpAny_bind (wpAny_loadPart (k _ _ (X _ _ ho)) (wpAny_pure q))
  ·cases hcD
 ne := fun h tp dd its n sl X htp => by
  have hcD := Z.cl
  refine Bool.eq_false_iff.mpr fun q => ?_
  have e : C = tp := Value.ref.inj (beq_iff_eq.mp q)
  subst e
  unfold clsIn at hcD
  split at hcD
  ·rename_i c' d' cd' sl' ho
   have z := (X _ _ ho).symm.trans htp
   cases z
  ·cases hcD
 ca := fun X ⟨_, _, I⟩ k => Rh Z X I k
end
section
variable {X : Cx} {pins : List (Addr × Obj)} {σ : St} {H : Hp} {s : Shared} {A : Around} {E : Value → Shared → Prop} {Q : Value → Shared → Prop} {c : Value} {b : Bool} {x C dx : Addr} {fs : List (Str × V)}
theorem QV (I : Inv X pins σ H s) (hx : H x = some (XR x C (some dx))) (hd : H dx = some (.xd fs)) : ∃ ox od, InstAt s.heap x ox C od := by
 obtain ⟨vs, sl, h1⟩ := (show ∃ vs sl, _ from (I.hok x _ hx).1)
 obtain ⟨mA, ⟨od, es, ep, h2, _⟩, _⟩ := (show cj X.prog X.w H s.heap dx (.xd fs) from I.hok dx _ hd)
 exact ⟨_, some od, h1, rfl, rfl, h2⟩
theorem Kw (Z : XIs X.K C) (I : Inv X pins σ H s) (hx : H x = some (XR x C (some dx))) (hd : H dx = some (.xd fs)) (e : PySem.W.kitOne X.K (.ref C) c = some b) (h : ∀ tk, Q (.bool b) { s with toks := tk }) :
  wpAny (model X.prog X.w) A (call (.builtin "isinstance") [.ref x, c]) Q E s :=
 PySem.W.kia_one (Kh Z) I.kIn (QV I hx hd) e (fun z => nomatch z) h
theorem Bq : ∀ {y : V} {u : Value}, RelV y u → handedIn u = true
 | .non, _, r => by rw [show _ = Value.none from r]; rfl
 | .bl _, _, r => by rw [show _ = Value.bool _ from r]; rfl
 | .int _, _, ⟨_, r⟩ => by rw [r]; rfl
 | .str _, _, ⟨_, r⟩ => by rw [r]; rfl
 | .byt _, _, ⟨_, r⟩ => by rw [r]; rfl
 | .flt _, _, ⟨_, r⟩ => by rw [r]; rfl
 | .ref _, _, r => by rw [show _ = Value.ref _ from r]; rfl
 | .ty _, _, r => by rw [show _ = Value.type _ from r]; rfl
variable {D N fI : Addr} {e : Expr} {f : Str} {pos : Pos} {ta : TE}
def Hv (K : PySem.W.Frag) (C : Addr) (ta : TE) (f : Str) : TE := fun σ H Q => ta σ H fun v H1 => ∃ x dx fs y, v = .ref x ∧ H1 x = some (XR x C (some dx)) ∧ H1 dx = some (.xd fs) ∧ fs.lookup f = some y ∧ findIn K (.ref C) f = some none ∧ Q y H1
theorem Pj (XC : lX X.K C D N fI) (he : PE X e ta) (hb : attributeBase e f X.env (eval e X.env) = eval e X.env) : PE X (.Attribute e f pos) (Hv X.K C ta f) := by
 intro pins s σ H Q I h
 refine Rp hb (thn (he pins s σ H _ I h) fun u s1 ⟨v, H1, I1, rv, x, dx, fs, y, ev, hx, hd, hf, hno, q⟩ => ?_)
 subst ev
 obtain rfl : u = Value.ref x := rv
 obtain ⟨cd, c1, c2, c3⟩ := XC.cls
 obtain ⟨vs, sl, h1⟩ := (show ∃ vs sl, _ from (I1.hok x _ hx).1)
 obtain ⟨mA, h2, h3⟩ := (show cj X.prog X.w H1 s1.heap dx (.xd fs) from I1.hok dx _ hd)
 have h4 := h3 f
 rw [hf] at h4
 cases hm : mA f with
 | none => rw [hm] at h4; exact h4.elim
 | some uy =>
  rw [hm] at h4
  obtain ⟨hp, g, d, tk, os⟩ := s1
  exact Wq I1.kIn c1 c2 c3 XC.ga XC.gk hno h1 rfl rfl rfl h2.ns hm (Bq h4) ⟨y, H1, I1.tok (tk + 1), h4, q⟩
end
structure Ru (P : Program) (w : World) (K : PySem.W.Frag) (mg : Str → Option Value) (base : Heap) (x : Str) (k : Nat) (ps : List Str) (sp : Sp) : Prop where
 ex : ∃ (f : Addr) (fd : FuncData), dH P w K mg base (CX1 P w) k f fd ps sp ∧ Binds K fd ps [] ∧ PySem.W.keepIn K (.ref f) = true ∧ mg x = some (.ref f)
structure Vq (P : Program) (w : World) (K : PySem.W.Frag) (mg : Str → Option Value) (base : Heap) (x : Str) (C D : Addr) (k : Nat) (ps : List Str) (sp : Sp) : Prop where
 ex : ∃ (N fI : Addr) (fd : FuncData), lX K C D N fI ∧ dH P w K mg base CX0 k fI fd ps sp ∧ Binds K fd ps [] ∧ (∃ oI, K.lookup fI = some oI ∧ oI.cls = .type "function") ∧ mg x = some (.ref C)
section
variable {P : Program} {w : World} {K : PySem.W.Frag} {mg : Str → Option Value} {base : Heap}
theorem Fun.WX {x qual : Str} {st : Stmt} {f : Addr} {fd : FuncData} {N ps : List Str} {k : Nat} {sp : Sp} (F : Fun K x qual st f fd) (S : bI N ps (ak st)) (len : ∀ vs H Q E, sp vs H Q E → vs.length = ps.length)
  (hbody : ∀ (cdv : Value) (A : Around) (outer : List Env) (s : Shared) (H : Hp) (vs : List V) (Q : VK) (E : XK), fB k (A.deeper (envOfC qual (ak st) s.heap.objs.size f cdv)) → sp vs H Q E →
   ∃ t, QB (uM (CX1 P w) P w K mg base N qual (ak st) f cdv A outer s H E) (bx st) t ∧ t { nx := fun _ H' => Q .non H', rt := Q } (L2.start N vs) H) : dH P w K mg base (CX1 P w) (k + 1) f fd ps sp := by
 obtain ⟨oc, od, kV, doc, pm, an, cdv, ct, osl, rfl, lk, hcd⟩ := F.ex
 refine RJ lk hcd S len fun A outer s H vs Q E hr hsp => ?_
 obtain ⟨t, h, q⟩ := hbody cdv A outer s H vs Q E hr hsp
 exact ⟨t, h.h, q⟩
theorem gP.W9 {x : Str} {st : Stmt} {ps : List Str} {f : Addr} {fd : FuncData} {k : Nat} {sp : Sp} (D : gP K mg x st ps f fd) (F : dH P w K mg base (CX1 P w) k f fd ps sp) : Ru P w K mg base x k ps sp :=
 ⟨f, fd, F, D.bd, D.fn.kp, D.nm⟩
end
section
variable {X : Cx} {k : Nat} {ps : List Str} {sp : Sp} {x f : Str} {p np apos cpos pos pos' : Pos} {e o value : Expr} {es : List Expr} {t : TA} {E : XK} {C D N fI : Addr} {te ta tv : TE}
theorem Ou (c : Ru X.prog X.w X.K X.mg X.base x k ps sp) (hr : fB k X.A) (hg : Gl X x) (hx : m5 (CX1 X.prog X.w) X E) (ha : QA X (e :: es) t) (hdb : (x == ("__debug__" : Str)) = false := by decide)
  (he : starEach (e :: es) X.env = (false, eval e X.env) :: starEach es X.env := by rfl) (hpl : (backTo pos (starEach es X.env)).any (·.1) = false := by rfl) : QE X (.Call (.Name x p) (e :: es) [] pos) (rK sp [] E t) := by
 obtain ⟨f, fd, F, b, kp, hm⟩ := c.ex
 exact ⟨CV F hr hg hm kp b .nil hx ha.h hdb he hpl⟩
theorem Ju (c : Vq X.prog X.w X.K X.mg X.base x C D k ps sp) (hr : fB (k + 1) X.A) (hg : Gl X x) (hcalm : X.calm = true) (ho : Vp X E) (ha : QA X (e :: es) t) (hdb : (x == ("__debug__" : Str)) = false := by decide)
  (hst : starEach (e :: es) X.env = (false, eval e X.env) :: starEach es X.env := by rfl) (hpl : (backTo cpos (starEach es X.env)).any (·.1) = false := by rfl) :
  QS X (.Raise (some (.Call (.Name x np) (e :: es) [] cpos)) none pos) (zQ C sp E t) := by
 obtain ⟨N, fI, fd, XC, F, b, hf, hm⟩ := c.ex
 exact ⟨Fl XC F hr b hf hcalm ho hg hm ha.h hdb hst hpl⟩
theorem Jy {pl : Sem Bool} (XC : lX X.K C D N fI) (XD : XBase X.K D) (hg : Gl X x) (hm : X.mg x = some (.ref D)) (ha : QA X (e :: es) t) (hdb : (x == ("__debug__" : Str)) = false := by decide)
  (hst : starEach (e :: es) X.env = (false, eval e X.env) :: starEach es X.env := by rfl) (hpl : (backTo cpos (starEach es X.env)).any (·.1) = false := by rfl)
  (ht : eval (.Call (.Attribute (.Name x np) "__init__" apos) (e :: es) [] cpos) X.env = (do
   let ov ← eval (.Name x np) X.env
   standAt apos.atName
   let (f, first) ← holding [ov] (getMethod ov "__init__" pl)
   callWith cpos f first (backTo cpos (starEach (e :: es) X.env)) (backToKw cpos (keywordEach [] X.env))) := by rfl) :
  QE X (.Call (.Attribute (.Name x np) "__init__" apos) (e :: es) [] cpos) (tBI C t) := ⟨JS XC XD hg hm ha.h hdb hst hpl ht⟩
theorem Ol (XC : lX X.K C D N fI) (ha : QE X o ta) (hv : QE X value tv) (hs : swapsWith value (some (.Attribute o f pos')) pos.line X.env = pure false := by rfl) : QS X (.Assign [.Attribute o f pos'] value pos) (Ip X.K C ta tv f) := ⟨O2 XC ha.h hv.h hs⟩
theorem nO (XC : lX X.K C D N fI) (he : QE X e ta) (hb : attributeBase e f X.env (eval e X.env) = eval e X.env := by rfl) : QE X (.Attribute e f pos) (Hv X.K C ta f) := ⟨Pj XC he.h hb⟩
theorem Fj {v₁ v₂ : Expr} {rest : List Expr} {tj : TJ} (h : PJ X (v₁ :: v₂ :: rest) tj) (hl : (v₁ :: v₂ :: rest).length ≤ 100 := by decide) : QE X (.JoinedStr (v₁ :: v₂ :: rest) pos) (fun σ H Q => tj σ H fun H1 => ∀ x, Q (.str x) H1) := ⟨Fq h hl⟩
theorem Tj {dn n : Str} {i : Nat} {ND : Addr} {body suite : List Stmt} {b₀ : Stmt} {hpos : Pos} {tb : XK → TS} {ts : TS} (hstk : X.stack = X.env :: X.outer ∧ X.env.frame = some X.env.locals) (hN : X.N.Nodup) (hi : X.N[i]? = some n) (hk : X.env.scope.names.lookup n = some .local) (hg : Gl X dn) (hm : X.mg dn = some (.ref D)) (XD : Rq X.K D ND) (XC : lX X.K C D N fI)
  (hbody : ∀ (E1 : XK) (xe : Value → Shared → Prop) (pins : List (Addr × Obj)), m5 (CX1 X.prog X.w) (zP X pins xe) E1 → QB (zP X pins xe) body (tb E1)) (hsuite : ∀ x, QB (Dh X x) (b₀ :: suite) ts) (hdb : (dn == ("__debug__" : Str)) = false := by decide) :
  QS X (.Try body [.ExceptHandler (some (.Name dn np)) (some n) (b₀ :: suite) hpos] [] [] pos) (R8 C X.N.length i tb ts) :=
 ⟨Tz hstk hN hi hk hg hm XD XC (fun E1 xe pins hp => (hbody E1 xe pins hp).h) (fun x => (hsuite x).h) hdb⟩
def VJ (K : PySem.W.Frag) : List V → Hp → VK → Prop := fun xs H Q => ∃ x c C dx fs b, xs = [.ref x, c] ∧ H x = some (XR x C (some dx)) ∧ H dx = some (.xd fs) ∧ XIs K C ∧ (∀ u, RelV c u → PySem.W.kitOne K (.ref C) u = some b) ∧ Q (.bl b) H
theorem jA : cO X (.builtin "isinstance") (VJ X.K) := by
 intro pins s σ H xs us Q I r h
 obtain ⟨x, c, C, dx, fs, b, rfl, hx, hd, Z, hk, q⟩ := h
 obtain ⟨u, v, rfl, r1, r2⟩ := Vals.two r
 obtain rfl : u = Value.ref x := r1
 exact Kw Z I hx hd (hk v r2) fun tk => ⟨.bl b, H, I.tok tk, rfl, q⟩
end
section
variable {X : Cx} {k : Nat} {ps : List Str} {sp : Sp} {x : Str} {p pos : Pos} {e : Expr} {es : List Expr} {t : TA} {E : XK}
theorem Tp (c : Ru X.prog X.w X.K X.mg X.base x k ps sp) (hr : fB k X.A) (hg : Gl X x) (b : Bn x) (hx : m5 (CX1 X.prog X.w) X E) (ha : QA X (e :: es) t)
  (he : starEach (e :: es) X.env = (false, eval e X.env) :: starEach es X.env := by rfl) (hpl : (backTo pos (starEach es X.env)).any (·.1) = false := by rfl) : QE X (.Call (.Name x p) (e :: es) [] pos) (rK sp [] E t) := Ou c hr hg hx ha b.hd he hpl
end
def qQ (C : Addr) (fld : Str) : Sp := fun vs H Q _ => ∃ (a : Addr) (j : Int), vs = [.ref a, .int j] ∧ (-(2 ^ 70) < j ∧ j < 2 ^ 70) ∧ H a = some (XO a C none) ∧
 ∀ dx, H dx = none → dx ≠ a → Q .non (upd (upd H dx (.xd [(fld, .int j)])) a (XO a C (some dx)))
theorem Am {H H1 : Hp} {E : XK} {C : Addr} {j : Int} {fld : Str} (hb : -(2 ^ 70) < j ∧ j < 2 ^ 70) (s1 : Same H H1) (qx : ∀ dx H', Same H H' → H' dx = some (.xd [(fld, .int j)]) → E (.ref C) (some dx) H') :
  1 ≤ 1000 ∧ ∀ a, H1 a = none → qQ C fld [.ref a, .int j] (upd H1 a (XO a C none)) (fun v H2 => v = .non ∧ ∃ dx, H2 a = some (XO a C (some dx)) ∧ E (.ref C) (some dx) (unt H2 a)) E0 := by
 refine ⟨by decide, fun a ha => ⟨a, j, rfl, hb, aB, fun dx hdx hne => ⟨rfl, dx, aB, qx dx _ (fun b o e => ?_) ?_⟩⟩⟩
 ·have e1 := s1 _ _ e
  have n1 : b ≠ a := fun z => by rw [z, ha] at e1; cases e1
  have n2 : b ≠ dx := fun z => by rw [aG hne] at hdx; rw [z, hdx] at e1; cases e1
  rw [vZ n1, aG n1, aG n2, aG n1, e1]
 ·rw [vZ hne, aG hne, aB]
section
variable {X : Cx} {e o : Expr} {te to : TE} {pos : Pos}
def W8 (xs : List V) (y : V) (n : Nat) : Prop := ∃ (bl : List Bool) (b : Bool), xs = bl.map V.bl ∧ y = .bl b ∧ n = bl.count b
def Rw (K : PySem.W.Frag) (to te : TE) : TE := fun σ H Q => to σ H fun x H1 => ∃ (p : Addr), x = .ref p ∧ (∃ xs, SqL K H1 p xs) ∧ te σ H1 fun y H2 => ∃ (xs : List V) (n : Nat), SqL K H2 p xs ∧ W8 xs y n ∧ Q (.int (n : Nat)) H2
def isB (w : Bool) : Value → Bool
 | .bool z => z == w
 | _ => false
theorem DW (w : Bool) : ∀ {is : List Bool} {its : List Value}, Vals (is.map V.bl) its → its.countP (isB w) = is.count w
 | [], _, .nil => rfl
 | i :: is, _, .cons r rs => by
  obtain rfl := (show _ = Value.bool i from r)
  rw [List.countP_cons, List.count_cons, DW w rs]
  rfl
theorem Cg : ∀ {is : List Bool} {its : List Value}, Vals (is.map V.bl) its → ∀ {y}, y ∈ its → ∃ b, y = Value.bool b
 | [], _, .nil, _, h => by cases h
 | i :: is, _, .cons r rs, y, h => by
  rcases List.mem_cons.mp h with z | z
  ·exact ⟨i, z.trans r⟩
  ·exact Cg rs z
theorem Pq {apos cpos : Pos} (hu : X.A.in1.units < cLine) (ho : PE X o to) (he : PE X e te)
  (hbase : attributeBase o "count" X.env (eval o X.env) = eval o X.env := by rfl)
  (hfew : ((backTo cpos (starEach [e] X.env)).all (fun x => !x.1) && (backToKw cpos (keywordEach [] X.env)).all (fun x => x.1.isSome)
   && decide ([e].length + ([] : List Keyword).length + (if ([] : List Keyword).isEmpty then 0 else 1) < 30)) = true := by rfl)
  (hline : (apos.endLine == cpos.line) = true := by rfl) (hs : starEach [e] X.env = (false, eval e X.env) :: starEach [] X.env := by rfl) (hplain : (backTo cpos (starEach [] X.env)).any (·.1) = false := by rfl) :
  PE X (.Call (.Attribute o "count" apos) [e] [] cpos) (Rw X.K to te) := by
 intro pins s σ H Q I h
 refine wpAny_Call_method_late hbase hfew hline rfl (thE (ho pins s σ H _ I h) fun v s1 x H1 I1 r1 q => ?_)
 obtain ⟨p, rfl, ⟨xs0, hq⟩, q⟩ := q
 obtain ⟨h1, h2⟩ := zL (T := "list") I1 r1 (.inl ⟨rfl, _, hq⟩)
 refine ⟨"list", "list.count", PySem.F.plainAttrs_list, PySem.F.slot_list_count, PySem.F.type_list_count, h1, h2, ?_⟩
 rw [hs]
 refine Calls.callWith_builtin (by show (false || (backTo cpos (starEach [] X.env)).any (·.1)) = false; rw [hplain] <;> rfl) (Calls.evalArgs_plain ?_)
 refine Calls.spliced_cons (thn (he pins s1 σ H1 _ I1 q) fun u s2 ⟨y, H2, I2, r2, xs, n, hq2, hc, q3⟩ => Calls.spliced_nil ?_)
 cases r1
 obtain ⟨its, rv, pl, hz⟩ := I2.list hq2
 obtain ⟨ob, nn, eo, ec, ed, es⟩ := pl
 cases ob with
 | mk cls dict data slots =>
  cases ec
  cases es
  obtain ⟨bl, b, rfl, rfl, rfl⟩ := hc
  obtain rfl : u = Value.bool b := r2
  refine call_meets F.slot_list_count ⟨_, eo, rfl⟩ F.entry_list_count (F.args_list_count_2 _ _) (SeqAt.list_countAt p its.toArray nn _ _ _ (isB b)) ⟨eo, fun y hy => ?_, ?_⟩
  ·have hy' : y ∈ its := by simpa using hy
   obtain ⟨b', rfl⟩ := Cg rv hy'
   exact SeqAt.EqAt.bool_bool b' b
  ·rw [show its.toArray.toList = its from rfl, DW b rv]
   exact ⟨.int (bl.count b : Nat), H2, I2.tok _, ⟨_, rfl⟩, q3⟩
theorem Ot (K : PySem.W.Frag) {apos cpos : Pos} (hu : X.A.in1.units < cLine) (ho : QE X o to) (he : QE X e te) (hK : X.K = K := by rfl)
  (hbase : attributeBase o "count" X.env (eval o X.env) = eval o X.env := by rfl)
  (hfew : ((backTo cpos (starEach [e] X.env)).all (fun x => !x.1) && (backToKw cpos (keywordEach [] X.env)).all (fun x => x.1.isSome)
   && decide ([e].length + ([] : List Keyword).length + (if ([] : List Keyword).isEmpty then 0 else 1) < 30)) = true := by rfl)
  (hline : (apos.endLine == cpos.line) = true := by rfl) (hs : starEach [e] X.env = (false, eval e X.env) :: starEach [] X.env := by rfl) (hplain : (backTo cpos (starEach [] X.env)).any (·.1) = false := by rfl) :
  QE X (.Call (.Attribute o "count" apos) [e] [] cpos) (Rw K to te) := by
 subst hK
 exact ⟨Pq hu ho.h he.h hbase hfew hline hs hplain⟩
end
theorem qN : bootBuiltins "ValueError" = some (.type "ValueError") := by decide +kernel
theorem uN : Bn "ValueError" := ⟨by decide +kernel, by decide +kernel⟩
theorem pN {K : PySem.W.Frag} {x C dx : Addr} {fs : List (Str × V)} {c : V} {b : Bool} {H : Hp} {Q : VK} (Z : XIs K C) (hx : H x = some (XR x C (some dx))) (hd : H dx = some (.xd fs)) (hk : ∀ u, RelV c u → PySem.W.kitOne K (.ref C) u = some b) (q : Q (.bl b) H) : VJ K [.ref x, c] H Q :=
 ⟨x, c, C, dx, fs, b, rfl, hx, hd, Z, hk, q⟩
theorem n8 {K : PySem.W.Frag} {C a : Addr} {b : Bool} (h : PySem.W.kitOne K (.ref C) (.ref a) = some b) : ∀ u, RelV (.ref a) u → PySem.W.kitOne K (.ref C) u = some b := fun u r => by
 obtain rfl : u = Value.ref a := r
 exact h
theorem UJ {K : PySem.W.Frag} {C : Addr} {n : String} {b : Bool} (h : PySem.W.kitOne K (.ref C) (.type n) = some b) : ∀ u, RelV (.ty n) u → PySem.W.kitOne K (.ref C) u = some b := fun u r => by
 obtain rfl : u = Value.type n := r
 exact h
def Ck (C : Addr) (wd fld : Str) : Sp := fun vs H Q _ => (vs = [.non] ∧ Q .non H) ∨ ∃ (x dx : Addr) (j : Int), vs = [.ref x] ∧ H x = some (XR x C (some dx)) ∧ H dx = some (.xd [(fld, .int j)]) ∧
 ∀ t H', Same H H' → H t = none → H' t = some (.tup [.str wd, .int j]) → Q (.ref t) H'
open Builtin
section
variable {X : Cx}
end
mutual
def noL : PyData → Bool
 | .list _ => false
 | .tuple ds => Wi ds
 | _ => true
def Wi : List PyData → Bool
 | [] => true
 | d :: ds => noL d && Wi ds
end
theorem fX {ok : Addr → Prop} {H : Hp} : ∀ gs : List Int, aR ok H (gs.map V.int) (gs.map PyData.int)
 | [] => .nil
 | g :: gs => .cons (.int g) (fX gs)
section
variable {X : Cx} {e e2 o i value : Expr} {te te2 to ti tv : TE} {pos tpos : Pos}
end
def lbl (ss : Sts) (k : Nat) : Int := (v9 ss k).2.2
def jb (ss : Sts) : Pl → List Nat → List (List Nat × Pl)
 | .pick l, left => [(left, .pick l)]
 | .tab, left => [(left, .tab)]
 | .one k r, left => (left, .one k r) :: jb ss r (left.filter (· ≠ k))
 | .wit k r, left => (left, .wit k r) :: jb ss r (left.filter (· ≠ k))
 | .low k a b, left => (left, .low k a b) :: (jb ss b (left.filter (k ≤ ·)) ++ jb ss a (left.filter (· < k)))
 | .msk l r, left => (left, .msk l r) :: jb ss r (left.filter fun k => (v9 ss k).2.2 ≠ l)
def HW (ss : Sts) (W : List (List Nat × Pl)) : List (List Nat × Pl) := (W.reverse.map fun x => jb ss x.2 x.1).flatten
theorem steps_kids (ss : Sts) (p : Pl) (left : List Nat) : jb ss p left = (left, p) :: HW ss (kids ss p left) := by
 cases p <;> simp [jb, HW, kids]
def VL (ss : Sts) (left : List Nat) : Pl → Prop
 | .pick l => ∀ k ∈ left, lbl ss k = l
 | .tab => Rx ss left ≤ 200
 | .one k _ => k ∈ left ∧ (v9 ss k).1 = (v9 ss k).2.1
 | .wit k _ => k ∈ left
 | .low k _ _ => k ∈ left
 | .msk l _ => Rx ss left ≤ 64 ∧ ∃ k ∈ left, lbl ss k = l
def PlV (ss : Sts) : Pl → List Nat → Prop
 | .pick l, left => Lf ss left ∧ VL ss left (.pick l)
 | .tab, left => Lf ss left ∧ VL ss left .tab
 | .one k r, left => (Lf ss left ∧ VL ss left (.one k r)) ∧ PlV ss r (left.filter (· ≠ k))
 | .wit k r, left => (Lf ss left ∧ VL ss left (.wit k r)) ∧ PlV ss r (left.filter (· ≠ k))
 | .low k a b, left => (Lf ss left ∧ VL ss left (.low k a b)) ∧ PlV ss a (left.filter (· < k)) ∧ PlV ss b (left.filter (k ≤ ·))
 | .msk l r, left => (Lf ss left ∧ VL ss left (.msk l r)) ∧ PlV ss r (left.filter fun k => (v9 ss k).2.2 ≠ l)
def jO : Pl → Nat → List (Nat × Nat)
 | .pick _, _ => []
 | .tab, _ => []
 | .one _ r, p => jO r (p + 1)
 | .wit _ r, p => jO r (p + 1)
 | .msk _ r, p => jO r (p + 1)
 | .low _ a b, p => jO b (p + 1) ++ (p, p + 1 + wQ b) :: jO a (p + 1 + wQ b)
def Q6 : List Pl → List Nat → Nat → List (Nat × Nat)
 | [], _, _ => []
 | c :: rest, T, p => jO c p ++ (match T with | [] => [] | t :: T' => match rest with | [] => [] | _ :: _ => (t, p + wQ c) :: Q6 rest T' (p + wQ c))
theorem futA_one (c : Pl) (T : List Nat) (p : Nat) : Q6 [c] T p = jO c p := by
 cases T <;> exact List.append_nil _
def Fit (cs : List RowC) (p : Nat) (R : List RowC) : Prop := ∀ (i : Nat) c, R[i]? = some c → cs[p + i]? = some c
theorem Fit.hd {cs : List RowC} {p : Nat} {c : RowC} {R : List RowC} (h : Fit cs p (c :: R)) : cs[p]? = some c := h 0 c rfl
section
variable {X : Cx} {o e i : Expr} {to te td ty : TE} {pos : Pos}
end
theorem ln1 {α : Type} {us : List α} (h : us.length = 1) : ∃ a, us = [a] := by
 cases us with
 | nil => cases h
 | cons a r =>
  cases r with
  | nil => exact ⟨a, rfl⟩
  | cons b r => cases h
theorem ln2 {α : Type} {us : List α} (h : us.length = 2) : ∃ a0 a1, us = [a0, a1] := by
 cases us with
 | nil => cases h
 | cons a0 r =>
  obtain ⟨a1, rfl⟩ := ln1 (Nat.succ.inj h)
  exact ⟨a0, a1, rfl⟩
theorem ln3 {α : Type} {us : List α} (h : us.length = 3) : ∃ a0 a1 a2, us = [a0, a1, a2] := by
 cases us with
 | nil => cases h
 | cons a0 r =>
  obtain ⟨a1, a2, rfl⟩ := ln2 (Nat.succ.inj h)
  exact ⟨a0, a1, a2, rfl⟩
section
variable {X : Cx} {i : Nat} {x : Str} {pos : Pos}
end
def U8 : Pl → Bool
 | .pick _ => true
 | .tab => true
 | _ => false
def K7 (ss : Sts) (C : List (List Nat × Pl)) : List (List Nat × Pl) := (C.map fun x => jb ss x.2 x.1).flatten
def Ke (S : List (List Nat × Pl)) : Nat → Bool
 | 0 => false
 | i + 1 => match S[i]? with
  | some x => U8 x.2
  | none => false
structure AhSt (ss : Sts) (S : List (List Nat × Pl)) (tot : List (Nat × Nat)) (i : Nat) (C : List (List Nat × Pl)) (T : List Nat) (done : List (Nat × Nat)) : Prop where
 fl : S.drop i = K7 ss C
 no : Ke S i = false → T.length + 1 = C.length ∧ tot = done ++ Q6 (C.map (·.2)) T i
 yes : Ke S i = true → T.length = C.length ∧ ((C = [] ∧ tot = done) ∨ ∃ t T', T = t :: T' ∧ tot = done ++ (t, i) :: Q6 (C.map (·.2)) T' i)
theorem flat_cons (ss : Sts) (x : List Nat × Pl) (C : List (List Nat × Pl)) : K7 ss (x :: C) = jb ss x.2 x.1 ++ K7 ss C := rfl
section
variable {X : Cx} {pos : Pos} {te : TE}
end
section
variable {X : Cx} {e o : Expr} {te to : TE} {pos : Pos}
end
def Mi (many own : Int) : RowC → Prop
 | .one _ t => btw own many t = true
 | .rng a b t => a ≤ b ∧ btw own many t = true
 | .low _ t => btw own many t = true
 | .msk _ wd bits t => (1 ≤ wd ∧ wd ≤ 64) ∧ (0 ≤ bits ∧ bits < 2 ^ wd.toNat) ∧ btw own many t = true
 | .tab _ gs => gs ≠ [] ∧ gs.all (btw own many) = true
 | .pik l => 0 ≤ l
theorem Mi.c {many own : Int} {c : RowC} (h : Mi many own c) : Vr many own c := by
 cases c with
 | one n t => exact h
 | low n t => exact h
 | rng a b t => exact h.2
 | msk lo wd bits t => exact ⟨h.2.2, h.1.1, h.1.2, h.2.1.1⟩
 | tab lo gs => exact h.2
 | pik l => trivial
open PySem PySem.Spec PyProof.Rows Builtin Builtin.Str
theorem uQ : ∀ {ts : List Str} {us : List Value}, Vals (ts.map V.str) us → ∃ l : List (Str × Tok), strValues l = us ∧ l.map (·.1) = ts
 | [], _, h => by
  cases h
  exact ⟨[], rfl, rfl⟩
 | t :: ts, _, h => by
  cases h with
  | cons r h =>
   obtain ⟨l, rfl, e⟩ := uQ h
   obtain ⟨k, rfl⟩ := r
   exact ⟨(t, k) :: l, rfl, by rw [List.map_cons, e]⟩
theorem uW : ∀ (l : List (Str × Tok)), Vals ((l.map (·.1)).map V.str) (strValues l)
 | [] => .nil
 | (x, k) :: l => .cons ⟨k, rfl⟩ (uW l)
def jnq (ob : Option HO) (sep : Str) (H : Hp) (Q : VK) : Prop := match ob with
 | some (.lst xs) => ∃ ts : List Str, xs = ts.map V.str ∧ JoinOk sep ts = true ∧ Q (.str (Txt.join sep ts)) H
 | _ => False
def rJoin : V → List V → Hp → VK → Prop := fun x vs H Q => match x, vs with
 | .str sep, [.ref b] => jnq (H b) sep H Q
 | _, _ => False
theorem yF (sep : Str) (b : Addr) (H : Hp) (Q : VK) : rJoin (.str sep) [.ref b] H Q = jnq (H b) sep H Q := rfl
theorem Dk (xs : List V) (sep : Str) (H : Hp) (Q : VK) : jnq (some (.lst xs)) sep H Q = ∃ ts : List Str, xs = ts.map V.str ∧ JoinOk sep ts = true ∧ Q (.str (Txt.join sep ts)) H := rfl
def Aq : V → List V → Hp → VK → Prop := fun x vs H Q => match x, vs with
 | .str z, [.str y] => (y.length == 0) = false ∧ z.length ≤ sizeLine ∧ (Txt.split z y).length ≤ sizeLine ∧ ∀ p, H p = none → Q (.ref p) (upd H p (.lst ((Txt.split z y).map V.str)))
 | _, _ => False
theorem Fd (z y : Str) (H : Hp) (Q : VK) : Aq (.str z) [.str y] H Q = ((y.length == 0) = false ∧ z.length ≤ sizeLine ∧ (Txt.split z y).length ≤ sizeLine ∧ ∀ p, H p = none → Q (.ref p) (upd H p (.lst ((Txt.split z y).map V.str)))) := rfl
def wM : V → List V → Hp → VK → Prop := fun x vs H Q => match x, vs with
 | .str z, [.str y] => Q (.bl (Txt.startswith z y)) H
 | _, _ => False
theorem Ao (z y : Str) (H : Hp) (Q : VK) : wM (.str z) [.str y] H Q = Q (.bl (Txt.startswith z y)) H := rfl
def QJ : V → Prop
 | .str _ => True
 | _ => False
theorem zf (z : Str) : QJ (.str z) = True := rfl
def tSM (r : V → List V → Hp → VK → Prop) (to : TE) (t : TA) : TE := fun σ H Q => to σ H fun x H1 => QJ x ∧ t σ H1 fun xs H2 => r x xs H2 Q
theorem Hq (r : V → List V → Hp → VK → Prop) (to : TE) (t : TA) (σ : St) (H : Hp) (Q : VK) : tSM r to t σ H Q = to σ H fun x H1 => QJ x ∧ t σ H1 fun xs H2 => r x xs H2 Q := rfl
def Cy : List V → Hp → VK → Prop := fun vs H Q => match vs with
 | [.int i] => i.natAbs.log2 < 1920 ∧ Q (.str (toString i)) H
 | [.str x] => Q (.str x) H
 | _ => False
theorem Nq (i : Int) (H : Hp) (Q : VK) : Cy [.int i] H Q = (i.natAbs.log2 < 1920 ∧ Q (.str (toString i)) H) := rfl
theorem Np (x : Str) (H : Hp) (Q : VK) : Cy [.str x] H Q = Q (.str x) H := rfl
def Js : List V → Hp → VK → Prop := fun vs H Q => match vs with
 | [.str x] => ∃ n, PySem.intText? x = some n ∧ x.length ≤ 640 ∧ Q (.int n) H
 | _ => False
theorem Jr (x : Str) (H : Hp) (Q : VK) : Js [.str x] H Q = ∃ n, PySem.intText? x = some n ∧ x.length ≤ 640 ∧ Q (.int n) H := rfl
theorem R0 (K : PySem.W.Frag) (x : V) (H : Hp) : tyV K "str" x H = QJ x := by
 refine propext ⟨fun h => ?_, fun h => ?_⟩
 ·cases x with
  | str z => trivial
  | int z => exact absurd (show "str" = "int" from h) (by decide)
  | ref p =>
   rcases h with ⟨e, _⟩ | ⟨e, _⟩ | ⟨e, _⟩ | ⟨e, _⟩
   ·exact absurd e (by decide)
   ·exact absurd e (by decide)
   ·exact absurd e (by decide)
   ·exact absurd e (by decide)
  | _ => exact h.elim
 ·cases x with
  | str z => rfl
  | _ => exact h.elim
section
variable {X : Cx}
theorem qW : MtR X "str.join" rJoin := by
 intro pins s σ H x xs v us Q I rx rv h
 unfold rJoin at h
 split at h
 ·rename_i sep b
  obtain ⟨t, rfl⟩ := rx
  obtain ⟨u, rfl, ru⟩ := rv.one
  cases ru
  cases e : H b with
  | none => rw [e] at h; exact h.elim
  | some o =>
   rw [e] at h
   cases o with
   | lst ys =>
    obtain ⟨ts, rfl, hok, q⟩ := h
    obtain ⟨its, r, pl, hz⟩ := I.list (SqL.of e)
    obtain ⟨l, rfl, hl⟩ := uQ r
    exact SC.join pl.isList hl hok fun t' k => ⟨.str _, H, I.tok _, ⟨_, rfl⟩, q⟩
   | _ => exact h.elim
 ·exact h.elim
theorem gZ : MtR X "str.split" Aq := by
 intro pins s σ H x xs v us Q I rx rv h
 unfold Aq at h
 split at h
 ·rename_i z y
  obtain ⟨hy, hz, hl, q⟩ := h
  obtain ⟨t, rfl⟩ := rx
  obtain ⟨u, rfl, ru⟩ := rv.one
  obtain ⟨tu, rfl⟩ := ru
  have fin : ∀ (l : List (Str × Tok)) (k : Nat), l.map (·.1) = Txt.split z y → EP X pins σ Q (.ref s.heap.objs.size) { s with toks := k, heap := s.heap.push { cls := .type "list", data := .seq (strValues l).toArray } } := by
   intro l k hlm
   refine ⟨.ref _, _, I.laid (a := s.heap.objs.size) (o := .lst ((Txt.split z y).map V.str)) (t' := k) (fun b u e => Heap.get?_push_of_some _ e) (Nat.le_refl _) ?_, rfl, q _ (I.hok.fresh (Nat.le_refl _))⟩
   have hv := uW l
   rw [hlm] at hv
   exact ⟨by rw [List.length_map]; exact hl, _, 0, hv, Heap.get?_push_size _ rfl⟩
  cases h1 : (decide (z.length < y.length) || decide (strKind z < strKind y))
  ·cases hf : (occurrences z y 0 z.length (z.length + 1)).isEmpty
   ·have es : Txt.split z y = partsBetween z (occurrences z y 0 z.length (z.length + 1)) y.length := (if_neg (ne_true_of_eq_false h1)).trans (if_neg (ne_true_of_eq_false hf))
    refine call_meets F.slot_str_split (typeIs_str _ _ _) F.entry_str_split (F.args_str_split_2 _ _) (meets_str_split_sep z y t tu h1 hy hf hz (by rw [← es]; exact hl)) ?_
    show wants _ _ _ { s with toks := _, heap := s.heap.push { cls := .type "list", data := .seq (strsFrom s.toks (partsBetween z (occurrences z y 0 z.length (z.length + 1)) y.length)).toArray } }
    rw [strsFrom_eq]
    exact fin (numbered s.toks _) _ ((numbered_texts _ _).trans es.symm)
   ·exact call_meets F.slot_str_split (typeIs_str _ _ _) F.entry_str_split (F.args_str_split_2 _ _) (meets_str_split_not_found z y t tu h1 hy hf)
     (fin [(z, t)] s.toks ((if_neg (ne_true_of_eq_false h1)).trans (if_pos hf)).symm)
  ·exact call_meets F.slot_str_split (typeIs_str _ _ _) F.entry_str_split (F.args_str_split_2 _ _) (meets_str_split_cannot_occur z y t tu h1)
    (fin [(z, t)] s.toks (if_pos h1).symm)
 ·exact h.elim
theorem FZ : MtR X "str.startswith" wM := by
 intro pins s σ H x xs v us Q I rx rv h
 unfold wM at h
 split at h
 ·rename_i z y
  obtain ⟨t, rfl⟩ := rx
  obtain ⟨u, rfl, ru⟩ := rv.one
  obtain ⟨tu, rfl⟩ := ru
  exact SC.startswith ⟨.bl _, H, I, rfl, h⟩
 ·exact h.elim
variable {o e : Expr} {to : TE} {t : TA} {apos cpos : Pos}
theorem V3 {name : Str} {id : String} {r : V → List V → Hp → VK → Prop} (slot : Slot "str" name id) (hty : typeOf (.builtin id) = pure (.type "method_descriptor")) (hm : MtR X id r) (ho : PE X o to) (ha : PA X [e] t)
  (hbase : attributeBase o name X.env (eval o X.env) = eval o X.env := by rfl)
  (hfew : ((backTo cpos (starEach [e] X.env)).all (fun x => !x.1) && (backToKw cpos (keywordEach [] X.env)).all (fun x => x.1.isSome)
   && decide ([e].length + ([] : List Keyword).length + (if ([] : List Keyword).isEmpty then 0 else 1) < 30)) = true := by rfl)
  (hline : (apos.endLine == cpos.line) = true := by rfl) (hs : starEach [e] X.env = (false, eval e X.env) :: starEach [] X.env := by rfl) (hplain : (backTo cpos (starEach [] X.env)).any (·.1) = false := by rfl) :
  PE X (.Call (.Attribute o name apos) [e] [] cpos) (tSM r to t) := by
 have h := Wa (X := X) F.plainAttrs_str slot hty hm ho ha hbase hfew hline hs hplain
 have e1 : tBM X.K "str" r to t = tSM r to t := by
  unfold tBM tSM
  simp only [R0]
 rwa [e1] at h
theorem jm {name : Str} {id : String} {r : V → List V → Hp → VK → Prop} (slot : Slot "str" name id) (hty : typeOf (.builtin id) = pure (.type "method_descriptor")) (hm : MtR X id r) (ho : QE X o to) (ha : QA X [e] t)
  (hbase : attributeBase o name X.env (eval o X.env) = eval o X.env := by rfl)
  (hfew : ((backTo cpos (starEach [e] X.env)).all (fun x => !x.1) && (backToKw cpos (keywordEach [] X.env)).all (fun x => x.1.isSome)
   && decide ([e].length + ([] : List Keyword).length + (if ([] : List Keyword).isEmpty then 0 else 1) < 30)) = true := by rfl)
  (hline : (apos.endLine == cpos.line) = true := by rfl) (hs : starEach [e] X.env = (false, eval e X.env) :: starEach [] X.env := by rfl) (hplain : (backTo cpos (starEach [] X.env)).any (·.1) = false := by rfl) :
  QE X (.Call (.Attribute o name apos) [e] [] cpos) (tSM r to t) := ⟨V3 slot hty hm ho.h ha.h hbase hfew hline hs hplain⟩
theorem pY : cO X (.type "str") Cy := by
 intro pins s σ H xs us Q I r h
 unfold Cy at h
 split at h
 ·rename_i i
  exact xJ pins s σ H _ us Q I r ⟨i, rfl, h.1, h.2⟩
 ·rename_i x
  obtain ⟨u, rfl, t, rfl⟩ := vals1 r
  exact PySem.P.str_of_str ⟨.str _, H, I, ⟨_, rfl⟩, h⟩
 ·exact h.elim
theorem vP : cO X (.type "int") Js := by
 intro pins s σ H xs us Q I r h
 unfold Js at h
 split at h
 ·rename_i x
  obtain ⟨n, hn, hl, q⟩ := h
  obtain ⟨u, rfl, t, rfl⟩ := vals1 r
  exact PySem.W.KIN.call_text hn hl ⟨.int _, H, I.tok _, ⟨_, rfl⟩, q⟩
 ·exact h.elim
end
def Its (z : Str) : It := ⟨fun i _ => i < z.length, fun i H x H' => H' = H ∧ ∃ c, z.cps[i]? = some c ∧ x = .str ⟨#[c]⟩, fun i _ => i = z.length⟩
theorem yc {P : Program} {w : World} {K : PySem.W.Frag} {tg : Expr} (it : Addr) (z : Str) {n : String} {t : Tok} (hn : ["enumerate", "zip", "dict_itemiterator", "dict_reverseitemiterator", "odict_iterator", "itertools.zip_longest", "itertools.pairwise"].contains n = false)
  (W : ∀ A : Around, A.handled = none → Walks P w A it [it] [it] z.cps.size (SignAt z) (fun i h => h.IsStrIter it n z t i))
  (hself : ∀ (A : Around) (i : Nat) (s : Shared) (Q : Value → Shared → Prop) (E : Value → Shared → Prop), s.heap.IsStrIter it n z t i → Q (.ref it) s → wpAny (model P w) A (pyIter (.ref it)) Q E s) : Turn P w K tg (Its z) [it] it (fun i h => h.IsStrIter it n z t i) where
 mem := by simp
 obj := fun i h st b hb => by
  have e : b = it := by simpa using hb
  subst e
  obtain ⟨o, e, c, d⟩ := st
  exact ⟨o, e, fun v z => by rw [d] at z; cases z⟩
 keep := fun i h h' st k => by
  obtain ⟨o, e, r⟩ := st
  exact ⟨o, k it (by simp) o e, r⟩
 item := by
  intro X hP hw hK hc i pins s σ H E I hf st hg
  subst hP hw hK
  obtain ⟨f0, f1, f2, f3, f4, f5⟩ := hf it (by simp)
  refine (W X.A (I.ok.hd hc)).item i s _ _ hg st fun v h' tk hv st' kk => ?_
  obtain ⟨c, u, hcx, rfl⟩ := hv
  have I1 : Inv X pins σ H { s with heap := h', toks := tk } := I.turned (fun b o hb e => kk b o (by simpa using hb) e) f0 f1 f3 f4 f5
  obtain ⟨o, e, co, d⟩ := id st'
  exact ⟨_, rfl, Du (s := { s with heap := h', toks := tk }) e co d hn ⟨.str ⟨#[c]⟩, H, I1, ⟨u, rfl⟩, ⟨rfl, c, hcx, rfl⟩, st', fun b hb => (hf b hb).1⟩⟩
 done := by
  intro X hP hw hK hc i pins s σ H E I hf st hg
  subst hP hw hK
  obtain ⟨f0, f1, f2, f3, f4, f5⟩ := hf it (by simp)
  have hg' : i = z.cps.size := hg
  subst hg'
  exact (W X.A (I.ok.hd hc)).done s _ _ st fun h' tk kk => ⟨rfl, I.turned (fun b o hb e => kk b o (by simpa using hb) e) f0 f1 f3 f4 f5⟩
 self := hself
def Vc (tl : TE) : TI := fun σ H R => tl σ H fun x H1 => match x with
 | .str z => R (Its z) H1
 | _ => False
def isK (x : V) (H : Hp) (R : It → Hp → Prop) : Prop := match x with
 | .str z => R (Its z) H
 | _ => False
theorem QZ (tl : TE) (σ : St) (H : Hp) (R : It → Hp → Prop) : Vc tl σ H R = tl σ H fun x H1 => isK x H1 R := rfl
theorem QK (z : Str) (H : Hp) (R : It → Hp → Prop) : isK (.str z) H R = R (Its z) H := rfl
section
variable {X : Cx} {tg l : Expr} {tl : TE}
theorem T6 (hl : PE X l tl) : PI X tg l (Vc tl) := by
 intro pins s σ H R I h
 refine thn (hl pins s σ H _ I h) fun v s1 ⟨x, H1, I1, r1, q1⟩ => ?_
 cases x with
 | str z =>
  obtain ⟨t, rfl⟩ := r1
  replace q1 : R (Its z) H1 := q1
  have fp : ∀ b ∈ [s1.heap.objs.size], oR X pins H1 b := fun b hb => by
   have e : b = s1.heap.objs.size := by simpa using hb
   subst e
   exact I1.BK (Nat.le_refl _) (I1.hok.fresh (Nat.le_refl _))
  cases ha : z.cps.all (· < 128)
  ·exact wpAny_pyIter_wide ha ⟨s1.heap.objs.size, [s1.heap.objs.size], _, _, H1, rfl, I1.kept (t' := s1.toks) fun b o e => Heap.get?_push_of_some _ e, yc _ z (by decide) (fun A hA => Walks.strWide hA _ z t) (fun _ _ _ _ _ st hQ => wpAny_pyIter_striter_wide st hQ), ⟨_, Heap.get?_push_size _ rfl, rfl, rfl⟩, fp, q1⟩
  ·exact wpAny_pyIter_ascii ha ⟨s1.heap.objs.size, [s1.heap.objs.size], _, _, H1, rfl, I1.kept (t' := s1.toks) fun b o e => Heap.get?_push_of_some _ e, yc _ z (by decide) (fun A hA => Walks.strAscii hA _ z t) (fun _ _ _ _ _ st hQ => wpAny_pyIter_striter_ascii st hQ), ⟨_, Heap.get?_push_size _ rfl, rfl, rfl⟩, fp, q1⟩
 | _ => exact q1.elim
theorem Jv (hl : QE X l tl) : QI X tg l (Vc tl) := ⟨T6 hl.h⟩
end
section
variable {mp : List (Option Nat)} {g : TG} {tc : TT} {te : TE} {σ : St} {H : Hp} {Q : VK} {R : It → Hp → Prop}
theorem Ln {z : Str} (hR : R = xW mp g tc te σ Q) (hz : z.length ≤ sizeLine) (Pv : Nat → List V → St → Hp → Prop) (h0 : Pv 0 [] (jk mp σ) H) (hl : ∀ i acc τ H, Pv i acc τ H → acc.length ≤ i)
  (hs : ∀ i c acc τ H, z.cps[i]? = some c → Pv i acc τ H → g (.str ⟨#[c]⟩) τ H fun τ1 H4 => tc τ1 H4 fun b H5 => if b = true then te τ1 H5 fun v H6 => Pv (i + 1) (acc ++ [v]) τ1 H6 else Pv (i + 1) acc τ1 H5)
  (hd : ∀ acc τ H d, Pv z.length acc τ H → H d = none → Q (.ref d) (upd H d (.lst acc))) : R (Its z) H := by
 refine lR hR z.length hz Pv h0 hl (fun i acc τ H hi _ => hi) (fun acc τ H _ => rfl) (fun i acc τ H x H3 hi p y => ?_) hd
 obtain ⟨rfl, c, hc, rfl⟩ := y
 exact hs i c acc τ _ hc p
end
open PySem PySem.Spec PyProof.Rows PySem.NumText
def jnL (c : Nat) : List (List Nat) → List Nat
 | [] => []
 | [x] => x
 | x :: y :: r => x ++ c :: jnL c (y :: r)
theorem lA (c : Nat) : ∀ ts : List Str, (Str.join ⟨#[c]⟩ ts).cps.toList = jnL c (ts.map fun t => t.cps.toList)
 | [] => rfl
 | [x] => rfl
 | x :: y :: r => by
  have ih := lA c (y :: r)
  show ((x ++ (⟨#[c]⟩ : Str) ++ Str.join ⟨#[c]⟩ (y :: r)) : Str).cps.toList = _
  rw [Str.cps_append, Str.cps_append, Array.toList_append, Array.toList_append, ih]
  show x.cps.toList ++ [c] ++ _ = x.cps.toList ++ c :: _
  rw [List.append_assoc]
  rfl
theorem Dl {c : Nat} {x : List Nat} {r : List (List Nat)} : ∃ t, jnL c (x :: r) = x ++ t ∧ (t = [] ∧ r = [] ∨ ∃ y s, r = y :: s ∧ t = c :: jnL c r) := by
 cases r with
 | nil => exact ⟨[], (List.append_nil x).symm, .inl ⟨rfl, rfl⟩⟩
 | cons y s => exact ⟨_, rfl, .inr ⟨y, s, rfl, rfl⟩⟩
theorem zm {c : Nat} : ∀ {x y s t : List Nat}, c ∉ x → c ∉ y → (s = [] ∨ ∃ s', s = c :: s') → (t = [] ∨ ∃ t', t = c :: t') → x ++ s = y ++ t → x = y ∧ s = t
 | [], [], s, t, _, _, _, _, e => ⟨rfl, e⟩
 | [], b :: y, s, t, _, hy, hs, _, e => by
  rcases hs with rfl | ⟨s', rfl⟩
  ·cases e
  ·have : c = b := by injection e
   exact absurd (this ▸ List.mem_cons_self ..) hy
 | a :: x, [], s, t, hx, _, _, ht, e => by
  rcases ht with rfl | ⟨t', rfl⟩
  ·cases e
  ·have : a = c := by injection e
   exact absurd (this ▸ List.mem_cons_self ..) hx
 | a :: x, b :: y, s, t, hx, hy, hs, ht, e => by
  have e1 : a = b := by injection e
  have e2 : x ++ s = y ++ t := by injection e
  obtain ⟨h1, h2⟩ := zm (fun z => hx (List.mem_cons_of_mem _ z)) (fun z => hy (List.mem_cons_of_mem _ z)) hs ht e2
  exact ⟨by rw [e1, h1], h2⟩
theorem Kr {c : Nat} : ∀ {ps qs : List (List Nat)}, ps ≠ [] → qs ≠ [] → (∀ p ∈ ps, c ∉ p) → (∀ q ∈ qs, c ∉ q) → jnL c ps = jnL c qs → ps = qs
 | [], _, h, _, _, _, _ => absurd rfl h
 | _ :: _, [], _, h, _, _, _ => absurd rfl h
 | p :: ps, q :: qs, _, _, hp, hq, e => by
  obtain ⟨t1, e1, c1⟩ := Dl (c := c) (x := p) (r := ps)
  obtain ⟨t2, e2, c2⟩ := Dl (c := c) (x := q) (r := qs)
  rw [e1, e2] at e
  have k1 : t1 = [] ∨ ∃ s', t1 = c :: s' := by
   rcases c1 with ⟨z, _⟩ | ⟨_, _, _, z⟩
   ·exact .inl z
   ·exact .inr ⟨_, z⟩
  have k2 : t2 = [] ∨ ∃ s', t2 = c :: s' := by
   rcases c2 with ⟨z, _⟩ | ⟨_, _, _, z⟩
   ·exact .inl z
   ·exact .inr ⟨_, z⟩
  obtain ⟨h1, h2⟩ := zm (hp p (List.mem_cons_self ..)) (hq q (List.mem_cons_self ..)) k1 k2 e
  subst h1
  rcases c1 with ⟨z1, z2⟩ | ⟨y1, s1, z1, z2⟩
  ·rcases c2 with ⟨w1, w2⟩ | ⟨y2, s2, w1, w2⟩
   ·rw [z2, w2]
   ·rw [z1, w2] at h2; cases h2
  ·rcases c2 with ⟨w1, w2⟩ | ⟨y2, s2, w1, w2⟩
   ·rw [z2, w1] at h2; cases h2
   ·rw [z2, w2] at h2
    have h3 : jnL c ps = jnL c qs := by injection h2
    rw [Kr (by rw [z1]; exact List.cons_ne_nil _ _) (by rw [w1]; exact List.cons_ne_nil _ _) (fun a ha => hp a (List.mem_cons_of_mem _ ha)) (fun a ha => hq a (List.mem_cons_of_mem _ ha)) h3]
theorem j8 (x : Str) (c : Nat) : Txt.split x ⟨#[c]⟩ ≠ [] := by
 intro e
 have h := StrLaws.join_split x ⟨#[c]⟩
 unfold Txt.split at e
 split at e
 ·cases e
 ·split at e
  ·cases e
  ·rename_i h2
   rw [StrLaws.partsBetween_eq] at e
   revert e
   cases Builtin.Str.occurrences x ⟨#[c]⟩ 0 x.length (x.length + 1) <;> (intro e; cases e)
theorem rN {c : Nat} {ts : List Str} (hne : ts ≠ []) (hf : ∀ t ∈ ts, c ∉ t.cps.toList) : Txt.split (Txt.join ⟨#[c]⟩ ts) ⟨#[c]⟩ = ts := by
 have ej : Txt.join ⟨#[c]⟩ ts = Str.join ⟨#[c]⟩ ts := StrLaws.glued_eq_join _ _
 rw [ej]
 have h1 := StrLaws.join_split (Str.join ⟨#[c]⟩ ts) ⟨#[c]⟩
 have h2 := j8 (Str.join ⟨#[c]⟩ ts) c
 have h3 := StrLaws.split_free (Str.join ⟨#[c]⟩ ts) c
 generalize Txt.split (Str.join ⟨#[c]⟩ ts) ⟨#[c]⟩ = ps at h1 h2 h3
 have h4 := congrArg (fun z : Str => z.cps.toList) h1
 simp only [lA] at h4
 have h5 := Kr (c := c) (by simpa using h2) (by simpa using hne) (fun p hp => by
  obtain ⟨t, ht, rfl⟩ := List.mem_map.mp hp
  exact h3 t ht) (fun p hp => by
  obtain ⟨t, ht, rfl⟩ := List.mem_map.mp hp
  exact hf t ht) h4
 have inj : ∀ {as bs : List Str}, as.map (fun t => t.cps.toList) = bs.map (fun t => t.cps.toList) → as = bs := by
  intro as
  induction as with
  | nil =>
   intro bs e
   cases bs with
   | nil => rfl
   | cons b bs => cases e
  | cons a as ih =>
   intro bs e
   cases bs with
   | nil => cases e
   | cons b bs =>
    rw [List.map_cons, List.map_cons] at e
    have e1 : a.cps.toList = b.cps.toList := by injection e
    have e2 : as.map (fun t => t.cps.toList) = bs.map (fun t => t.cps.toList) := by injection e
    rw [ih e2, Str.ext' (Array.toList_inj.mp e1)]
 exact inj h5
def dR (x : Str) : List Nat := if x.cps.toList.head? = some 45 then x.cps.toList.tail else x.cps.toList
def gA (c : Nat) : Bool := decide (48 ≤ c) && decide (c ≤ 57)
def aV (x : Str) : Bool := decide (1 ≤ (dR x).length) && decide ((dR x).length ≤ 20) && (dR x).all gA && !(decide ((dR x).head? = some 48) && decide (x ≠ "0"))
def eU (x : Str) : Int := if x.cps.toList.head? = some 45 then -((digitsVal (dR x) : Nat) : Int) else ((digitsVal (dR x) : Nat) : Int)
def fW (x : Str) : V := if aV x = true then .int (eU x) else .non
theorem tX {l : List Nat} : l.all gA = true ↔ AllDigits l := by
 rw [List.all_eq_true]
 unfold gA AllDigits
 constructor
 ·intro h c hc
  simpa using h c hc
 ·intro h c hc
  simpa using h c hc
theorem kJ {x : Str} (h : aV x = true) : PySem.intText? x = some (eU x) ∧ x.length ≤ 21 := by
 unfold aV at h
 simp only [Bool.and_eq_true, decide_eq_true_eq] at h
 obtain ⟨⟨⟨h1, h2⟩, h3⟩, _⟩ := h
 have hd := tX.mp h3
 have hl : x.cps.toList.length = x.length := by simp [Str.length]
 unfold eU
 by_cases c : x.cps.toList.head? = some 45
 ·have hf : dR x = x.cps.toList.tail := by unfold dR; rw [if_pos c]
  rw [if_pos c]
  cases e : x.cps.toList with
  | nil => rw [e] at c; cases c
  | cons a r =>
   rw [e] at c
   have ha : a = 45 := by simpa using c
   subst ha
   rw [hf, e, List.tail_cons] at h1 h2 hd ⊢
   have hl2 : x.length ≤ 21 := by rw [← hl, e, List.length_cons]; omega
   exact ⟨intText_neg e hd (fun z => by rw [z] at h1; simp at h1) (by omega), hl2⟩
 ·have hf : dR x = x.cps.toList := by unfold dR; rw [if_neg c]
  rw [if_neg c]
  rw [hf] at h1 h2 hd ⊢
  exact ⟨intText_digits hd (fun z => by rw [z] at h1; simp at h1) (by omega), by omega⟩
theorem DN {m : Nat} (h : 10 ≤ m) : Nat.toDigits 10 m = Nat.toDigits 10 (m / 10) ++ [Nat.digitChar (m % 10)] := by
 have q := Nat.toDigits_append_toDigits (b := 10) (n := m / 10) (d := m % 10) (by decide) (by omega) (by omega)
 rw [Nat.toDigits_of_lt_base (n := m % 10) (by omega), show 10 * (m / 10) + m % 10 = m by omega] at q
 exact q.symm
theorem uU (m : Nat) : ∀ k : Nat, m < 10 ^ (k + 1) → (Nat.toDigits 10 m).length ≤ k + 1 :=
 Nat.strongRecOn m fun m ih k hk => by
  rcases Nat.lt_or_ge m 10 with g | g
  ·rw [show Nat.toDigits 10 m = _ from Nat.toDigits_of_lt_base g]; simp
  ·rw [DN g, List.length_append]
   cases k with
   | zero => omega
   | succ k =>
    have := ih (m / 10) (by omega) k (by rw [Nat.pow_succ] at hk; omega)
    show _ + 1 ≤ _
    omega
theorem rF (m : Nat) : 0 < m → ∃ c r, Nat.toDigits 10 m = c :: r ∧ c ≠ '0' :=
 Nat.strongRecOn m fun m ih h0 => by
  rcases Nat.lt_or_ge m 10 with g | g
  ·rw [show Nat.toDigits 10 m = _ from Nat.toDigits_of_lt_base g]
   have dg : ∀ d : Nat, d < 10 → 0 < d → Nat.digitChar d ≠ '0' := by decide
   exact ⟨_, [], rfl, dg m g h0⟩
  ·obtain ⟨c, r, e, hc⟩ := ih (m / 10) (by omega) (by omega)
   exact ⟨c, r ++ [Nat.digitChar (m % 10)], by rw [DN g, e]; rfl, hc⟩
theorem DK (m : Nat) : AllDigits ((Nat.toDigits 10 m).map Char.toNat) := fun c hc => by
 rcases List.mem_map.mp hc with ⟨d, hd, rfl⟩
 exact digit_range (Nat.isDigit_of_mem_toDigits (b := 10) (n := m) (by decide) (by decide) hd)
theorem Lg (m : Nat) : (Nat.toDigits 10 m).map Char.toNat ≠ [] := List.ne_nil_of_length_pos (by rw [List.length_map]; exact toDigits_len_ge 10 m)
theorem El (m : Nat) : (Str.ofString (toString (Int.negSucc m))).cps.toList = 45 :: (Nat.toDigits 10 (m + 1)).map Char.toNat := by
 rw [signs_ofString]
 show (("-" ++ Nat.repr (m + 1)) : String).toList.map Char.toNat = _
 rw [String.toList_append, List.map_append, Nat.toList_repr]
 rfl
theorem yL {n : Int} (h : n.natAbs < 10 ^ 20) : fW (Str.ofString (toString n)) = .int n := by
 have key : aV (Str.ofString (toString n)) = true ∧ eU (Str.ofString (toString n)) = n := by
  cases n with
  | ofNat m =>
   have e := PySem.W.KIN.signs_num m
   replace h : m < 10 ^ 20 := h
   have hall := DK m
   have hne := Lg m
   have hn45 : ¬ ((Nat.toDigits 10 m).map Char.toNat).head? = some 45 := fun z => by
    have := hall 45 (List.mem_of_head? z)
    omega
   have hf : dR (Str.ofString (toString (Int.ofNat m))) = (Nat.toDigits 10 m).map Char.toNat := by
    unfold dR
    rw [show (Str.ofString (toString (Int.ofNat m))).cps.toList = _ from e, if_neg hn45]
   have hz : ¬ (((Nat.toDigits 10 m).map Char.toNat).head? = some 48 ∧ Str.ofString (toString (Int.ofNat m)) ≠ "0") := fun ⟨z1, z2⟩ => by
    rcases Nat.eq_zero_or_pos m with rfl | hm
    ·exact z2 rfl
    ·obtain ⟨c, r, e2, hc⟩ := rF m hm
     rw [e2] at z1
     have : c.toNat = 48 := by simpa using z1
     exact hc (Char.ext (UInt32.toNat_inj.mp this))
   refine ⟨?_, ?_⟩
   ·unfold aV
    rw [hf]
    have hl := uU m 19 h
    have hl1 : 1 ≤ ((Nat.toDigits 10 m).map Char.toNat).length := List.length_pos_iff.mpr hne
    rw [decide_eq_true hl1, decide_eq_true (by rw [List.length_map]; exact hl), tX.mpr hall]
    simp only [Bool.and_true, Bool.true_and, Bool.not_eq_true', Bool.and_eq_false_iff, decide_eq_false_iff_not]
    by_cases z : ((Nat.toDigits 10 m).map Char.toNat).head? = some 48
    ·exact .inr fun z2 => hz ⟨z, z2⟩
    ·exact .inl z
   ·unfold eU
    rw [hf, show (Str.ofString (toString (Int.ofNat m))).cps.toList = _ from e, if_neg hn45, PySem.W.KIN.val_back]
    rfl
  | negSucc m =>
   have e := El m
   replace h : m + 1 < 10 ^ 20 := h
   have hall := DK (m + 1)
   have hne := Lg (m + 1)
   have hf : dR (Str.ofString (toString (Int.negSucc m))) = (Nat.toDigits 10 (m + 1)).map Char.toNat := by
    unfold dR
    rw [e]
    rfl
   have hz : ¬ ((Nat.toDigits 10 (m + 1)).map Char.toNat).head? = some 48 := fun z1 => by
    obtain ⟨c, r, e2, hc⟩ := rF (m + 1) (by omega)
    rw [e2] at z1
    have : c.toNat = 48 := by simpa using z1
    exact hc (Char.ext (UInt32.toNat_inj.mp this))
   refine ⟨?_, ?_⟩
   ·unfold aV
    rw [hf]
    have hl := uU (m + 1) 19 h
    have hl1 : 1 ≤ ((Nat.toDigits 10 (m + 1)).map Char.toNat).length := List.length_pos_iff.mpr hne
    rw [decide_eq_true hl1, decide_eq_true (by rw [List.length_map]; exact hl), tX.mpr hall, decide_eq_false hz]
    rfl
   ·unfold eU
    rw [hf, e, if_pos (List.head?_cons ..), PySem.W.KIN.val_back]
    rfl
 unfold fW
 rw [if_pos key.1, key.2]
def Tf : R2 := fun x y H Q => match x, y with
 | .str i, .str j => Q (.bl (!(Builtin.Str.occurrences j i 0 j.length 1).isEmpty)) H
 | _, _ => False
theorem NZ (i j : Str) (H : Hp) (Q : VK) : Tf (.str i) (.str j) H Q = Q (.bl (!(Builtin.Str.occurrences j i 0 j.length 1).isEmpty)) H := rfl
theorem Uq {X : Cx} : OpR X (compareOp .In) Tf := by
 intro pins s σ H x y v u Q I rx ry h
 unfold Tf at h
 split at h
 ·exact Fv pins s σ H _ _ v u Q I rx ry ⟨_, _, rfl, rfl, h⟩
 ·exact h.elim
theorem K8 (c : Nat) : (!(Builtin.Str.occurrences ("0123456789" : Str) ⟨#[c]⟩ 0 ("0123456789" : Str).length 1).isEmpty) = gA c := by
 rw [StrLaws.found_one]
 have e : ("0123456789" : Str).cps.toList = [48, 49, 50, 51, 52, 53, 54, 55, 56, 57] := by decide
 rw [e]
 unfold gA
 rw [← Bool.decide_and]
 refine decide_eq_decide.mpr ?_
 simp only [List.mem_cons, List.not_mem_nil, or_false]
 omega
theorem rM (x : Str) (c : Nat) : Txt.startswith x ⟨#[c]⟩ = decide (x.cps.toList.head? = some c) := by
 have h := StrLaws.subAt_one x c 0
 rw [← List.head?_eq_getElem?] at h
 unfold Txt.startswith
 cases e : Builtin.Str.subAt x ⟨#[c]⟩ 0 with
 | true =>
  rw [Bool.and_true]
  exact decide_eq_decide.mpr ⟨fun z => h.mp ⟨z, e⟩, fun z => (h.mpr z).1⟩
 | false =>
  rw [Bool.and_false]
  exact (decide_eq_false fun z => by have := (h.mpr z).2; rw [e] at this; cases this).symm
def S6 : V → Option Int → Option Int → Hp → VK → Prop := fun x lo hi H Q => match x with
 | .str z => z.length ≤ sizeLine ∧ Q (.str (Txt.slice z lo hi)) H
 | _ => False
theorem Nr (z : Str) (lo hi : Option Int) (H : Hp) (Q : VK) : S6 (.str z) lo hi H Q = (z.length ≤ sizeLine ∧ Q (.str (Txt.slice z lo hi)) H) := rfl
theorem Ih {X : Cx} : SlR X S6 := by
 intro pins s σ H x v vl vu lo hi sl Q I rx hs pl pu h
 unfold S6 at h
 split at h
 ·rename_i z
  obtain ⟨hz, q⟩ := h
  obtain ⟨t, rfl⟩ := rx
  refine ⟨"str", _, F.slot_str_getitem.lookup, typeIs_str _ _ _, ?_⟩
  have fin : ∀ t' k, EP X pins σ Q (.str (Txt.slice z lo hi) t') { s with toks := k } := fun t' k => ⟨.str _, H, I.tok _, ⟨_, rfl⟩, q⟩
  cases pl with
  | none =>
   cases pu with
   | none => exact wpAny_getItem_str_slice (l := none) (u := none) (st := none) hs rfl (post_val_or_str ⟨Nat.le_trans (Txt.slice_le z _ _) hz, fin⟩)
   | int j uj => exact wpAny_getItem_str_slice (l := none) (u := some (j, uj)) (st := none) hs rfl (post_val_or_str ⟨Nat.le_trans (Txt.slice_le z _ _) hz, fin⟩)
  | int i ui =>
   cases pu with
   | none => exact wpAny_getItem_str_slice (l := some (i, ui)) (u := none) (st := none) hs rfl (post_val_or_str ⟨Nat.le_trans (Txt.slice_le z _ _) hz, fin⟩)
   | int j uj => exact wpAny_getItem_str_slice (l := some (i, ui)) (u := some (j, uj)) (st := none) hs rfl (post_val_or_str ⟨Nat.le_trans (Txt.slice_le z _ _) hz, fin⟩)
 ·exact h.elim
theorem Ek {z : Str} {c : Nat} {r : List Nat} (h : z.cps.toList = c :: r) : (Txt.slice z (some 1) none).cps.toList = r := by
 have hl : z.length = r.length + 1 := by rw [← List.length_cons, ← h]; simp [Str.length]
 rw [slice_from_eq (b := (z.length : Int)) (by decide) (by omega) rfl, h]
 show (((c :: r).drop 1).take _).toArray.toList = r
 rw [List.drop_one, List.tail_cons]
 simp only [List.toList_toArray]
 exact List.take_of_length_le (by omega)
def Td : R2 := fun x y H Q => match x, y with
 | .str z, .int i => z.length ≤ sizeLine ∧ ∃ c, atI z.cps.toList i = some c ∧ Q (.str ⟨#[c]⟩) H
 | _, _ => False
theorem Nz (z : Str) (i : Int) (H : Hp) (Q : VK) : Td (.str z) (.int i) H Q = (z.length ≤ sizeLine ∧ ∃ c, atI z.cps.toList i = some c ∧ Q (.str ⟨#[c]⟩) H) := rfl
theorem Dm {X : Cx} : IxR X Td := by
 intro value slice pins s σ H x y v u Q I rx ry q hs
 unfold Td at q
 split at q
 ·obtain ⟨h1, c, h2, h3⟩ := q
  exact U7 value slice pins s σ H _ _ v u Q I rx ry ⟨_, _, c, rfl, rfl, h1, h2, h3⟩ hs
 ·exact q.elim
def Jj : List V → Hp → VK → Prop := fun vs H Q => match vs with
 | [.str z] => z.length ≤ sizeLine ∧ Q (.int z.length) H
 | _ => False
theorem Ji (z : Str) (H : Hp) (Q : VK) : Jj [.str z] H Q = (z.length ≤ sizeLine ∧ Q (.int z.length) H) := rfl
theorem vO {X : Cx} : cO X (.builtin "len") Jj := by
 intro pins s σ H xs us Q I r h
 unfold Jj at h
 split at h
 ·exact xK pins s σ H _ us Q I r ⟨_, rfl, h.1, h.2⟩
 ·exact h.elim
def rdT := And.intro @Hq (And.intro @zf (And.intro @yF (And.intro @Dk (And.intro @Fd (And.intro @Ao (And.intro @Nq (And.intro @Np (And.intro @Jr (And.intro @QZ (And.intro @QK (And.intro @NZ (And.intro @Nr (And.intro @Nz @Ji)))))))))))))
def rO : Sp := fun vs H Q _ => ∃ x : Str, vs = [.str x] ∧ x.length ≤ sizeLine ∧ ∀ H', Same H H' → Q (fW x) H'
theorem Dy {x : Str} : dR x = (if Txt.startswith x ⟨#[45]⟩ = true then Txt.slice x (some 1) none else x).cps.toList := by
 rw [rM]
 unfold dR
 by_cases c : x.cps.toList.head? = some 45
 ·rw [if_pos c, if_pos (by rw [decide_eq_true c])]
  cases e : x.cps.toList with
  | nil => rw [e] at c; cases c
  | cons a r => rw [Ek e]; rfl
 ·rw [if_neg c, if_neg (by rw [decide_eq_false c]; decide)]
theorem FN (x : Str) : eZ (fW x) = true := by
 unfold fW
 split <;> rfl
theorem vq (ts : List Str) : (ts.map fW).all eZ = true := by
 rw [List.all_map, List.all_eq_true]
 exact fun t _ => FN t
def Cm : Sp := fun vs H Q _ => ∃ (a : Addr) (ts : List Str), vs = [.ref a] ∧ H a = some (.lst (ts.map V.str)) ∧ ts.length ≤ 1000000 ∧ (∀ t ∈ ts, t.length ≤ sizeLine) ∧
 (∀ H', Same H H' → (∃ t ∈ ts, aV t = false) → Q .non H') ∧ ∀ (p : Addr) H', H p = none → Same H H' → (∀ t ∈ ts, aV t = true) → H' p = some (.lst ((ts.map eU).map V.int)) → Q (.ref p) H'
theorem qR (ts : List Str) : inV .non (ts.map fW) = true ↔ ∃ t ∈ ts, aV t = false := by
 unfold inV
 rw [List.any_map, List.any_eq_true]
 have key : ∀ t, ((fun y => eqV y V.non) ∘ fW) t = true ↔ aV t = false := fun t => by
  show eqV (fW t) V.non = true ↔ _
  unfold fW
  cases aV t with
  | true => rw [if_pos rfl]; exact ⟨fun z => (nomatch z), fun z => (nomatch z)⟩
  | false => rw [if_neg (by decide)]; exact ⟨fun _ => rfl, fun _ => rfl⟩
 exact ⟨fun ⟨t, h1, h2⟩ => ⟨t, h1, (key t).mp h2⟩, fun ⟨t, h1, h2⟩ => ⟨t, h1, (key t).mpr h2⟩⟩
theorem vp {ts : List Str} (h : ∀ t ∈ ts, aV t = true) : ts.map fW = (ts.map eU).map V.int := by
 rw [List.map_map]
 refine List.map_congr_left fun t ht => ?_
 unfold fW
 rw [if_pos (h t ht)]
 rfl
abbrev tsI (i : Int) : Str := Str.ofString (toString i)
def iU : fu → List Str
 | .ins w is => w :: is.map tsI
 | .tab n gs => "table" :: tsI n :: gs.map tsI
def jY (r : fu) : Str := Txt.join " " (iU r)
def jP (rs : List fu) : Str := Txt.join "\n" (rs.map jY)
def SmI (i : Int) : Prop := i.natAbs < 10 ^ 20
def iT : fu → Prop
 | .ins w is => w ≠ "table" ∧ (∀ i ∈ is, SmI i) ∧ is.length ≤ 4 ∧ w.length ≤ 10 ∧ 32 ∉ w.cps.toList ∧ 10 ∉ w.cps.toList
 | .tab n gs => SmI n ∧ (∀ i ∈ gs, SmI i) ∧ gs.length ≤ 200
theorem m9 {i : Int} (h : SmI i) : (tsI i).length ≤ 21 := by
 have hb := yL h
 have ho : aV (tsI i) = true := by
  unfold fW at hb
  split at hb
  ·assumption
  ·cases hb
 exact (kJ ho).2
theorem zX {i : Int} (h : SmI i) : aV (tsI i) = true ∧ eU (tsI i) = i := by
 have hb := yL h
 unfold fW at hb
 split at hb
 ·rename_i c
  exact ⟨c, V.int.inj hb⟩
 ·cases hb
theorem wu {i : Int} (h : SmI i) : i.natAbs.log2 < 1920 := by
 by_cases z : i.natAbs = 0
 ·rw [z]; decide
 ·have : i.natAbs < 2 ^ 70 := Nat.lt_of_lt_of_le h (by decide)
  have := (Nat.log2_lt z).mpr this
  omega
theorem qY {L : Nat} : ∀ {ts : List Str}, (∀ t ∈ ts, t.length ≤ L) → (ts.map (·.length)).sum ≤ ts.length * L
 | [], _ => by simp
 | t :: ts, h => by
  have h1 := h t (List.mem_cons_self ..)
  have h2 := qY fun a ha => h a (List.mem_cons_of_mem _ ha)
  rw [List.map_cons, List.sum_cons, List.length_cons]
  have e : (ts.length + 1) * L = ts.length * L + L := Nat.succ_mul ..
  omega
theorem zc {L n : Nat} {sep : Str} {ts : List Str} (h : ∀ t ∈ ts, t.length ≤ L) (hn : ts.length ≤ n) : (ts.map (·.length)).sum + ts.length * sep.length ≤ n * (L + sep.length) := by
 have h1 := qY h
 have h2 := Nat.mul_le_mul_right (L + sep.length) hn
 rw [Nat.mul_add] at h2
 omega
theorem vD {L n : Nat} {sep : Str} {ts : List Str} (h : ∀ t ∈ ts, t.length ≤ L) (hn : ts.length ≤ n) (hb : n * (L + sep.length) ≤ 10000000) : JoinOk sep ts = true := by
 unfold JoinOk Builtin.Str.tooLong
 rw [StrLaws.joinTotal, Bool.not_eq_true', decide_eq_false_iff_not]
 have := zc (sep := sep) h hn
 rw [sizeLine_eq]
 omega
theorem join_le {L n : Nat} {sep : Str} {ts : List Str} (h : ∀ t ∈ ts, t.length ≤ L) (hn : ts.length ≤ n) : (Txt.join sep ts).length ≤ n * (L + sep.length) := by
 show (Builtin.Str.glued sep ts).length ≤ _
 rw [StrLaws.glued_eq_join]
 exact Nat.le_trans (StrLaws.join_length_le sep ts) (zc h hn)
theorem lM {r : fu} (h : iT r) : (∀ t ∈ iU r, t.length ≤ 21) ∧ (iU r).length ≤ 202 := by
 cases r with
 | ins w is =>
  obtain ⟨_, h1, h2, h3, _⟩ := h
  refine ⟨fun t ht => ?_, ?_⟩
  ·rcases List.mem_cons.mp ht with rfl | ht
   ·omega
   ·obtain ⟨i, hi, rfl⟩ := List.mem_map.mp ht
    exact m9 (h1 i hi)
  ·show (w :: is.map tsI).length ≤ 202
   rw [List.length_cons, List.length_map]
   omega
 | tab n gs =>
  obtain ⟨h1, h2, h3⟩ := h
  refine ⟨fun t ht => ?_, ?_⟩
  ·rcases List.mem_cons.mp ht with rfl | ht
   ·decide
   ·rcases List.mem_cons.mp ht with rfl | ht
    ·exact m9 h1
    ·obtain ⟨i, hi, rfl⟩ := List.mem_map.mp ht
     exact m9 (h2 i hi)
  ·show (("table" : Str) :: tsI n :: gs.map tsI).length ≤ 202
   rw [List.length_cons, List.length_cons, List.length_map]
   omega
theorem rY {r : fu} (h : iT r) : JoinOk " " (iU r) = true := vD (lM h).1 (lM h).2 (by decide)
theorem Iu {r : fu} (h : iT r) : (jY r).length ≤ 4444 := join_le (sep := " ") (lM h).1 (lM h).2
theorem Ai {rs : List fu} (h : ∀ r ∈ rs, iT r) (hl : rs.length ≤ 400) : JoinOk "\n" (rs.map jY) = true :=
 vD (L := 4444) (n := 400) (fun t ht => by
  obtain ⟨r, hr, rfl⟩ := List.mem_map.mp ht
  exact Iu (h r hr)) (by rw [List.length_map]; exact hl) (by decide)
def uY : Sp := fun vs H Q _ => ∃ (v : V) (ok : Addr → Prop) (r : fu), vs = [v] ∧ bf ok H v (nF r) ∧ iT r ∧ ∀ H', Same H H' → Q (.str (jY r)) H'
def wdV : V → Str
 | .str t => t
 | .int n => tsI n
 | _ => ""
def Wh : V → Prop
 | .str _ => True
 | .int n => SmI n
 | _ => False
theorem RT (w : Str) (is : List Int) : (V.str w :: is.map V.int).map wdV = iU (.ins w is) := by
 show w :: (is.map V.int).map wdV = w :: is.map tsI
 rw [List.map_map]
 rfl
theorem FJ {is : List Int} (h : ∀ i ∈ is, SmI i) : ∀ v ∈ is.map V.int, Wh v := fun v hv => by
 obtain ⟨i, hi, rfl⟩ := List.mem_map.mp hv
 exact h i hi
def Xf (H : Hp) (ys : List V) : fu → Prop
 | .ins w is => ys = V.str w :: is.map V.int
 | .tab n gs => ∃ b, ys = [V.str "table", V.int n, V.ref b] ∧ H b = some (.tup (gs.map V.int))
theorem Hi {ok : Addr → Prop} {H : Hp} {v : V} {r : fu} (t : bf ok H v (nF r)) : ∃ (a : Addr) (ys : List V), v = .ref a ∧ H a = some (.tup ys) ∧ Xf H ys r := by
 cases r with
 | ins w is =>
  cases t with
  | tup o e z ts =>
   cases ts with
   | cons t1 ts =>
    cases t1
    rw [ts.ints] at e
    exact ⟨_, _, rfl, e, rfl⟩
 | tab n gs =>
  cases t with
  | tup o e z ts => cases ts with | cons t1 ts => cases t1; cases ts with | cons t2 ts => cases t2; cases ts with | cons t3 ts => cases ts; cases t3 with | tup o3 e3 z3 ts3 => rw [ts3.ints] at e3; exact ⟨_, _, rfl, e, _, rfl, e3⟩
def fD : List Str → PyData
 | [] => .none
 | w :: ts => if ts.all aV = true then (if w = "table" ∧ ts ≠ [] then .tuple [.str "table", .int (eU (ts.headD "")), .tuple ((ts.tail.map eU).map PyData.int)]
   else .tuple (.str w :: (ts.map eU).map PyData.int)) else .none
theorem gJ {t : Str} {r : List Str} (h : (t :: r).all aV = true) : fD ("table" :: t :: r) = .tuple [.str "table", .int (eU t), .tuple ((r.map eU).map PyData.int)] := by
 show (if (t :: r).all aV = true then _ else PyData.none) = _
 rw [if_pos h, if_pos ⟨rfl, List.cons_ne_nil _ _⟩]
 rfl
theorem fY {w : Str} {ts : List Str} (h : ts.all aV = true) (hw : ¬ (w = "table" ∧ ts ≠ [])) : fD (w :: ts) = .tuple (.str w :: (ts.map eU).map PyData.int) := by
 show (if ts.all aV = true then _ else PyData.none) = _
 rw [if_pos h, if_neg hw]
def eO (x : Str) : PyData := fD (Txt.split x " ")
def u5 : Sp := fun vs H Q _ => ∃ (x : Str) (ok : Addr → Prop), vs = [.str x] ∧ Mj ok H ∧ x.length ≤ sizeLine ∧ (Txt.split x " ").length ≤ 1000000 ∧ ∀ (v : V) H', Same H H' → bf ok H' v (eO x) → Q v H'
theorem kI (x : Str) (c : Nat) : ∀ t ∈ Txt.split x ⟨#[c]⟩, t.length ≤ x.length := by
 have h : ∀ (ps : List (List Nat)) (p : List Nat), p ∈ ps → p.length ≤ (jnL c ps).length := by
  intro ps
  induction ps with
  | nil => intro p hp; cases hp
  | cons a ps ih =>
   intro p hp
   cases ps with
   | nil =>
    have e := List.mem_singleton.mp hp
    exact e ▸ Nat.le_refl _
   | cons b r =>
    have e : (jnL c (a :: b :: r)).length = a.length + ((jnL c (b :: r)).length + 1) := by
     show (a ++ c :: jnL c (b :: r)).length = _
     rw [List.length_append, List.length_cons]
    rw [e]
    rcases List.mem_cons.mp hp with rfl | hp
    ·omega
    ·have := ih p hp
     omega
 intro t ht
 have e := congrArg (fun z : Str => z.cps.toList) (StrLaws.join_split x ⟨#[c]⟩)
 simp only [lA] at e
 have := h _ _ (List.mem_map_of_mem (f := fun t : Str => t.cps.toList) ht)
 rw [e] at this
 simp only [Array.length_toList] at this
 exact this
theorem qd : ((" " : Str)) = ⟨#[32]⟩ := by decide +kernel
theorem Dd : (("\n" : Str)) = ⟨#[10]⟩ := by decide +kernel
theorem j9 (x : Str) : ∃ w ts, Txt.split x " " = w :: ts := by
 rw [qd]
 cases e : Txt.split x ⟨#[32]⟩ with
 | nil => exact absurd e (j8 x 32)
 | cons w ts => exact ⟨w, ts, rfl⟩
theorem zZ {w : Str} {is : List Int} (h : cu w is = true) : 32 ∉ w.cps.toList ∧ 10 ∉ w.cps.toList := by
 have hw : w = "pick" ∨ w = "is" ∨ w = "below" ∨ w = "within" ∨ w = "mask" := by
  unfold cu at h
  split at h
  ·rw [Bool.and_eq_true, decide_eq_true_eq] at h
   exact .inl h.1
  ·simp only [Bool.or_eq_true, decide_eq_true_eq] at h
   rcases h with h | h
   ·exact .inr (.inl h)
   ·exact .inr (.inr (.inl h))
  ·rw [Bool.and_eq_true, decide_eq_true_eq] at h
   exact .inr (.inr (.inr (.inl h.1)))
  ·rw [Bool.and_eq_true, decide_eq_true_eq] at h
   exact .inr (.inr (.inr (.inr h.1)))
  ·cases h
 rcases hw with rfl | rfl | rfl | rfl | rfl <;> exact ⟨by decide +kernel, by decide +kernel⟩
theorem su {many own : Int} {r : fu} (h : gF many own r) (h0 : 0 ≤ own) (hm : many ≤ 1000000) : iT r := by
 cases r with
 | ins w is =>
  obtain ⟨h1, h2, _, h4, h5, h6⟩ := h
  exact ⟨h1, fun i hi => Nat.lt_of_le_of_lt (h4 i hi) (by decide), h5, h6, zZ h2⟩
 | tab n gs =>
  obtain ⟨_, h2, h3, h4⟩ := h
  refine ⟨Nat.lt_of_le_of_lt h4 (by decide), fun i hi => ?_, h2⟩
  have := List.all_eq_true.mp h3 i hi
  unfold btw at this
  simp only [Bool.and_eq_true, decide_eq_true_eq] at this
  show i.natAbs < 10 ^ 20
  have : i.natAbs < 1000000 := by omega
  exact Nat.lt_of_lt_of_le this (by decide)
theorem rW {r : fu} (h : iT r) : ∀ t ∈ iU r, 32 ∉ t.cps.toList ∧ 10 ∉ t.cps.toList := by
 have hi : ∀ i : Int, 32 ∉ (tsI i).cps.toList ∧ 10 ∉ (tsI i).cps.toList := fun i => ⟨int_text_free' 32 (by decide) i, int_text_free' 10 (by decide) i⟩
 intro t ht
 cases r with
 | ins w is =>
  rcases List.mem_cons.mp ht with rfl | ht
  ·exact h.2.2.2.2
  ·obtain ⟨i, _, rfl⟩ := List.mem_map.mp ht
   exact hi i
 | tab n gs =>
  rcases List.mem_cons.mp ht with rfl | ht
  ·exact ⟨by decide +kernel, by decide +kernel⟩
  ·rcases List.mem_cons.mp ht with rfl | ht
   ·exact hi n
   ·obtain ⟨i, _, rfl⟩ := List.mem_map.mp ht
    exact hi i
theorem Iv (r : fu) : iU r ≠ [] := by
 cases r <;> exact List.cons_ne_nil _ _
theorem Kp {c a : Nat} : ∀ {ps : List (List Nat)}, a ∈ jnL c ps → a = c ∨ ∃ p ∈ ps, a ∈ p
 | [], h => (nomatch h)
 | [p], h => .inr ⟨p, List.mem_singleton_self p, h⟩
 | p :: q :: r, h => by
  replace h : a ∈ p ++ c :: jnL c (q :: r) := h
  rcases List.mem_append.mp h with hp | h
  ·exact .inr ⟨p, List.mem_cons_self .., hp⟩
  ·rcases List.mem_cons.mp h with h | h
   ·exact .inl h
   ·rcases Kp h with h | ⟨s, hs, h⟩
    ·exact .inl h
    ·exact .inr ⟨s, List.mem_cons_of_mem _ hs, h⟩
theorem Ak {r : fu} (h : iT r) : Txt.split (jY r) " " = iU r := by
 unfold jY
 rw [qd]
 exact rN (Iv r) fun t ht => (rW h t ht).1
theorem Ey {r : fu} (h : iT r) : 10 ∉ (jY r).cps.toList := by
 unfold jY
 rw [qd]
 show 10 ∉ (Builtin.Str.glued ⟨#[32]⟩ (iU r)).cps.toList
 rw [StrLaws.glued_eq_join, lA]
 intro z
 rcases Kp z with z | ⟨p, hp, z⟩
 ·cases z
 ·obtain ⟨t, ht, rfl⟩ := List.mem_map.mp hp
  exact (rW h t ht).2 z
theorem yx {rs : List fu} (h : ∀ r ∈ rs, iT r) (hne : rs ≠ []) : Txt.split (jP rs) "\n" = rs.map jY := by
 unfold jP
 rw [Dd]
 refine rN (by simpa using hne) fun t ht => ?_
 obtain ⟨r, hr, rfl⟩ := List.mem_map.mp ht
 exact Ey (h r hr)
theorem vH {is : List Int} (h : ∀ i ∈ is, SmI i) : (is.map tsI).all aV = true ∧ (is.map tsI).map eU = is := by
 refine ⟨?_, ?_⟩
 ·rw [List.all_map, List.all_eq_true]
  exact fun i hi => (zX (h i hi)).1
 ·rw [List.map_map]
  refine (List.map_congr_left fun i hi => ?_).trans (List.map_id is)
  exact (zX (h i hi)).2
theorem sy {r : fu} (h : iT r) : eO (jY r) = nF r := by
 unfold eO
 rw [Ak h]
 cases r with
 | ins w is =>
  obtain ⟨h1, h2⟩ := vH h.2.1
  rw [show iU (.ins w is) = w :: is.map tsI from rfl, fY h1 fun z => h.1 z.1, h2]
  rfl
 | tab n gs =>
  obtain ⟨h1, h2⟩ := vH h.2.1
  have hn := zX h.1
  rw [show iU (.tab n gs) = ("table" : Str) :: tsI n :: gs.map tsI from rfl, gJ (by rw [List.all_cons, hn.1, h1]; rfl), h2, hn.2]
  rfl
def vm : R2 := fun x y H Q => match x, y with
 | .str a, .str b => a.length + b.length ≤ sizeLine ∧ Q (.str (a ++ b)) H
 | x, y => yG x y H Q
theorem Og (a b : Str) (H : Hp) (Q : VK) : vm (.str a) (.str b) H Q = (a.length + b.length ≤ sizeLine ∧ Q (.str (a ++ b)) H) := rfl
theorem CP (a b : Int) (H : Hp) (Q : VK) : vm (.int a) (.int b) H Q = Q (.int (a + b)) H := rfl
theorem CN (p q : Addr) (H : Hp) (Q : VK) : vm (.ref p) (.ref q) H Q = adq (H p) (H q) H Q := rfl
theorem bG {X : Cx} : OpR X (binaryOp .Add) vm := by
 intro pins s σ H x y v u Q I rx ry h
 unfold vm at h
 split at h
 ·exact Ax pins s σ H _ _ v u Q I rx ry ⟨_, _, rfl, rfl, h.1, h.2⟩
 ·exact cI pins s σ H _ _ v u Q I rx ry h
def S5 : V → Option Int → Option Int → Hp → VK → Prop := fun x lo hi H Q => match x with
 | .str z => z.length ≤ sizeLine ∧ Q (.str (Txt.slice z lo hi)) H
 | x => Nt x lo hi H Q
theorem SX (z : Str) (lo hi : Option Int) (H : Hp) (Q : VK) : S5 (.str z) lo hi H Q = (z.length ≤ sizeLine ∧ Q (.str (Txt.slice z lo hi)) H) := rfl
theorem IV (p : Addr) (lo hi : Option Int) (H : Hp) (Q : VK) : S5 (.ref p) lo hi H Q = slq (H p) lo hi H Q := rfl
theorem jX {X : Cx} : SlR X S5 := by
 intro pins s σ H x v vl vu lo hi sl Q I rx hs pl pu h
 cases x with
 | str z => exact Ih pins s σ H _ v vl vu lo hi sl Q I rx hs pl pu h
 | _ => exact zY pins s σ H _ v vl vu lo hi sl Q I rx hs pl pu h
def NK : R2 := fun x y H Q => match x, y with
 | .str z, .int i => z.length ≤ sizeLine ∧ ∃ c, atI z.cps.toList i = some c ∧ Q (.str ⟨#[c]⟩) H
 | x, y => NP x y H Q
theorem Te (z : Str) (i : Int) (H : Hp) (Q : VK) : NK (.str z) (.int i) H Q = (z.length ≤ sizeLine ∧ ∃ c, atI z.cps.toList i = some c ∧ Q (.str ⟨#[c]⟩) H) := rfl
theorem Jk (p : Addr) (i : Int) (H : Hp) (Q : VK) : NK (.ref p) (.int i) H Q = ixq (H p) i H Q := rfl
theorem Ks {X : Cx} : IxR X NK := by
 intro value slice pins s σ H x y v u Q I rx ry q hs
 unfold NK at q
 split at q
 ·exact Dm value slice pins s σ H _ _ v u Q I rx ry q hs
 ·exact cF value slice pins s σ H _ _ v u Q I rx ry q hs
def CG : List V → Hp → VK → Prop := fun vs H Q => match vs with
 | [.str z] => z.length ≤ sizeLine ∧ Q (.int z.length) H
 | vs => CJ vs H Q
theorem Nx (z : Str) (H : Hp) (Q : VK) : CG [.str z] H Q = (z.length ≤ sizeLine ∧ Q (.int z.length) H) := rfl
theorem Ny (p : Addr) (H : Hp) (Q : VK) : CG [.ref p] H Q = lnq (H p) H Q := rfl
theorem jz {X : Cx} : cO X (.builtin "len") CG := by
 intro pins s σ H xs us Q I r h
 unfold CG at h
 split at h
 ·exact vO pins s σ H _ us Q I r h
 ·exact cg pins s σ H _ us Q I r h
def Jd : R2 := fun x y H Q => match x, y with
 | .str i, .str j => Q (.bl (!(!(Builtin.Str.occurrences j i 0 j.length 1).isEmpty))) H
 | _, _ => False
theorem Jc (i j : Str) (H : Hp) (Q : VK) : Jd (.str i) (.str j) H Q = Q (.bl (!(!(Builtin.Str.occurrences j i 0 j.length 1).isEmpty))) H := rfl
theorem PK {X : Cx} : OpR X (compareOp .NotIn) Jd := by
 intro pins s σ H x y v u Q I rx ry h
 unfold Jd at h
 split at h
 ·exact wR pins s σ H _ _ v u Q I rx ry ⟨_, _, rfl, rfl, h⟩
 ·exact h.elim
def rdX := And.intro @rdT (And.intro @Og (And.intro @CP (And.intro @CN (And.intro @SX (And.intro @IV (And.intro @Te (And.intro @Jk (And.intro @Nx (And.intro @Ny @Jc)))))))))
theorem u9 {z : Str} : Txt.slice z none (some 1) = ⟨#[45]⟩ ↔ z.cps.toList.head? = some 45 := by
 cases e : z.cps.toList with
 | nil =>
  have hz : z = ⟨#[]⟩ := Str.ext' (Array.toList_inj.mp e)
  subst hz
  have h0 := Txt.slice_le ⟨#[]⟩ none (some 1)
  refine ⟨fun z => ?_, fun z => (nomatch z)⟩
  rw [z] at h0
  exact absurd h0 (by decide)
 | cons c r =>
  have hl : z.length = r.length + 1 := by rw [← List.length_cons, ← e]; simp [Str.length]
  have hs : Txt.slice z none (some 1) = ⟨#[c]⟩ := by
   have := beq_iff_eq.mp (slice_closes_toL (x := z) (j := 1) (by decide) (by omega))
   rw [this, e]
   rfl
  rw [hs, List.head?_cons]
  exact ⟨fun z => by injection z with z; injection z with z; injection z with z; rw [z], fun z => by cases z; rfl⟩
def m7 : List (Key × V) := [(Sum.inr "is", .int 2), (Sum.inr "within", .int 3), (Sum.inr "below", .int 2), (Sum.inr "mask", .int 4), (Sum.inr "pick", .int 1)]
theorem Ej : pI [] m7 = m7 := by decide +kernel
theorem MJ (w : Str) : (rD m7 (Sum.inr w)).getD (.int (-1)) = .int (lZ w - 1) := by
 have ne : ∀ {a b : Str}, a ≠ b → ¬ (Sum.inr b : Key) = Sum.inr a := fun h z => h (Sum.inr.inj z).symm
 unfold m7
 rcases jD w with ⟨rfl, e⟩ | ⟨rfl, e⟩ | ⟨rfl, e⟩ | ⟨rfl, e⟩ | ⟨rfl, e⟩ | ⟨e, h1, h3, h2, h4, h5⟩
 ·rw [e]; decide +kernel
 ·rw [e]; decide +kernel
 ·rw [e]; decide +kernel
 ·rw [e]; decide +kernel
 ·rw [e]; decide +kernel
 ·rw [e, iJ (ne h1), iJ (ne h2), iJ (ne h3), iJ (ne h4), iJ (ne h5)]
  rfl
def uZ : Sp := fun vs H Q _ => ∃ (a : Addr) (own many : Int) (w : Str) (ts : List Str) (ok : Addr → Prop), vs = [.ref a, .int own, .int many] ∧ H a = some (.lst ((w :: ts).map V.str)) ∧ ts.length ≤ 900000 ∧ (∀ t ∈ w :: ts, t.length ≤ sizeLine) ∧ Mj ok H ∧
 (bT own many (fD (w :: ts)) = false → ∀ H', Same H H' → Q .non H') ∧ (bT own many (fD (w :: ts)) = true → ∀ v H', Same H H' → bf ok H' v (fD (w :: ts)) → Q v H')
theorem EY {w : Str} {ts : List Str} {own many : Int} (h : ∃ t ∈ ts, aV t = false) : bT own many (fD (w :: ts)) = false := by
 obtain ⟨t, ht, hf⟩ := h
 have e : fD (w :: ts) = .none := by
  show (if ts.all aV = true then _ else PyData.none) = _
  rw [if_neg fun z => by have := List.all_eq_true.mp z t ht; rw [hf] at this; cases this]
 rw [e]
 rfl
theorem vh {w : Str} {is : List Int} {own many : Int} (h : w ≠ "table") : bT own many (.tuple (.str w :: is.map PyData.int)) = (cu w is && (gB w is).all (btw own many)) := by
 unfold bT
 rw [qi h]
 congr 2
 unfold jj
 simp only [if_neg h, jn]
theorem pq {n : Int} {gs : List Int} {own many : Int} : bT own many (.tuple [.str "table", .int n, .tuple (gs.map PyData.int)]) = (!gs.isEmpty && gs.all (btw own many)) := by
 unfold bT gG jj
 simp only [if_pos rfl, rG, ju, List.isEmpty_map, Bool.and_true]
 cases gs with
 | nil => rfl
 | cons g gs =>
  simp only [List.isEmpty_cons, Bool.not_false, if_true, Option.isSome_some, Bool.true_and, Option.getD_some, jn]
theorem rZ {own many : Int} : bT own many (.tuple [.str "table"]) = false := by
 unfold bT gG
 simp only [if_pos rfl]
 rfl
def firstBad (many : Int) : Nat → List Str → Option Nat
 | _, [] => none
 | i, r :: rs => if bT (i : Int) many (eO r) = true then firstBad many (i + 1) rs else some i
def rowsOf (x : Str) : List Str := Txt.split x "\n"
def jV (x : Str) : Option Nat := firstBad ((rowsOf x).length : Int) 0 (rowsOf x)
def j6 (x : Str) : PyData := match jV x with
 | some j => .tuple [.str "text", .int (j : Int)]
 | none => .list ((rowsOf x).map eO)
theorem Es (x : Str) : rowsOf x ≠ [] := by
 unfold rowsOf
 rw [Dd]
 exact j8 x 10
theorem Kq {c : Nat} : ∀ {ps : List (List Nat)}, ps ≠ [] → (jnL c ps).length + 1 = (ps.map (·.length)).sum + ps.length
 | [], h => absurd rfl h
 | [p], _ => by
  show p.length + 1 = p.length + 0 + 1
  omega
 | p :: q :: r, _ => by
  have ih := Kq (c := c) (ps := q :: r) (List.cons_ne_nil _ _)
  have e : (jnL c (p :: q :: r)).length = p.length + ((jnL c (q :: r)).length + 1) := by
   show (p ++ c :: jnL c (q :: r)).length = _
   rw [List.length_append, List.length_cons]
  rw [List.map_cons, List.sum_cons, List.length_cons, e]
  omega
theorem lQ (x : Str) (c : Nat) : ((Txt.split x ⟨#[c]⟩).map (·.length)).sum + (Txt.split x ⟨#[c]⟩).length = x.length + 1 := by
 have e := congrArg (fun z : Str => z.cps.toList) (StrLaws.join_split x ⟨#[c]⟩)
 simp only [lA] at e
 have h := Kq (c := c) (ps := (Txt.split x ⟨#[c]⟩).map fun t => t.cps.toList) (by simpa using j8 x c)
 rw [e, List.map_map, List.length_map] at h
 have e2 : ((List.length ∘ fun t : Str => t.cps.toList)) = fun t : Str => t.length := by
  funext t
  simp [Str.length]
 have e3 : x.cps.toList.length = x.length := by simp [Str.length]
 rw [e3] at h
 rw [show ((fun x : List Nat => x.length) ∘ fun t : Str => t.cps.toList) = fun t : Str => t.length from e2] at h
 exact h.symm
theorem rT (x : Str) : (rowsOf x).length ≤ x.length + 1 ∧ ∀ r ∈ rowsOf x, r.length ≤ x.length := by
 unfold rowsOf
 rw [Dd]
 have := lQ x 10
 exact ⟨by omega, kI x 10⟩
theorem oU (x : Str) : (Txt.split x " ").length ≤ x.length + 1 := by
 rw [qd]
 have := lQ x 32
 omega
theorem yD {ok : Addr → Prop} {H : Hp} {v : V} {w : Str} {ts : List Str} {own many : Int} (h : bT own many (fD (w :: ts)) = true) (t : bf ok H v (fD (w :: ts))) : ∃ p ys, v = .ref p ∧ H p = some (.tup (V.str w :: ys)) := by
 by_cases c : ts.all aV = true
 ·by_cases d : w = "table" ∧ ts ≠ []
  ·obtain ⟨rfl, d2⟩ := d
   cases ts with
   | nil => exact absurd rfl d2
   | cons a r =>
    rw [gJ c] at t
    cases t with
    | tup o e z tt => cases tt with | cons t1 tt => cases t1; exact ⟨_, _, rfl, e⟩
  ·rw [fY c d] at t
   cases t with
   | tup o e z tt => cases tt with | cons t1 tt => cases t1; exact ⟨_, _, rfl, e⟩
 ·have e : fD (w :: ts) = .none := by
   show (if ts.all aV = true then _ else PyData.none) = _
   rw [if_neg c]
  rw [e] at h
  cases h
theorem Al {w : Str} {ts : List Str} {own many : Int} (h : bT own many (fD (w :: ts)) = true) (hl : own = many - 1) : w = "pick" := by
 have nob : ∀ g : Int, btw own many g = false := fun g => by
  unfold btw
  by_cases c : own < g
  ·rw [decide_eq_false (show ¬ g < many by omega), Bool.and_false]
  ·rw [decide_eq_false c, Bool.false_and]
 by_cases c : ts.all aV = true
 ·by_cases d : w = "table" ∧ ts ≠ []
  ·obtain ⟨rfl, d2⟩ := d
   cases ts with
   | nil => exact absurd rfl d2
   | cons a r =>
    rw [gJ c, pq] at h
    cases hr : r.map eU with
    | nil => rw [hr] at h; cases h
    | cons g gs =>
     rw [hr, List.all_cons, nob g] at h
     simp at h
  ·rw [fY c d] at h
   by_cases hT : w = "table"
   ·have ht : ts = [] := by
     cases ts with
     | nil => rfl
     | cons a r => exact absurd ⟨hT, List.cons_ne_nil _ _⟩ d
    subst ht
    subst hT
    replace h : bT own many (.tuple [.str "table"]) = true := h
    rw [rZ] at h
    cases h
   ·rw [vh hT, Bool.and_eq_true] at h
    by_cases hp : w = "pick"
    ·exact hp
    ·cases hg : (ts.map eU).getLast? with
     | none =>
      rw [List.getLast?_eq_none_iff.mp hg] at h
      exact absurd (show false = true from h.1) (by decide)
     | some t =>
      rw [dF hp hg, List.all_cons, nob t] at h
      exact absurd (show false = true from h.2) (by decide)
 ·have e : fD (w :: ts) = .none := by
   show (if ts.all aV = true then _ else PyData.none) = _
   rw [if_neg c]
  rw [e] at h
  cases h
theorem zE {many : Int} {rs : List Str} {i : Nat} {r : Str} (h : rs[i]? = some r) (hi : firstBad many 0 rs = firstBad many i (rs.drop i)) : (bT (i : Int) many (eO r) = true → firstBad many 0 rs = firstBad many (i + 1) (rs.drop (i + 1))) ∧ (bT (i : Int) many (eO r) = false → firstBad many 0 rs = some i) := by
 have hl := (List.getElem?_eq_some_iff.mp h).1
 have e : rs.drop i = r :: rs.drop (i + 1) := by
  rw [List.drop_eq_getElem_cons hl]
  rw [List.getElem?_eq_getElem hl] at h
  rw [Option.some.inj h]
 rw [e] at hi
 have e2 : firstBad many i (r :: rs.drop (i + 1)) = if bT (i : Int) many (eO r) = true then firstBad many (i + 1) (rs.drop (i + 1)) else some i := rfl
 rw [e2] at hi
 exact ⟨fun z => by rw [hi, if_pos z], fun z => by rw [hi, if_neg (by rw [z]; decide)]⟩
def wk : Sp := fun vs H Q _ => ∃ (x : Str), vs = [.str x] ∧ x.length ≤ 900000 ∧ ∀ v H', Same H H' → bf (fun _ => True) H' v (j6 x) → Q v H'
def qe (C : Addr) : Sp := fun vs H Q E => ∃ (x : Str), vs = [.str x] ∧ x.length ≤ 900000 ∧
 (jV x = none → ∀ (p : Addr) H', Same H H' → bf (fun _ => True) H' (.ref p) (.list ((rowsOf x).map eO)) → Q (.ref p) H') ∧
 (∀ j : Nat, jV x = some j → ∀ dx H', Same H H' → H' dx = some (.xd [("row", .int (j : Int))]) → E (.ref C) (some dx) H')
def yg : Sp := fun vs H Q _ => ∃ (p : Addr) (x : Str) (B : Int), vs = [.ref p, .str x] ∧ cH H p B ∧ 0 ≤ B ∧ B ≤ 900000 ∧ x.length ≤ 200000 ∧ ∀ (z : Str) H', bU p H H' → cH H' p (B + 20) → z.length ≤ 4 * x.length + 4 → Q (.str z) H'
theorem eG (a b : Str) : (a ++ b).length = a.length + b.length := Str.length_append a b
theorem Lk (ts : List Str) (lo hi : Option Int) : ∃ us : List Str, jy (ts.map V.str) lo hi = us.map V.str ∧ us.Sublist ts := by
 refine ⟨(ts.drop (HT.sIx (ts.map V.str).length 0 lo)).take (HT.sIx (ts.map V.str).length (ts.map V.str).length hi - HT.sIx (ts.map V.str).length 0 lo), ?_, (List.take_sublist _ _).trans (List.drop_sublist _ _)⟩
 unfold jy
 simp only [List.map_take, List.map_drop]
theorem qO {us ts : List Str} (h : us.Sublist ts) : (us.map (·.length)).sum + us.length ≤ (ts.map (·.length)).sum + ts.length := by
 induction h with
 | slnil => exact Nat.le_refl _
 | cons a _ ih =>
  rw [List.map_cons, List.sum_cons, List.length_cons]
  omega
 | cons_cons a _ ih =>
  rw [List.map_cons, List.map_cons, List.sum_cons, List.sum_cons, List.length_cons, List.length_cons]
  omega
theorem join_one {c : Nat} {us : List Str} {n : Nat} (h : (us.map (·.length)).sum + us.length ≤ n) (hn : n ≤ 1000000) : JoinOk ⟨#[c]⟩ us = true ∧ (Txt.join ⟨#[c]⟩ us).length ≤ n := by
 have e : (⟨#[c]⟩ : Str).length = 1 := rfl
 refine ⟨?_, ?_⟩
 ·unfold JoinOk Builtin.Str.tooLong
  rw [StrLaws.joinTotal, Bool.not_eq_true', decide_eq_false_iff_not, e, sizeLine_eq]
  omega
 ·have h1 := StrLaws.join_length_le ⟨#[c]⟩ us
  rw [← StrLaws.glued_eq_join, e] at h1
  show (Builtin.Str.glued ⟨#[c]⟩ us).length ≤ n
  omega
theorem slS {Hx : Hp} {l : Addr} {ps : List Str} {lo hi : Option Int} {Qk : VK} (e : Hx l = some (.lst (ps.map V.str))) (h : ∀ (pn : Addr) (us : List Str) H', Same Hx H' → us.Sublist ps → H' pn = some (.lst (us.map V.str)) → Qk (.ref pn) H') : slq (Hx l) lo hi Hx Qk := by
 rw [e, Cu]
 intro pn hpn
 obtain ⟨us, e1, hs⟩ := Lk ps lo hi
 rw [e1]
 exact h pn us _ (au hpn) hs aB
theorem adS {Hx : Hp} {a b : Addr} {A B : List Str} {Qk : VK} (ea : Hx a = some (.lst (A.map V.str))) (eb : Hx b = some (.lst (B.map V.str))) (hl : A.length + B.length ≤ 1000000) (h : ∀ (pn : Addr) H', Same Hx H' → H' pn = some (.lst ((A ++ B).map V.str)) → Qk (.ref pn) H') : vm (.ref a) (.ref b) Hx Qk := by
 rw [CN, ea, eb, Ca]
 refine ⟨aQ (by rw [List.length_map, List.length_map]; exact hl), fun pn hpn => ?_⟩
 exact h pn _ (au hpn) (by rw [aB, List.map_append])
theorem Lh {g : Int} (h0 : 0 ≤ g) (h1 : g < 10) : (tsI g).length = 1 := by
 have : g = 0 ∨ g = 1 ∨ g = 2 ∨ g = 3 ∨ g = 4 ∨ g = 5 ∨ g = 6 ∨ g = 7 ∨ g = 8 ∨ g = 9 := by omega
 rcases this with rfl | rfl | rfl | rfl | rfl | rfl | rfl | rfl | rfl | rfl <;> decide +kernel
theorem Ew {own : Int} {many : Int} {r : fu} (h : gF many own r) (h0 : 0 ≤ own) (hm : many ≤ 10) : (jY r).length ≤ 428 := by
 have hs := su h h0 (by omega)
 have hj := StrLaws.join_length_le " " (iU r)
 rw [← StrLaws.glued_eq_join] at hj
 have e1 : ((" " : Str)).length = 1 := by decide +kernel
 rw [e1] at hj
 refine Nat.le_trans (show (jY r).length ≤ _ from hj) ?_
 cases r with
 | ins w is =>
  obtain ⟨_, h2, h3, h4, _⟩ := hs
  have h5 := qY (L := 21) (ts := is.map tsI) fun t ht => by
   obtain ⟨i, hi, rfl⟩ := List.mem_map.mp ht
   exact m9 (h2 i hi)
  show ((w :: is.map tsI).map (·.length)).sum + (w :: is.map tsI).length * 1 ≤ _
  rw [List.map_cons, List.sum_cons, List.length_cons]
  rw [List.length_map] at h5 ⊢
  omega
 | tab n gs =>
  obtain ⟨h2, _, h4⟩ := hs
  have h5 := qY (L := 1) (ts := gs.map tsI) fun t ht => by
   obtain ⟨i, hi, rfl⟩ := List.mem_map.mp ht
   have := List.all_eq_true.mp h.2.2.1 i hi
   unfold btw at this
   rw [Bool.and_eq_true, decide_eq_true_eq, decide_eq_true_eq] at this
   exact Nat.le_of_eq (Lh (by omega) (by omega))
  have h6 := m9 h2
  have h7 : (("table" : Str)).length = 5 := by decide +kernel
  show ((("table" : Str) :: tsI n :: gs.map tsI).map (·.length)).sum + (("table" : Str) :: tsI n :: gs.map tsI).length * 1 ≤ _
  rw [List.map_cons, List.map_cons, List.sum_cons, List.sum_cons, List.length_cons, List.length_cons]
  rw [List.length_map] at h5 ⊢
  omega
theorem Ah {rs : List fu} {m : Int} (h : ∀ (j : Nat) r, rs[j]? = some r → gF m j r) (hm : m ≤ 10) (hl : rs.length ≤ 10) : (jP rs).length ≤ 4290 :=
 join_le (L := 428) (n := 10) (sep := "\n") (fun t ht => by
  obtain ⟨r, hr, rfl⟩ := List.mem_map.mp ht
  obtain ⟨j, hj⟩ := List.mem_iff_getElem?.mp hr
  exact Ew (h j r hj) (by omega) hm) (by rw [List.length_map]; exact hl)
theorem zF {many : Int} {f : fu → Str} (hf : ∀ r, iT r → eO (f r) = nF r) : ∀ {rs : List fu} {i : Nat}, (∀ (j : Nat) r, rs[j]? = some r → gF many ((i + j : Nat) : Int) r ∧ iT r) → firstBad many i (rs.map f) = none
 | [], _, _ => rfl
 | r :: rs, i, h => by
  have h0 := h 0 r rfl
  have hg : bT (i : Int) many (eO (f r)) = true := by
   rw [hf r h0.2]
   obtain ⟨g1, g2⟩ := Nj h0.1
   unfold bT
   rw [g1]
   exact g2
  show (if bT (i : Int) many (eO (f r)) = true then firstBad many (i + 1) (rs.map f) else some i) = none
  rw [if_pos hg]
  exact zF hf fun j r' hj => by
   have := h (j + 1) r' hj
   rwa [show i + (j + 1) = i + 1 + j by omega] at this
theorem Eh {rs : List fu} (h : ∀ (j : Nat) r, rs[j]? = some r → gF rs.length j r) (hne : rs ≠ []) (hl : rs.length ≤ 1000) : j6 (jP rs) = .list (rs.map nF) := by
 have hsm : ∀ r ∈ rs, iT r := fun r hr => by
  obtain ⟨j, hj⟩ := List.mem_iff_getElem?.mp hr
  exact su (h j r hj) (by omega) (by omega)
 have hrow : rowsOf (jP rs) = rs.map jY := yx hsm hne
 have hb : jV (jP rs) = none := by
  unfold jV
  rw [hrow, List.length_map]
  exact zF (fun r hr => sy hr) fun j r hj => ⟨by rw [Nat.zero_add]; exact h j r hj, hsm r (List.mem_of_getElem? hj)⟩
 unfold j6
 rw [hb, hrow]
 show PyData.list ((rs.map jY).map eO) = _
 rw [List.map_map]
 congr 1
 exact List.map_congr_left fun r hr => sy (hsm r hr)
theorem Ez (ws : List Str) : (fD ws).depth ≤ 2 := by
 cases ws with
 | nil => exact Nat.zero_le _
 | cons w ts =>
  by_cases c : ts.all aV = true
  ·by_cases d : w = "table" ∧ ts ≠ []
   ·obtain ⟨rfl, d2⟩ := d
    cases ts with
    | nil => exact absurd rfl d2
    | cons a r =>
     rw [gJ c]
     show max 0 (max 0 (max (PyData.depthAll ((r.map eU).map PyData.int) + 1) 0)) + 1 ≤ 2
     rw [tY]
     decide
   ·rw [fY c d]
    show max 0 (PyData.depthAll ((ts.map eU).map PyData.int)) + 1 ≤ 2
    rw [tY]
    decide
  ·have e : fD (w :: ts) = .none := by
    show (if ts.all aV = true then _ else PyData.none) = _
    rw [if_neg c]
   rw [e]
   exact Nat.zero_le _
theorem rE (x : Str) : (j6 x).depth < 5 := by
 unfold j6
 cases jV x with
 | some j =>
  show max 0 (max 0 0) + 1 < 5
  decide
 | none =>
  have : PyData.depthAll ((rowsOf x).map eO) ≤ 2 := qu fun d hd => by
   obtain ⟨r, _, rfl⟩ := List.mem_map.mp hd
   exact Ez _
  show PyData.depthAll ((rowsOf x).map eO) + 1 < 5
  omega
def Cr : Sp := fun vs H Q _ => ∃ (a : Addr) (w : Str) (ts : List Str), vs = [.ref a] ∧ H a = some (.lst ((w :: ts).map V.str)) ∧ (∀ t ∈ w :: ts, t.length ≤ sizeLine) ∧ ∀ b H', Same H H' → Q (.bl b) H'
end L2
local macro_rules | `(tactic| push_cast) => `(tactic| simp only [L2.rd0, L2.rd1, L2.rd2, L2.rd3, L2.rd4, L2.rd5, L2.rd6, L2.rd7, L2.rd8, L2.rd9, reduceIte, reduceCtorEq, Nat.reduceAdd, Nat.reduceSub])
local macro_rules | `(tactic| push_cast [$ls,*]) => `(tactic| simp only [L2.rd0, L2.rd1, L2.rd2, L2.rd3, L2.rd4, L2.rd5, L2.rd6, L2.rd7, L2.rd8, L2.rd9, reduceIte, reduceCtorEq, Nat.reduceAdd, Nat.reduceSub, $ls,*])
namespace K49
open PySem L2 PyProof.Rows
def top (i : Nat) : Stmt := PySem.Challenge.pw_caseways_k49_whole_rows_texts_spoilt.main.body.getD i (.Pass ⟨0, 0, 0, 0⟩)
abbrev BLs : List Str := ["ValueError", "abs", "all", "any", "bool", "enumerate", "int", "isinstance", "len", "list", "max", "min", "range", "str", "tuple", "zip"]
theorem uE : ("ValueError" : Str) ∈ BLs := by decide +kernel
theorem Kd : ("abs" : Str) ∈ BLs := by decide +kernel
theorem tE : ("all" : Str) ∈ BLs := by decide +kernel
theorem Kc : ("any" : Str) ∈ BLs := by decide +kernel
theorem qX : ("bool" : Str) ∈ BLs := by decide +kernel
theorem nZ : ("enumerate" : Str) ∈ BLs := by decide +kernel
theorem pK : ("int" : Str) ∈ BLs := by decide +kernel
theorem aM : ("isinstance" : Str) ∈ BLs := by decide +kernel
theorem dB : ("len" : Str) ∈ BLs := by decide +kernel
theorem wX : ("list" : Str) ∈ BLs := by decide +kernel
theorem Uz : ("max" : Str) ∈ BLs := by decide +kernel
theorem Uy : ("min" : Str) ∈ BLs := by decide +kernel
theorem lz : ("range" : Str) ∈ BLs := by decide +kernel
theorem pJ : ("str" : Str) ∈ BLs := by decide +kernel
theorem fK : ("tuple" : Str) ∈ BLs := by decide +kernel
theorem Ux : ("zip" : Str) ∈ BLs := by decide +kernel
abbrev eN : Stmt := top 23
theorem Eo : bI ["_law_script", "_law_k"] ["_law_script", "_law_k"] (ak eN) := ⟨rfl, rfl, rfl, by decide +kernel, rfl, by decide +kernel, by decide +kernel⟩
theorem sY : Nm ["_law_script", "_law_k"] (ak eN) 0 "_law_script" := .of (by decide +kernel)
theorem sX : Nm ["_law_script", "_law_k"] (ak eN) 1 "_law_k" := .of (by decide +kernel)
theorem xq : (ak eN).names.lookup ("len" : Str) = some .globalImplicit := by decide +kernel
theorem GD : Bn "_law_cell_at" := ⟨by decide +kernel, by decide +kernel⟩
abbrev fZ : Stmt := top 24
theorem Cv : bI ["_law_script", "_law_k", "_law_cell"] ["_law_script", "_law_k"] (ak fZ) := ⟨rfl, rfl, rfl, by decide +kernel, rfl, by decide +kernel, by decide +kernel⟩
theorem J7 : Nm ["_law_script", "_law_k", "_law_cell"] (ak fZ) 0 "_law_script" := .of (by decide +kernel)
theorem sS : Nm ["_law_script", "_law_k", "_law_cell"] (ak fZ) 1 "_law_k" := .of (by decide +kernel)
theorem nU : Nm ["_law_script", "_law_k", "_law_cell"] (ak fZ) 2 "_law_cell" := .of (by decide +kernel)
theorem tM : (ak fZ).names.lookup ("_law_cell_at" : Str) = some .globalImplicit := by decide +kernel
theorem tL : (ak fZ).names.lookup ("abs" : Str) = some .globalImplicit := by decide +kernel
theorem Bs : (ak fZ).names.lookup ("int" : Str) = some .globalImplicit := by decide +kernel
theorem Rk : Bn "_law_tape" := ⟨by decide +kernel, by decide +kernel⟩
abbrev gh : Stmt := top 25
theorem ni : bI ["_law_tape_here", "_law_many", "_law_found", "_law_prime", "_law_once"] ["_law_tape_here", "_law_many"] (ak gh) := ⟨rfl, rfl, rfl, by decide +kernel, rfl, by decide +kernel, by decide +kernel⟩
theorem cR : Nm ["_law_tape_here", "_law_many", "_law_found", "_law_prime", "_law_once"] (ak gh) 0 "_law_tape_here" := .of (by decide +kernel)
theorem kW : Nm ["_law_tape_here", "_law_many", "_law_found", "_law_prime", "_law_once"] (ak gh) 1 "_law_many" := .of (by decide +kernel)
theorem kO : Nm ["_law_tape_here", "_law_many", "_law_found", "_law_prime", "_law_once"] (ak gh) 2 "_law_found" := .of (by decide +kernel)
theorem yN : Nm ["_law_tape_here", "_law_many", "_law_found", "_law_prime", "_law_once"] (ak gh) 3 "_law_prime" := .of (by decide +kernel)
theorem sU : Nm ["_law_tape_here", "_law_many", "_law_found", "_law_prime", "_law_once"] (ak gh) 4 "_law_once" := .of (by decide +kernel)
theorem xg : (ak gh).names.lookup ("_law_take" : Str) = some .globalImplicit := by decide +kernel
theorem cL : Bn "_law_take" := ⟨by decide +kernel, by decide +kernel⟩
section
variable {P : Program} {w : World} {K : PySem.W.Frag} {mg : Str → Option Value} {base : Heap} {f : Addr} {fd : FuncData} {bs : List Str}
theorem Qg (hB : ∀ x : Str, x ∈ BLs → mg x = none) (F : Fun K "_law_cell_at" "_law_cell_at" eN f fd) : dH P w K mg base CX0 1 f fd ["_law_script", "_law_k"] (Ie K) := by
 refine F.okq Eo (fun vs H Q E h => ?_) (fun cdv A outer s H vs Q E hr h => ?_)
 ·obtain ⟨a, ns, k, rfl, _⟩ := h
  rfl
 ·obtain ⟨a, ns, k, rfl, hS, h0, q⟩ := h
  refine ⟨_, (aF (aL (nM (aU gW (aA sX) (bw iG xq (hB "len" dB) PySem.boot_len dG (aj (aA sY) ao)) (aO _)) (aZ Dp (aA sY) (aA sX) (fun _ _ => rfl)) aq))), ?_⟩
  push_cast
  refine ⟨_, .inl hS, ?_⟩
  split
  ·rename_i c
   rw [List.length_map] at c
   have hk : k.toNat < ns.length := by omega
   have ek : k = ((k.toNat : Nat) : Int) := by omega
   have z : atI (ns.map V.int) ((k.toNat : Nat) : Int) = some (.int ns[k.toNat]) := cM (by rw [List.getElem?_map, List.getElem?_eq_getElem hk]; rfl)
   rw [← ek] at z
   unfold VG
   exact ⟨a, _, k, _, rfl, rfl, hS, z, q _⟩
  ·exact q _
theorem Qa (hB : ∀ x : Str, x ∈ BLs → mg x = none) (CZCellAt : Cal P w K mg base "_law_cell_at" 1 ["_law_script", "_law_k"] (Ie K)) (F : Fun K "_law_tape" "_law_tape" fZ f fd) : dH P w K mg base CX0 2 f fd ["_law_script", "_law_k"] (HX K) := by
 refine F.okq Cv (fun vs H Q E h => ?_) (fun cdv A outer s H vs Q E hr h => ?_)
 ·obtain ⟨a, ns, k, rfl, _⟩ := h
  rfl
 ·obtain ⟨a, ns, k, rfl, hS, h0, h1, q⟩ := h
  refine ⟨_, (aD (bW nU Cv.nd (bC CZCellAt (hr.mono (by decide)) tM GD (aj (aA J7) (aj (aA sS) ao))))
   (aF (aL (fV (aj (aK iD (bw zu tL (hB "abs" Kd) PyProof.Rows.Boot.«abs» Lx (aj (aA nU) ao)) (jQ ug Bs (hB "int" pK) boot_int qb (aj (fj JW (bw zu tL (hB "abs" Kd) PyProof.Rows.Boot.«abs» Lx (aj (aA nU) ao)) (aK JT aq aq) (aO _)) ao))) (aj (aK iQ (aK iD (aK cI (aK cI (aK iQ (aA nU) aq) (aK iD (aK iD aq (aA sS)) (aA sS))) aq) aq) aq) (aj aq ao))))))), ?_⟩
  push_cast
  refine ⟨a, ns, k, rfl, hS, h0, fun v => ?_⟩
  push_cast
  refine ⟨⟨by decide, by decide, by decide⟩, ?_, by decide, .inl (by decide), .inr (by omega), .inr (by decide), by decide, aQ (by decide), fun p hp => q p _ hp (au hp) ⟨_, _, _, aB, ?_, ?_, ?_, Int.le_refl _, Int.le_refl _⟩⟩
  ·right
   generalize (if v < 0 then -v else v) = u
   split <;> decide
  ·refine Int.mul_nonneg ?_ ?_
   ·split <;> omega
   ·generalize (if v < 0 then -v else v) = u
    split <;> decide
  ·exact Int.emod_nonneg _ (by decide)
  ·exact Int.emod_lt_of_pos _ (by decide)
theorem CZ {n : Nat} (hB : ∀ x : Str, x ∈ BLs → mg x = none) (hn : n ≤ 10) (CZTake : Cal P w K mg base "_law_take" n ["_law_tape_here", "_law_many"] (mK n)) (F : Fun K "_law_take" "_law_take" gh f fd) : dH P w K mg base CX0 (n + 1) f fd ["_law_tape_here", "_law_many"] (mK (n + 1)) := by
 refine F.okq ni (fun vs H Q E h => ?_) (fun cdv A outer s H vs Q E hr h => ?_)
 ·obtain ⟨p, m, B, rfl, _⟩ := h
  rfl
 ·obtain ⟨p, m, B, rfl, ⟨a, b, c, hp, ha, hb0, hb1, hc0, hc1⟩, hB0, hm0, hm1, hn1, hn2, q⟩ := h
  refine ⟨_, (aD (bK (aU yI (aZ cF (aA cR) aq (fun _ _ => rfl)) aq (aO _)) (aD (bW kO ni.nd (aK iQ (aZ cF (aA cR) aq (fun _ _ => rfl)) (aA kW)))
   (aD (pA (aK nR (aZ cF (aA cR) aq (fun _ _ => rfl)) (aA kW)) (wO (aA cR) aq Ii))
   (aF (aL (aA kO))))) bh)
   (aD (pA (aK cI (aZ cF (aA cR) aq (fun _ _ => rfl)) aq) (wO (aA cR) aq Ii))
   (aD (bW yN ni.nd (aZ cF (fV (aj aq (aj aq (aj aq (aj aq (aj aq (aj aq (aj aq ao)))))))) (aK iQ (aZ cF (aA cR) aq (fun _ _ => rfl)) aq) (fun _ _ => rfl)))
   (aD (bW sU ni.nd (aK iQ (aK iD (aK cI (aZ cF (aA cR) aq (fun _ _ => rfl)) (aK iD aq (aZ cF (aA cR) aq (fun _ _ => rfl)))) (aK cI aq (aZ cF (aA cR) aq (fun _ _ => rfl)))) (aA yN)))
   (aD (pA (aK iQ (aK cI (aK iD (aA sU) (aK cI (aK iQ (aA sU) aq) aq)) (aZ cF (aA cR) aq (fun _ _ => rfl))) aq) (wO (aA cR) aq Ii))
   (aD (bW kO ni.nd (aK nR (aK iQ (aK iD (aZ cF (aA cR) aq (fun _ _ => rfl)) (aK cI (aK iQ (aZ cF (aA cR) aq (fun _ _ => rfl)) aq) aq)) aq) aq))
   (aF (aL (nM (aU gW (aA kW) (aK JT aq aq) (aO _)) (aK iQ (aA kO) (aA kW)) (aK iQ (aK cI (aK iD (aA kO) aq) (bC CZTake (hr.mono (by omega)) xg cL (aj (aA cR) (aj aq ao)))) (aA kW))))))))))), ?_⟩
  push_cast [hp]
  split
  ·refine ⟨hm0, ⟨hm0, hm1⟩, ?_⟩
   refine q _ _ (Int.emod_nonneg _ (by omega)) (Int.emod_lt_of_pos _ hm0) bU.upd ⟨_, _, _, aB, Int.ediv_nonneg ha (by omega), hb0, hb1, hc0, by omega⟩
  ·refine ⟨aQ (by decide), fun p1 hp1 => ?_⟩
   have np : p ≠ p1 := fun z => by rw [← z, aB] at hp1; cases hp1
   push_cast [hp, aG np, ne_eq, np, not_false_eq_true]
   obtain ⟨v, hv, v0⟩ := T3 (c + 1)
   have m1 : ∀ x : Int, 0 ≤ x % 40009 ∧ x % 40009 < 40009 := fun x => ⟨Int.emod_nonneg _ (by decide), Int.emod_lt_of_pos _ (by decide)⟩
   have m2 : ∀ x : Int, 0 ≤ x % 1009 ∧ x % 1009 < 1009 := fun x => ⟨Int.emod_nonneg _ (by decide), Int.emod_lt_of_pos _ (by decide)⟩
   have m3 : ∀ x : Int, 0 ≤ x % 2147483629 ∧ x % 2147483629 < 2147483629 := fun x => ⟨Int.emod_nonneg _ (by decide), Int.emod_lt_of_pos _ (by decide)⟩
   refine ⟨by decide, _, hv, .inl (by decide), .inr (by omega), v, rfl, v0, by decide, .inr ?_, by decide, by decide, .inr ?_, by decide, by decide, by decide, ?_⟩
   ·have := m1 ((b + 39373 * (c + 1)) * (48271 + (c + 1)) % v)
    omega
   ·have := m2 (((b + 39373 * (c + 1)) * (48271 + (c + 1)) % v * ((b + 39373 * (c + 1)) * (48271 + (c + 1)) % v % 40009 + 7) + (c + 1)) % 2147483629)
    omega
   ·have e3 := m3 ((b + 39373 * (c + 1)) * (48271 + (c + 1)) % v * ((b + 39373 * (c + 1)) * (48271 + (c + 1)) % v % 40009 + 7) + (c + 1))
    generalize ((b + 39373 * (c + 1)) * (48271 + (c + 1)) % v * ((b + 39373 * (c + 1)) * (48271 + (c + 1)) % v % 40009 + 7) + (c + 1)) % 2147483629 = y at e3 ⊢
    have sx : bU p H (upd (upd (upd H p (HO.lst [V.int a, V.int b, V.int (c + 1)])) p1 (HO.lst [V.int 2147483587, V.int 2147483579, V.int 2147483563, V.int 2147483549, V.int 2147483543, V.int 2147483497, V.int 2147483489])) p (HO.lst [V.int a, V.int y, V.int (c + 1)])) :=
     (bU.upd.trans (au hp1).x).trans bU.upd
    have tp : cH (upd (upd (upd H p (HO.lst [V.int a, V.int b, V.int (c + 1)])) p1 (HO.lst [V.int 2147483587, V.int 2147483579, V.int 2147483563, V.int 2147483549, V.int 2147483543, V.int 2147483497, V.int 2147483489])) p (HO.lst [V.int a, V.int y, V.int (c + 1)])) p (B + 1) :=
     ⟨a, y, c + 1, aB, ha, e3.1, e3.2, by omega, by omega⟩
    generalize upd (upd (upd H p (HO.lst [V.int a, V.int b, V.int (c + 1)])) p1 (HO.lst [V.int 2147483587, V.int 2147483579, V.int 2147483563, V.int 2147483549, V.int 2147483543, V.int 2147483497, V.int 2147483489])) p (HO.lst [V.int a, V.int y, V.int (c + 1)]) = H2 at sx tp ⊢
    split
    ·refine ⟨hm0, q _ _ (Int.emod_nonneg _ (by omega)) (Int.emod_lt_of_pos _ hm0) sx ?_⟩
     obtain ⟨a', b', c', z1, z2, z3, z4, z5, z6⟩ := tp
     exact ⟨a', b', c', z1, z2, z3, z4, z5, by omega⟩
    ·rename_i hm
     have hm' : 1000000 ≤ m := by
      rw [show (10 : Int) ^ Int.toNat 6 = 1000000 from by decide] at hm
      omega
     have hn3 := hn2 hm'
     refine ⟨.inr (by decide), p, 99991, B + 1, rfl, tp, by omega, by decide, by decide, by omega, fun z => absurd z (by decide), fun r H3 r0 r1 s3 t3 => ?_⟩
     push_cast
     refine ⟨hm0, q _ _ (Int.emod_nonneg _ (by omega)) (Int.emod_lt_of_pos _ hm0) (sx.trans s3) ?_⟩
     obtain ⟨a', b', c', z1, z2, z3, z4, z5, z6⟩ := t3
     exact ⟨a', b', c', z1, z2, z3, z4, z5, by omega⟩
theorem Ei : dH P w K mg base CX0 0 f fd ["_law_tape_here", "_law_many"] (mK 0) := by
 have no : ∀ vs H Q E, ¬ mK 0 vs H Q E := fun vs H Q E h => by
  obtain ⟨p, m, B, _, _, _, _, _, h1, _⟩ := h
  omega
 exact ⟨fun vs H Q E h => absurd h (no vs H Q E), fun A outer s H args us vs Q E _ _ _ _ h => absurd h (no vs H Q E)⟩
abbrev dJ : Stmt := top 26
theorem Nf : bI ["_law_found", "_law_due_here"] ["_law_found", "_law_due_here"] (ak dJ) := ⟨rfl, rfl, rfl, by decide +kernel, rfl, by decide +kernel, by decide +kernel⟩
theorem eX : Nm ["_law_found", "_law_due_here"] (ak dJ) 0 "_law_found" := .of (by decide +kernel)
theorem d7 : Nm ["_law_found", "_law_due_here"] (ak dJ) 1 "_law_due_here" := .of (by decide +kernel)
theorem Bv : (ak dJ).names.lookup ("all" : Str) = some .globalImplicit := by decide +kernel
theorem lD : (ak dJ).names.lookup ("bool" : Str) = some .globalImplicit := by decide +kernel
theorem Bu : (ak dJ).names.lookup ("int" : Str) = some .globalImplicit := by decide +kernel
theorem aX : (ak dJ).names.lookup ("isinstance" : Str) = some .globalImplicit := by decide +kernel
theorem tO : (ak dJ).names.lookup ("len" : Str) = some .globalImplicit := by decide +kernel
theorem lB : (ak dJ).names.lookup ("list" : Str) = some .globalImplicit := by decide +kernel
theorem mV : (ak dJ).names.lookup ("str" : Str) = some .globalImplicit := by decide +kernel
theorem jM : (ak dJ).names.lookup ("tuple" : Str) = some .globalImplicit := by decide +kernel
theorem Bt : (ak dJ).names.lookup ("zip" : Str) = some .globalImplicit := by decide +kernel
theorem rB : Bn "_law_same" := ⟨by decide +kernel, by decide +kernel⟩
theorem Qc {n : Nat} (hB : ∀ x : Str, x ∈ BLs → mg x = none) (CZSame : Cal P w K mg base "_law_same" n ["_law_found", "_law_due_here"] (lJ n)) (F : Fun K "_law_same" "_law_same" dJ f fd) : dH P w K mg base CX0 (n + 1) f fd ["_law_found", "_law_due_here"] (lJ (n + 1)) := by
 refine F.okq Nf (fun vs H Q E h => ?_) (fun cdv A outer s H vs Q E hr h => ?_)
 ·obtain ⟨x, y, ok, d, rfl, _⟩ := h
  rfl
 ·obtain ⟨x, y, ok, d, rfl, tx, ty, hd, q⟩ := h
  refine ⟨_, (aD (bK (cV (bw Gu aX (hB "isinstance" aM) boot_isinstance aN (aj (aA d7) (aj (cB (aj (gD "list" lB (hB "list" wX) boot_list xO) (aj (gD "tuple" jM (hB "tuple" fK) boot_tuple fM) ao))) ao)))) (aD (bK (iK (iz (aU (jG hr.bA) (bw cG aX (hB "isinstance" aM) boot_isinstance aN (aj (aA eX) (aj (gD "list" lB (hB "list" wX) boot_list xO) ao))) (bw cG aX (hB "isinstance" aM) boot_isinstance aN (aj (aA d7) (aj (gD "list" lB (hB "list" wX) boot_list xO) ao))) (aO _)) (fU (aU (jG hr.bA) (bw cG aX (hB "isinstance" aM) boot_isinstance aN (aj (aA eX) (aj (gD "tuple" jM (hB "tuple" fK) boot_tuple fM) ao))) (bw cG aX (hB "isinstance" aM) boot_isinstance aN (aj (aA d7) (aj (gD "tuple" jM (hB "tuple" fK) boot_tuple fM) ao))) (aO _))))) (aF (aL jR)) bh)
   (aD (bK (aU (jG hr.bA) (bw cg tO (hB "len" dB) PySem.boot_len dG (aj (aA eX) ao)) (bw cg tO (hB "len" dB) PySem.boot_len dG (aj (aA d7) ao)) (aO _)) (aF (aL jR)) bh)
   (aF (aL (bw (jB rfl) Bv (hB "all" tE) PyProof.Rows.Boot.«all» uh (aj (gn (NX := ["_law_found", "_law_due_here"]) (kX := (ak dJ).names) ["_law_one", "_law_other"] [none, none] rfl rfl ⟨rfl, by decide +kernel, by decide +kernel, by decide +kernel, by decide +kernel⟩ rfl (Oo Bt (hB "zip" Ux) (aj (aA eX) (aj (aA d7) ao))) (fun _ _ _ _ _ => (pB (n := 2) rfl (dY (eE 0 (show List.Nodup (["_law_one", "_law_other"] : List Str) from by decide +kernel) rfl (Or.inl rfl)) (dY (eE 1 (show List.Nodup (["_law_one", "_law_other"] : List Str) from by decide +kernel) rfl (Or.inl rfl)) lN)))) (fun _ _ _ _ _ => gK) (fun _ _ _ _ _ => (bC CZSame (hr.mono (by omega)) rfl rB (aj (jc 0) (aj (jc 1) ao))))) ao)))))) bh)
   (aD (bK (iK (iz (aU sH (aA d7) cQ (aO _)) (fU (cV (bw cG aX (hB "isinstance" aM) boot_isinstance aN (aj (aA d7) (aj (gD "str" mV (hB "str" pJ) boot_str pZ) ao))))))) (aF (aL (iu (fj (bZ hr.bA) (aA eX) (aA d7) (aO _)) (jd (fj (bZ hr.bA) (bw cG aX (hB "isinstance" aM) boot_isinstance aN (aj (aA eX) (aj (gD "str" mV (hB "str" pJ) boot_str pZ) ao))) (bw cG aX (hB "isinstance" aM) boot_isinstance aN (aj (aA d7) (aj (gD "str" mV (hB "str" pJ) boot_str pZ) ao))) (aO _)))))) bh)
   (aD (bK (cV (bw cG aX (hB "isinstance" aM) boot_isinstance aN (aj (aA d7) (aj (gD "bool" lD (hB "bool" qX) boot_bool rA) ao)))) (aF (aL (iu (bw cG aX (hB "isinstance" aM) boot_isinstance aN (aj (aA eX) (aj (gD "bool" lD (hB "bool" qX) boot_bool rA) ao))) (jd (fj (bZ hr.bA) (aA eX) (aA d7) (aO _)))))) bh)
   (aF (aL (iu (bw cG aX (hB "isinstance" aM) boot_isinstance aN (aj (aA eX) (aj (gD "int" Bu (hB "int" pK) boot_int qb) ao))) (iu (Jw (bw cG aX (hB "isinstance" aM) boot_isinstance aN (aj (aA eX) (aj (gD "bool" lD (hB "bool" qX) boot_bool rA) ao)))) (jd (fj (bZ hr.bA) (aA eX) (aA d7) (aO _)))))))))), ?_⟩
  cases tx with
  | non => cases ty; push_cast; exact ⟨aQ (by decide), fun t ht => q _ (au ht)⟩
  | bl b => cases ty; push_cast; exact ⟨aQ (by decide), fun t ht => q _ (au ht)⟩
  | int i => cases ty; push_cast; exact ⟨aQ (by decide), fun t ht => q _ (au ht)⟩
  | str x => cases ty; push_cast; exact ⟨aQ (by decide), fun t ht => q _ (au ht)⟩
  | lst o1 e1 z1 ts1 =>
   rename_i p1 xs1 ds
   cases ty with
   | lst o2 e2 z2 ts2 =>
    rename_i p2 xs2
    have l1 := ts1.length
    have l2 := ts2.length
    push_cast [e1, e2]
    refine ⟨aQ (by decide), fun t ht => ?_⟩
    have s1 := au (o := HO.tup [V.ty "list", V.ty "tuple"]) ht
    have e1 := s1 _ _ e1
    have e2 := s1 _ _ e2
    generalize upd H t (HO.tup [V.ty "list", V.ty "tuple"]) = H1 at s1 e1 e2 ⊢
    push_cast [e1, e2]
    rw [decide_eq_true (show (xs1.length : Int) = (xs2.length : Int) by omega), Bool.not_true, if_neg (by decide)]
    refine gC fun R hR => ?_
    push_cast [e1, e2]
    obtain ⟨Pc, hPc⟩ : ∃ Pv : Nat → List V → L2.St → Hp → Prop, Pv = fun (i : Nat) acc τ H' => ∃ (o0 o1 : Option V), Same H1 H' ∧ acc = (List.replicate i true).map V.bl ∧ τ = [o0, o1] := ⟨_, rfl⟩
    refine Rg hR (xs := xs1) (ys := xs2) (aQ z1) (by omega) Pc (by rw [hPc]; exact ⟨_, _, Same.refl _, rfl, rfl⟩) ?_ ?_ ?_ ?_
    ·intro i acc τ H2 pc
     rw [hPc] at pc
     obtain ⟨_, _, _, rfl, _⟩ := pc
     simp
    ·intro i acc τ H2 pc
     rw [hPc] at pc
     obtain ⟨_, _, s2, _, _⟩ := pc
     exact ⟨s2 _ _ e1, s2 _ _ e2⟩
    ·intro i x y acc τ H2 r hx hy pc hr2
     rw [hPc] at pc
     obtain ⟨o0, o1, s2, rfl, rfl⟩ := pc
     obtain ⟨dx, hdx, tx⟩ := ts1.get hx
     obtain ⟨dy, hdy, ty⟩ := ts2.get hy
     rw [hdx] at hdy
     cases hdy
     have s3 := au (o := HO.tup [x, y]) hr2
     have s13 := (s1.trans s2).trans s3
     push_cast
     refine ⟨x, y, ok, dx, rfl, tx.same s13, ty.same s13, by have := (vM (List.mem_of_getElem? hdx)).1; omega, fun H4 s4 => ?_⟩
     rw [hPc]
     refine ⟨_, _, (s2.trans s3).trans s4, ?_, rfl⟩
     rw [List.replicate_succ', List.map_append]
     rfl
    ·intro acc τ H2 d2 pc hd2
     rw [hPc] at pc
     obtain ⟨o0, o1, s2, rfl, rfl⟩ := pc
     have s3 := s1.trans (s2.trans (au (o := HO.lst ((List.replicate xs1.length true).map V.bl)) hd2))
     have e3 : upd H2 d2 (HO.lst ((List.replicate xs1.length true).map V.bl)) d2 = _ := aB
     generalize upd H2 d2 (HO.lst ((List.replicate xs1.length true).map V.bl)) = H3 at s3 e3 ⊢
     push_cast [e3]
     refine ⟨_, rfl, ?_⟩
     rw [show (List.replicate xs1.length true).all id = true by simp]
     exact q _ s3
  | tup o1 e1 z1 ts1 =>
   rename_i p1 xs1 ds
   cases ty with
   | tup o2 e2 z2 ts2 =>
    rename_i p2 xs2
    have l1 := ts1.length
    have l2 := ts2.length
    push_cast [e1, e2]
    refine ⟨aQ (by decide), fun t ht => ?_⟩
    have s1 := au (o := HO.tup [V.ty "list", V.ty "tuple"]) ht
    have e1 := s1 _ _ e1
    have e2 := s1 _ _ e2
    generalize upd H t (HO.tup [V.ty "list", V.ty "tuple"]) = H1 at s1 e1 e2 ⊢
    push_cast [e1, e2]
    rw [decide_eq_true (show (xs1.length : Int) = (xs2.length : Int) by omega), Bool.not_true, if_neg (by decide)]
    refine gC fun R hR => ?_
    push_cast [e1, e2]
    obtain ⟨Pc, hPc⟩ : ∃ Pv : Nat → List V → L2.St → Hp → Prop, Pv = fun (i : Nat) acc τ H' => ∃ (o0 o1 : Option V), Same H1 H' ∧ acc = (List.replicate i true).map V.bl ∧ τ = [o0, o1] := ⟨_, rfl⟩
    refine Rf hR (xs := xs1) (ys := xs2) (aQ z1) (by omega) Pc (by rw [hPc]; exact ⟨_, _, Same.refl _, rfl, rfl⟩) ?_ ?_ ?_ ?_
    ·intro i acc τ H2 pc
     rw [hPc] at pc
     obtain ⟨_, _, _, rfl, _⟩ := pc
     simp
    ·intro i acc τ H2 pc
     rw [hPc] at pc
     obtain ⟨_, _, s2, _, _⟩ := pc
     exact ⟨s2 _ _ e1, s2 _ _ e2⟩
    ·intro i x y acc τ H2 r hx hy pc hr2
     rw [hPc] at pc
     obtain ⟨o0, o1, s2, rfl, rfl⟩ := pc
     obtain ⟨dx, hdx, tx⟩ := ts1.get hx
     obtain ⟨dy, hdy, ty⟩ := ts2.get hy
     rw [hdx] at hdy
     cases hdy
     have s3 := au (o := HO.tup [x, y]) hr2
     have s13 := (s1.trans s2).trans s3
     push_cast
     refine ⟨x, y, ok, dx, rfl, tx.same s13, ty.same s13, by have := (vM (List.mem_of_getElem? hdx)).2; omega, fun H4 s4 => ?_⟩
     rw [hPc]
     refine ⟨_, _, (s2.trans s3).trans s4, ?_, rfl⟩
     rw [List.replicate_succ', List.map_append]
     rfl
    ·intro acc τ H2 d2 pc hd2
     rw [hPc] at pc
     obtain ⟨o0, o1, s2, rfl, rfl⟩ := pc
     have s3 := s1.trans (s2.trans (au (o := HO.lst ((List.replicate xs1.length true).map V.bl)) hd2))
     have e3 : upd H2 d2 (HO.lst ((List.replicate xs1.length true).map V.bl)) d2 = _ := aB
     generalize upd H2 d2 (HO.lst ((List.replicate xs1.length true).map V.bl)) = H3 at s3 e3 ⊢
     push_cast [e3]
     refine ⟨_, rfl, ?_⟩
     rw [show (List.replicate xs1.length true).all id = true by simp]
     exact q _ s3
theorem same_none : dH P w K mg base CX0 0 f fd ["_law_found", "_law_due_here"] (lJ 0) := by
 have no : ∀ vs H Q E, ¬ lJ 0 vs H Q E := fun vs H Q E h => by
  obtain ⟨x, y, ok, d, _, _, _, h1, _⟩ := h
  omega
 exact ⟨fun vs H Q E h => absurd h (no vs H Q E), fun A outer s H args us vs Q E _ _ _ _ h => absurd h (no vs H Q E)⟩
theorem GK : Bn "FIGURES" := ⟨by decide +kernel, by decide +kernel⟩
theorem uP : Bn "MOST_FIGURES" := ⟨by decide +kernel, by decide +kernel⟩
theorem BZ : Bn "MOST_WIDE" := ⟨by decide +kernel, by decide +kernel⟩
abbrev cY : Stmt := top 1
theorem Ac : bI ["thing"] ["thing"] (ak cY) := ⟨rfl, rfl, rfl, by decide +kernel, rfl, by decide +kernel, by decide +kernel⟩
theorem qm : Nm ["thing"] (ak cY) 0 "thing" := .of (by decide +kernel)
theorem tW : (ak cY).names.lookup ("bool" : Str) = some .globalImplicit := by decide +kernel
theorem uL : (ak cY).names.lookup ("int" : Str) = some .globalImplicit := by decide +kernel
theorem ig : (ak cY).names.lookup ("isinstance" : Str) = some .globalImplicit := by decide +kernel
theorem mZ : Bn "is_number" := ⟨by decide +kernel, by decide +kernel⟩
abbrev fP : Stmt := top 11
theorem Io : bI ["thing", "own", "many"] ["thing", "own", "many"] (ak fP) := ⟨rfl, rfl, rfl, by decide +kernel, rfl, by decide +kernel, by decide +kernel⟩
theorem vz : Nm ["thing", "own", "many"] (ak fP) 0 "thing" := .of (by decide +kernel)
theorem FW : Nm ["thing", "own", "many"] (ak fP) 1 "own" := .of (by decide +kernel)
theorem FT : Nm ["thing", "own", "many"] (ak fP) 2 "many" := .of (by decide +kernel)
theorem pX : (ak fP).names.lookup ("is_number" : Str) = some .globalImplicit := by decide +kernel
theorem zB : Bn "is_goal" := ⟨by decide +kernel, by decide +kernel⟩
abbrev gj : Stmt := top 13
theorem Im : bI ["wide", "bits"] ["wide", "bits"] (ak gj) := ⟨rfl, rfl, rfl, by decide +kernel, rfl, by decide +kernel, by decide +kernel⟩
theorem vy : Nm ["wide", "bits"] (ak gj) 0 "wide" := .of (by decide +kernel)
theorem FQ : Nm ["wide", "bits"] (ak gj) 1 "bits" := .of (by decide +kernel)
theorem pW : (ak gj).names.lookup ("MOST_WIDE" : Str) = some .globalImplicit := by decide +kernel
theorem LQ : Bn "is_mask" := ⟨by decide +kernel, by decide +kernel⟩
abbrev cN : Stmt := top 12
theorem vd : bI ["thing", "own", "many", "goals"] ["thing", "own", "many"] (ak cN) := ⟨rfl, rfl, rfl, by decide +kernel, rfl, by decide +kernel, by decide +kernel⟩
theorem mR : Nm ["thing", "own", "many", "goals"] (ak cN) 0 "thing" := .of (by decide +kernel)
theorem jJ : Nm ["thing", "own", "many", "goals"] (ak cN) 3 "goals" := .of (by decide +kernel)
theorem xu : (ak cN).names.lookup ("all" : Str) = some .globalImplicit := by decide +kernel
theorem oG : (ak cN).names.lookup ("is_number" : Str) = some .globalImplicit := by decide +kernel
theorem lW : (ak cN).names.lookup ("isinstance" : Str) = some .globalImplicit := by decide +kernel
theorem xr : (ak cN).names.lookup ("len" : Str) = some .globalImplicit := by decide +kernel
theorem tU : (ak cN).names.lookup ("tuple" : Str) = some .globalImplicit := by decide +kernel
theorem GJ : Bn "is_table" := ⟨by decide +kernel, by decide +kernel⟩
theorem J1 (hB : ∀ x : Str, x ∈ BLs → mg x = none) (F : Fun K "is_number" "is_number" cY f fd) : dH P w K mg base CX0 1 f fd ["thing"] wg := by
 refine F.okq Ac (fun vs H Q E h => ?_) (fun cdv A outer s H vs Q E hr h => ?_)
 ·obtain ⟨v, ok, d, rfl, _⟩ := h
  rfl
 ·obtain ⟨v, ok, d, rfl, t, q⟩ := h
  refine ⟨_, (aF (aL (iu (bw cG ig (hB "isinstance" aM) boot_isinstance aN (aj (aA qm) (aj (gD "int" uL (hB "int" pK) boot_int qb) ao))) (jd (Jw (bw cG ig (hB "isinstance" aM) boot_isinstance aN (aj (aA qm) (aj (gD "bool" tW (hB "bool" qX) boot_bool rA) ao)))))))), ?_⟩
  cases t with
  | non => push_cast; exact q
  | bl b => push_cast; exact q
  | int i => push_cast; exact q
  | str x => push_cast; exact q
  | lst o e z t => push_cast [e]; exact q
  | tup o e z t => push_cast [e]; exact q
theorem Fz (hB : ∀ x : Str, x ∈ BLs → mg x = none) (CIsNumber : Cal P w K mg base "is_number" 1 ["thing"] wg) (F : Fun K "is_goal" "is_goal" fP f fd) : dH P w K mg base CX0 2 f fd ["thing", "own", "many"] wj := by
 refine F.okq Io (fun vs H Q E h => ?_) (fun cdv A outer s H vs Q E hr h => ?_)
 ·obtain ⟨v, ok, d, own, many, rfl, _⟩ := h
  rfl
 ·obtain ⟨v, ok, d, own, many, rfl, t, q⟩ := h
  refine ⟨_, (aF (aL (iu (bC CIsNumber (hr.mono (by decide)) pX mZ (aj (aA vz) ao)) (jd (nP gW gW (aA FW) (aA vz) (aA FT)))))), ?_⟩
  push_cast
  refine ⟨v, ok, d, rfl, t, ?_⟩
  cases t with
  | int i =>
   push_cast [cW]
   replace q : Q (.bl (decide (own < i) && decide (i < many))) H := q
   split
   ·rename_i c
    rw [decide_eq_true c, Bool.true_and] at q
    exact q
   ·rename_i c
    rw [decide_eq_false c, Bool.false_and] at q
    exact q
  | _ => push_cast [cW]; exact q
theorem Fy (hB : ∀ x : Str, x ∈ BLs → mg x = none) (cgMostWide : mg "MOST_WIDE" = some (.int 64 ckMostWide)) (F : Fun K "is_mask" "is_mask" gj f fd) : dH P w K mg base CX0 1 f fd ["wide", "bits"] Cp := by
 refine F.okq Im (fun vs H Q E h => ?_) (fun cdv A outer s H vs Q E hr h => ?_)
 ·obtain ⟨wd, bits, rfl, _⟩ := h
  rfl
 ·obtain ⟨wd, bits, rfl, q⟩ := h
  refine ⟨_, (aF (aL (iu (nP nQ nQ aq (aA vy) (iW (v := V.int 64) pW cgMostWide ⟨_, rfl⟩ BZ)) (jd (nP nQ gW aq (aA FQ) (aK Aw aq (aA vy))))))), ?_⟩
  push_cast [Int.one_mul]
  split
  ·rename_i c1
   rw [decide_eq_true c1, Bool.true_and] at q
   split
   ·rename_i c2
    rw [decide_eq_true c2, Bool.true_and] at q
    split
    ·rename_i c3
     rw [decide_eq_true c3, Bool.true_and] at q
     exact ⟨⟨by omega, by omega, by decide⟩, q⟩
    ·rename_i c3
     rw [decide_eq_false c3, Bool.false_and] at q
     exact q
   ·rename_i c2
    rw [decide_eq_false c2, Bool.false_and] at q
    exact q
  ·rename_i c1
   rw [decide_eq_false c1, Bool.false_and, Bool.false_and] at q
   exact q
theorem Bb (hB : ∀ x : Str, x ∈ BLs → mg x = none) (CIsNumber : Cal P w K mg base "is_number" 1 ["thing"] wg) (CIsGoal : Cal P w K mg base "is_goal" 2 ["thing", "own", "many"] wj) (F : Fun K "is_table" "is_table" cN f fd) : dH P w K mg base CX0 3 f fd ["thing", "own", "many"] HY := by
 refine F.okq vd (fun vs H Q E h => ?_) (fun cdv A outer s H vs Q E hr h => ?_)
 ·obtain ⟨v, ok, dw, ps, own, many, rfl, _⟩ := h
  rfl
 ·obtain ⟨v, ok, dw, ps, own, many, rfl, t, q⟩ := h
  refine ⟨_, (aD (bK (iK (iz (aU (jG hr.bA) (bw cg xr (hB "len" dB) PySem.boot_len dG (aj (aA mR) ao)) aq (aO _)) (fU (dW (cV (bC CIsNumber (hr.mono (by decide)) oG mZ (aj (aZ cF (aA mR) aq (fun _ _ => rfl)) ao))))))) (aF (aL jR)) bh)
   (aD (bW jJ vd.nd (aZ cF (aA mR) aq (fun _ _ => rfl)))
   (aD (bK (iK (iz (dW (cV (bw cG lW (hB "isinstance" aM) boot_isinstance aN (aj (aA jJ) (aj (gD "tuple" tU (hB "tuple" fK) boot_tuple fM) ao))))) (fU (dW (Ar (aA jJ)))))) (aF (aL jR)) bh)
   (aF (aL (bw (jB rfl) xu (hB "all" tE) PyProof.Rows.Boot.«all» uh (aj (gn (NX := ["thing", "own", "many", "goals"]) (kX := (ak cN).names) ["goal", "own", "many"] [none, some 1, some 2] rfl rfl ⟨rfl, by decide +kernel, by decide +kernel, by decide +kernel, by decide +kernel⟩ rfl (gm (aA jJ)) (fun _ _ _ _ _ => (eE 0 (show List.Nodup (["goal", "own", "many"] : List Str) from by decide +kernel) rfl (Or.inl rfl))) (fun _ _ _ _ _ => gK) (fun _ _ _ _ _ => (bC CIsGoal (hr.mono (by decide)) rfl zB (aj (jc 0) (aj (jc 1) (aj (jc 2) ao)))))) ao))))))), ?_⟩
  cases t with
  | tup o e z ts =>
   rename_i p xs
   have hlen := ts.length
   refine aP fun k hk => ?_
   push_cast [e]
   by_cases h3 : xs.length = 3
   ·rw [h3, show (!decide (((3 : Nat) : Int) = 3)) = false from rfl, if_neg (by decide)]
    obtain ⟨x, y, y2, d0, dy, dz, rfl, eds, tx, ty, tz⟩ := ts.three h3
    cases eds
    push_cast [e]
    refine ⟨y, ok, dy, rfl, ty, ?_⟩
    have ty' := ty
    cases ty with
    | int n =>
     push_cast [cW]
     subst hk
     refine aP fun k hk => ?_
     push_cast [e]
     subst hk
     refine aP fun k hk => ?_
     cases tz with
     | tup o2 e2 z2 ts2 =>
      rename_i p2 xs2 gs
      replace q : ∀ H', Same H H' → Q (.bl (match (if (!gs.isEmpty && gs.all cW) = true then some gs else none : Option (List PyData)) with | some gs => (gs.map uD).all (btw own many) | none => false)) H' := q
      have hl2 := ts2.length
      push_cast [e2]
      cases hx : xs2.isEmpty with
      | true =>
       have hd : gs.isEmpty = true := by rw [List.isEmpty_iff_length_eq_zero] at hx ⊢; omega
       have qq := q _ (Same.refl _)
       rw [hd, Bool.not_true, Bool.false_and] at qq
       push_cast
       exact qq
      | false =>
       have hd : gs.isEmpty = false := by
        cases zz : gs.isEmpty with
        | false => rfl
        | true => rw [List.isEmpty_iff_length_eq_zero] at zz; rw [show xs2.isEmpty = true from List.isEmpty_iff_length_eq_zero.mpr (by omega)] at hx; cases hx
       rw [hd, Bool.not_false, Bool.true_and] at q
       push_cast
       subst hk
       push_cast
       refine gC fun R hR => ?_
       push_cast [e2]
       refine oN (xM own many) (fun τ => ∃ o1, τ = [o1, some (.int own), some (.int many)]) hR ts2 e2 z2 ⟨none, rfl⟩ ?_ ?_
       ·rintro x1 d1 τ H3 Qn _ s3 t3 ⟨o1, rfl⟩ qn
        push_cast
        exact ⟨x1, ok, d1, own, many, rfl, t3, qn _ _ ⟨_, rfl⟩ (Same.refl _)⟩
       ·intro H3 l s3 hl
        have s5 := s3.trans (au (o := HO.lst ((gs.map (xM own many)).map V.bl)) hl)
        have e5 : upd H3 l (HO.lst ((gs.map (xM own many)).map V.bl)) l = _ := aB
        generalize upd H3 l (HO.lst ((gs.map (xM own many)).map V.bl)) = H5 at s5 e5 ⊢
        push_cast [e5]
        refine ⟨_, rfl, ?_⟩
        rw [um]
        have qq := q _ s5
        rw [vJ] 
        exact qq
     | lst o2 e2 z2 ts2 => push_cast [e2]; exact q _ (Same.refl _)
     | _ => push_cast; exact q _ (Same.refl _)
    | _ => push_cast [cW]; exact q _ (Same.refl _)
   ·rw [decide_eq_false (show ¬ ((xs.length : Int) = 3) by omega), if_pos (by decide)]
    have qq := q _ (Same.refl _)
    rw [Hl (by rw [List.length_cons] at hlen; omega)] at qq
    exact qq
abbrev dN : Stmt := top 14
theorem Cw : bI ["thing", "own", "many", "word"] ["thing", "own", "many"] (ak dN) := ⟨rfl, rfl, rfl, by decide +kernel, rfl, by decide +kernel, by decide +kernel⟩
theorem cT : Nm ["thing", "own", "many", "word"] (ak dN) 0 "thing" := .of (by decide +kernel)
theorem yV : Nm ["thing", "own", "many", "word"] (ak dN) 1 "own" := .of (by decide +kernel)
theorem yU : Nm ["thing", "own", "many", "word"] (ak dN) 2 "many" := .of (by decide +kernel)
theorem jr : Nm ["thing", "own", "many", "word"] (ak dN) 3 "word" := .of (by decide +kernel)
theorem BJ : (ak dN).names.lookup ("all" : Str) = some .globalImplicit := by decide +kernel
theorem uK : (ak dN).names.lookup ("is_goal" : Str) = some .globalImplicit := by decide +kernel
theorem uJ : (ak dN).names.lookup ("is_mask" : Str) = some .globalImplicit := by decide +kernel
theorem tV : (ak dN).names.lookup ("is_table" : Str) = some .globalImplicit := by decide +kernel
theorem oH : (ak dN).names.lookup ("isinstance" : Str) = some .globalImplicit := by decide +kernel
theorem jN : (ak dN).names.lookup ("len" : Str) = some .globalImplicit := by decide +kernel
theorem xG : (ak dN).names.lookup ("tuple" : Str) = some .globalImplicit := by decide +kernel
theorem Ro : Bn "is_row" := ⟨by decide +kernel, by decide +kernel⟩
theorem J0 (hB : ∀ x : Str, x ∈ BLs → mg x = none) (CIsNumber : Cal P w K mg base "is_number" 1 ["thing"] wg) (CIsGoal : Cal P w K mg base "is_goal" 2 ["thing", "own", "many"] wj) (CIsMask : Cal P w K mg base "is_mask" 1 ["wide", "bits"] Cp) (CIsTable : Cal P w K mg base "is_table" 3 ["thing", "own", "many"] HY) (F : Fun K "is_row" "is_row" dN f fd) : dH P w K mg base CX0 4 f fd ["thing", "own", "many"] Ib := by
 refine F.okq Cw (fun vs H Q E h => ?_) (fun cdv A outer s H vs Q E hr h => ?_)
 ·obtain ⟨v, ok, d, own, many, rfl, _⟩ := h
  rfl
 ·obtain ⟨v, ok, d, own, many, rfl, t, q⟩ := h
  refine ⟨_, (aD (bK (iK (iz (dW (cV (bw cG oH (hB "isinstance" aM) boot_isinstance aN (aj (aA cT) (aj (gD "tuple" xG (hB "tuple" fK) boot_tuple fM) ao))))) (fU (dW (Ar (aA cT)))))) (aF (aL jR)) bh)
   (aD (bW jr Cw.nd (aZ cF (aA cT) aq (fun _ _ => rfl)))
   (aD (bK (aU (bZ hr.bA) (aA jr) aH (aO _)) (aF (aL (bC CIsTable (hr.mono (by decide)) tV GJ (aj (aA cT) (aj (aA yV) (aj (aA yU) ao)))))) bh)
   (aD (bK (dW (cV (bw (jB rfl) BJ (hB "all" tE) PyProof.Rows.Boot.«all» uh (aj (gn (NX := ["thing", "own", "many", "word"]) (kX := (ak dN).names) ["part"] [none] rfl rfl ⟨rfl, by decide +kernel, by decide +kernel, by decide +kernel, by decide +kernel⟩ rfl (gm (bB zY (aA cT) (bO aq) bY)) (fun _ _ _ _ _ => (eE 0 (show List.Nodup (["part"] : List Str) from by decide +kernel) rfl (Or.inl rfl))) (fun _ _ _ _ _ => gK) (fun _ _ _ _ _ => (bC CIsNumber (hr.mono (by decide)) rfl mZ (aj (jc 0) ao)))) ao)))) (aF (aL jR)) bh)
   (aD (bK (aU (bZ hr.bA) (aA jr) aH (aO _)) (aF (aL (iu (fj (bZ hr.bA) (bw cg jN (hB "len" dB) PySem.boot_len dG (aj (aA cT) ao)) aq (aO _)) (jd (fj JW (aZ cF (aA cT) aq (fun _ _ => rfl)) aq (aO _)))))) bh)
   (aD (bK (dW (cV (bC CIsGoal (hr.mono (by decide)) uK zB (aj (aZ cF (aA cT) (sG mJ aq) (fun _ _ => rfl)) (aj (aA yV) (aj (aA yU) ao)))))) (aF (aL jR)) bh)
   (aD (bK (aU (Uo hr.un1) (aA jr) (cB (aj aH (aj aH ao))) (by with_unfolding_all rfl)) (aF (aL (fj (bZ hr.bA) (bw cg jN (hB "len" dB) PySem.boot_len dG (aj (aA cT) ao)) aq (aO _)))) bh)
   (aD (bK (aU (bZ hr.bA) (aA jr) aH (aO _)) (aF (aL (iu (fj (bZ hr.bA) (bw cg jN (hB "len" dB) PySem.boot_len dG (aj (aA cT) ao)) aq (aO _)) (jd (fj nQ (aZ cF (aA cT) aq (fun _ _ => rfl)) (aZ cF (aA cT) aq (fun _ _ => rfl)) (aO _)))))) bh)
   (aF (aL (iu (fj (bZ hr.bA) (aA jr) aH (aO _)) (iu (fj (bZ hr.bA) (bw cg jN (hB "len" dB) PySem.boot_len dG (aj (aA cT) ao)) aq (aO _)) (jd (bC CIsMask (hr.mono (by decide)) uJ LQ (aj (aZ cF (aA cT) aq (fun _ _ => rfl)) (aj (aZ cF (aA cT) aq (fun _ _ => rfl)) ao)))))))))))))))), ?_⟩
  have t0 := t
  refine aP fun k hk => ?_
  cases t with
  | tup o e z ts =>
   rename_i p xs ds
   cases ts with
   | nil => push_cast [e]; exact q _ (Same.refl _)
   | cons tx tps =>
    rename_i x dw xs ps
    push_cast [e]
    rw [show (!(!(x :: xs).isEmpty)) = false from rfl, if_neg (by decide)]
    subst hk
    refine aP fun k hk => ?_
    push_cast [e]
    subst hk
    refine aP fun k hk => ?_
    push_cast
    refine oJ tx ?_
    push_cast
    cases hT : b7 dw "table" with
    | true =>
     rw [if_pos rfl]
     cases iH hT
     rw [Et] at q
     exact ⟨_, ok, _, ps, own, many, rfl, t0, q⟩
    | false =>
     rw [if_neg (by decide)]
     subst hk
     refine aP fun k hk => ?_
     push_cast
     refine gC fun R hR => ?_
     push_cast [e]
     refine ⟨Vj x xs, fun sl hsl => ?_⟩
     rw [Lj x xs]
     have s1 := au (o := HO.tup xs) hsl
     have e1 : upd H sl (HO.tup xs) sl = _ := aB
     have tp1 := tps.same s1
     generalize upd H sl (HO.tup xs) = H1 at s1 e1 tp1 ⊢
     refine oN cW (fun τ => ∃ o1, τ = [o1]) hR tp1 e1 (by rw [List.length_cons] at z; omega) ⟨none, rfl⟩ ?_ ?_
     ·rintro x1 d1 τ H3 Qn _ s3 t3 ⟨o1, rfl⟩ qn
      push_cast
      exact ⟨x1, ok, d1, rfl, t3, qn _ _ ⟨_, rfl⟩ (Same.refl _)⟩
     ·intro H3 l s3 hl
      have s5 := (s1.trans s3).trans (au (o := HO.lst ((ps.map cW).map V.bl)) hl)
      have e5 : upd H3 l (HO.lst ((ps.map cW).map V.bl)) l = _ := aB
      generalize upd H3 l (HO.lst ((ps.map cW).map V.bl)) = H5 at s5 e5 ⊢
      push_cast [e5]
      refine ⟨_, rfl, ?_⟩
      rw [um]
      have e6 := s5 _ _ e
      have tx6 := tx.same s5
      cases hn : ps.all cW with
      | false =>
       rw [if_pos (by decide)]
       have qq := q _ s5
       rw [Eu hT hn] at qq
       exact qq
      | true =>
       rw [if_neg (by decide)]
       have ep := ints_of hn
       generalize ps.map uD = is at ep
       subst ep
       have exs := tps.ints
       subst exs
       clear hR
       subst hk
       refine aP fun k hk => ?_
       push_cast
       refine oJ tx6 ?_
       push_cast
       cases hP : b7 dw "pick" with
       | true =>
        rw [if_pos rfl]
        cases iH hP
        rw [yC] at q
        have qq := q _ s5
        match is, e6, qq with
        | [], e6, qq => push_cast [e6]; exact qq
        | [a], e6, qq => push_cast [e6]; exact qq
        | a :: b :: r, e6, qq =>
         push_cast [e6]
         rw [if_neg (by omega)]
         exact qq
       | false =>
        rw [if_neg (by decide)]
        subst hk
        refine aP fun k hk => ?_
        have after : (∀ H', Same H H' → Q (.bl (mO dw is)) H') → k [some (V.ref p), some (V.int own), some (V.int many), some x] H5 := by
         intro qs
         subst hk
         refine aP fun k hk => ?_
         push_cast
         refine ⟨aQ (by decide), fun t ht => ?_⟩
         have s6 := au (o := HO.tup [V.str "is", V.str "below"]) ht
         refine ⟨t, ["is", "below"], dw, ok, rfl, aB, tx6.same s6, ?_⟩
         have e7 := s6 _ _ e6
         have tx7 := tx6.same s6
         have s7 := s5.trans s6
         generalize upd H5 t (HO.tup [V.str "is", V.str "below"]) = H7 at s6 e7 tx7 s7 ⊢
         push_cast
         rw [Xa]
         have qq := qs _ s7
         cases hI : (b7 dw "is" || b7 dw "below") with
         | true =>
          rw [if_pos rfl]
          rw [Em hI] at qq
          push_cast [e7, List.length_map]
          rw [show decide (((is.length + 1 : Nat) : Int) = 3) = decide (is.length = 2) from decide_eq_decide.mpr (by omega)]
          exact qq
         | false =>
          rw [if_neg (by decide)]
          subst hk
          refine aP fun k hk => ?_
          push_cast
          refine oJ tx7 ?_
          push_cast
          cases hW : b7 dw "within" with
          | true =>
           rw [if_pos rfl]
           cases iH hW
           rw [show mO (.str "within") is = _ from jE is] at qq
           match is, e7, qq with
           | [], e7, qq => push_cast [e7]; exact qq
           | [a], e7, qq => push_cast [e7]; exact qq
           | [a, b], e7, qq => push_cast [e7]; exact qq
           | [a, b, c], e7, qq => push_cast [e7]; exact qq
           | a :: b :: c :: d :: r, e7, qq =>
            push_cast [e7]
            rw [if_neg (by omega)]
            exact qq
          | false =>
           rw [if_neg (by decide)]
           subst hk
           push_cast
           refine oJ tx7 ?_
           push_cast
           cases hM : b7 dw "mask" with
           | true =>
            rw [if_pos rfl]
            cases iH hM
            rw [show mO (.str "mask") is = _ from mL is] at qq
            match is, e7, qq with
            | [], e7, qq => push_cast [e7]; exact qq
            | [a], e7, qq => push_cast [e7]; exact qq
            | [a, b], e7, qq => push_cast [e7]; exact qq
            | [a, b, c], e7, qq => push_cast [e7]; exact qq
            | [a, b, c, d], e7, qq =>
             push_cast [e7]
             rw [if_pos (show ((5 : Nat) : Int) = 5 from rfl)]
             exact ⟨V.int c, rfl, b, c, rfl, qq⟩
            | a :: b :: c :: d :: e :: r, e7, qq =>
             push_cast [e7]
             rw [if_neg (by omega)]
             exact qq
           | false =>
            rw [if_neg (by decide)]
            rw [wA hI hW hM hP] at qq
            exact qq
        cases hi : is with
        | nil =>
         subst hi
         have qn : ∀ H', Same H H' → Q (.bl false) H' := fun H' s' => by
          have := q H' s'
          rw [show List.map PyData.int [] = [] from rfl, Ni] at this
          exact this
         push_cast [e6]
         refine ⟨x, rfl, ?_⟩
         refine ⟨x, ok, dw, own, many, rfl, tx6, ?_⟩
         push_cast
         cases hb : xM own many dw with
         | false => rw [if_pos (by decide)]; exact qn _ s5
         | true =>
          rw [if_neg (by decide)]
          refine after fun H' s' => ?_
          rw [show mO dw [] = false by cases dw <;> rfl]
          exact qn H' s'
        | cons i0 r0 =>
         obtain ⟨t, ht⟩ := Gd (is := is) (by rw [hi]; exact List.cons_ne_nil _ _)
         push_cast [e6]
         refine ⟨V.int t, Kg ht, ?_⟩
         refine ⟨V.int t, ok, .int t, own, many, rfl, .int t, ?_⟩
         push_cast
         cases hb : btw own many t with
         | false =>
          rw [show xM own many (.int t) = false from hb, if_pos (by decide)]
          have qq := q _ s5
          rw [Aj hT hP ht hb] at qq
          exact qq
         | true =>
          rw [show xM own many (.int t) = true from hb, if_neg (by decide)]
          rw [Ir hT hP ht hb] at q
          exact after q
  | lst o e z ts => push_cast [e]; exact q _ (Same.refl _)
  | _ => push_cast; exact q _ (Same.refl _)
abbrev bJ : Stmt := top 18
theorem nj : bI ["word", "figures"] ["word"] (ak bJ) := ⟨rfl, rfl, rfl, by decide +kernel, rfl, by decide +kernel, by decide +kernel⟩
theorem fJ : Nm ["word", "figures"] (ak bJ) 0 "word" := .of (by decide +kernel)
theorem gR : Nm ["word", "figures"] (ak bJ) 1 "figures" := .of (by decide +kernel)
theorem jx : (ak bJ).names.lookup ("MOST_FIGURES" : Str) = some .globalImplicit := by decide +kernel
theorem qM : (ak bJ).names.lookup ("all" : Str) = some .globalImplicit := by decide +kernel
theorem qL : (ak bJ).names.lookup ("int" : Str) = some .globalImplicit := by decide +kernel
theorem qK : (ak bJ).names.lookup ("len" : Str) = some .globalImplicit := by decide +kernel
theorem xQ : Bn "number_from" := ⟨by decide +kernel, by decide +kernel⟩
abbrev bV : Stmt := top 19
theorem mq : bI ["words", "numbers"] ["words"] (ak bV) := ⟨rfl, rfl, rfl, by decide +kernel, rfl, by decide +kernel, by decide +kernel⟩
theorem sZ : Nm ["words", "numbers"] (ak bV) 0 "words" := .of (by decide +kernel)
theorem iR : Nm ["words", "numbers"] (ak bV) 1 "numbers" := .of (by decide +kernel)
theorem uO : Bn "numbers_from" := ⟨by decide +kernel, by decide +kernel⟩
theorem Qe (hB : ∀ x : Str, x ∈ BLs → mg x = none) {ckFigures ckMostFigures : Tok} (cgFigures : mg "FIGURES" = some (.str "0123456789" ckFigures)) (cgMostFigures : mg "MOST_FIGURES" = some (.int 20 ckMostFigures)) (F : Fun K "number_from" "number_from" bJ f fd) : dH P w K mg base CX0 1 f fd ["word"] rO := by
 refine F.okq nj (fun vs H Q E h => ?_) (fun cdv A outer s H vs Q E hr h => ?_)
 ·obtain ⟨x, rfl, _⟩ := h
  rfl
 ·obtain ⟨x, rfl, hx, q⟩ := h
  refine ⟨_, (aD (bW gR nj.nd (nM (cV (jm PySem.F.slot_str_startswith PySem.F.type_str_startswith FZ (aA fJ) (aj aH ao))) (bB Ih (aA fJ) (bO aq) bY) (aA fJ)))
   (aD (bK (iK (iz (dW (nJ nQ nQ aq (bw vO qK (hB "len" dB) PySem.boot_len dG (aj (aA gR) ao)) (iW (v := V.int 20) jx cgMostFigures ⟨_, rfl⟩ uP))) (fU (dW (cV (bw (jB rfl) qM (hB "all" tE) PyProof.Rows.Boot.«all» uh (aj (gn (NX := ["word", "figures"]) (kX := (ak bJ).names) ["sign"] [none] rfl rfl ⟨rfl, by decide +kernel, by decide +kernel, by decide +kernel, by decide +kernel⟩ rfl (Jv (aA gR)) (fun _ _ _ _ _ => (eE 0 (show List.Nodup (["sign"] : List Str) from by decide +kernel) rfl (Or.inl rfl))) (fun _ _ _ _ _ => gK) (fun _ _ _ _ _ => (fj Uq (jc 0) (iW (v := V.str "0123456789") rfl cgFigures ⟨_, rfl⟩ GK) (by with_unfolding_all rfl)))) ao))))))) (aF (aL cQ)) bh)
   (aD (bK (iK (kh (aU (bZ hr.bA) (aZ Dm (aA gR) aq (fun _ _ => rfl)) aH (aO _)) (iV (aU (jG hr.bA) (aA fJ) aH (aO _))))) (aF (aL cQ)) bh)
   (aF (aL (jQ vP qL (hB "int" pK) boot_int qb (aj (aA fJ) ao))))))), ?_⟩
  refine aP fun k hk => ?_
  push_cast [rdT]
  rw [show (("-" : Str)) = ⟨#[45]⟩ by decide +kernel]
  obtain ⟨fg, hfg⟩ : ∃ fg : Str, fg = if Txt.startswith x ⟨#[45]⟩ = true then Txt.slice x (some 1) none else x := ⟨_, rfl⟩
  have hfl : dR x = fg.cps.toList := by rw [hfg]; exact Dy
  have hflen : fg.length ≤ sizeLine := by
   rw [hfg]
   split
   ·exact Nat.le_trans (Txt.slice_le x _ _) hx
   ·exact hx
  have hlen : fg.length = (dR x).length := by rw [hfl]; simp [Str.length]
  suffices go : k [some (V.str x), some (V.str fg)] H by
   rw [hfg] at go
   split at go
   ·rename_i c
    rw [if_pos c]
    exact ⟨hx, go⟩
   ·rename_i c
    rw [if_neg c]
    exact go
  subst hk
  refine aP fun k hk => ?_
  push_cast [rdT]
  have hno : ∀ {H' : Hp}, Same H H' → aV x = false → Q V.non H' := fun {H'} s' z => by
   have := q H' s'
   unfold fW at this
   rw [if_neg (by rw [z]; decide)] at this
   exact this
  refine ⟨hflen, ?_⟩
  by_cases c1 : (1 : Int) ≤ fg.length
  ·rw [if_pos c1]
   by_cases c2 : (fg.length : Int) ≤ 20
   ·rw [if_neg (by rw [decide_eq_true c2]; decide)]
    refine gC fun R hR => ?_
    push_cast [rdT]
    obtain ⟨Pc, hPc⟩ : ∃ Pv : Nat → List V → L2.St → Hp → Prop, Pv = fun (i : Nat) acc τ H' => ∃ (o1 : Option V), H' = H ∧ acc = ((fg.cps.toList.take i).map gA).map V.bl ∧ τ = [o1] := ⟨_, rfl⟩
    refine Ln hR hflen Pc (by rw [hPc]; exact ⟨none, rfl, rfl, rfl⟩) ?_ ?_ ?_
    ·intro i acc τ H1 pc
     rw [hPc] at pc
     obtain ⟨_, _, rfl, _⟩ := pc
     rw [List.length_map, List.length_map]
     exact List.length_take_le _ _
    ·intro i c acc τ H1 hc pc
     rw [hPc] at pc
     obtain ⟨_, rfl, rfl, rfl⟩ := pc
     push_cast [rdT]
     rw [K8, hPc]
     refine ⟨_, rfl, ?_, rfl⟩
     rw [take_snoc (show fg.cps.toList[i]? = some c by rw [Array.getElem?_toList]; exact hc), List.map_append, List.map_append]
     rfl
    ·intro acc τ H1 d pc hd
     rw [hPc] at pc
     obtain ⟨_, rfl, rfl, rfl⟩ := pc
     rw [List.take_of_length_le (show fg.cps.toList.length ≤ fg.length by simp [Str.length])]
     have s1 := au (o := HO.lst ((fg.cps.toList.map gA).map V.bl)) hd
     have e1 : upd H1 d (HO.lst ((fg.cps.toList.map gA).map V.bl)) d = _ := aB
     generalize upd H1 d (HO.lst ((fg.cps.toList.map gA).map V.bl)) = H2 at s1 e1 ⊢
     push_cast [e1]
     refine ⟨_, rfl, ?_⟩
     have hall : (fg.cps.toList.map gA).all id = (dR x).all gA := by rw [hfl, List.all_map]; rfl
     rw [hall]
     cases c3 : (dR x).all gA with
     | false =>
      rw [if_pos (show (!false) = true from rfl)]
      refine hno s1 ?_
      unfold aV
      rw [c3, Bool.and_false]
      rfl
     | true =>
      rw [if_neg (show ¬ (!true) = true by decide)]
      subst hk
      refine aP fun k hk => ?_
      push_cast [rdT]
      obtain ⟨c0, r0, hcr⟩ : ∃ c r, fg.cps.toList = c :: r := by
       cases e : fg.cps.toList with
       | nil =>
        rw [hfl, e] at hlen
        have : fg.length = 0 := hlen
        omega
       | cons c r => exact ⟨c, r, rfl⟩
      refine ⟨hflen, c0, cM (j := 0) (by rw [hcr]; rfl), ?_⟩
      have hc0 : ((⟨#[c0]⟩ : Str) = "0") ↔ (dR x).head? = some 48 := by
       rw [hfl, hcr, List.head?_cons]
       constructor
       ·intro z
        have := congrArg (fun y : Str => y.cps.toList.head?) z
        exact this
       ·intro z
        cases z
        decide +kernel
      have last : aV x = true → k [some (V.str x), some (V.str fg)] H2 := fun z => by
       subst hk
       push_cast [rdT]
       have := q H2 s1
       unfold fW at this
       rw [if_pos z] at this
       exact ⟨_, (kJ z).1, Nat.le_trans (kJ z).2 (by decide), this⟩
      have l1 : 1 ≤ (dR x).length := by omega
      have l2 : (dR x).length ≤ 20 := by omega
      by_cases c4 : (⟨#[c0]⟩ : Str) = "0"
      ·rw [if_pos c4]
       by_cases c5 : x = "0"
       ·rw [if_neg (by rw [decide_eq_true c5]; decide)]
        refine last ?_
        unfold aV
        rw [decide_eq_true l1, decide_eq_true l2, c3, decide_eq_false (show ¬ x ≠ "0" from fun z => z c5), Bool.and_false]
        rfl
       ·rw [if_pos (by rw [decide_eq_false c5]; decide)]
        refine hno s1 ?_
        unfold aV
        rw [decide_eq_true (hc0.mp c4), decide_eq_true c5]
        simp
      ·rw [if_neg c4]
       refine last ?_
       unfold aV
       rw [decide_eq_true l1, decide_eq_true l2, c3, decide_eq_false (fun z => c4 (hc0.mpr z))]
       rfl
   ·rw [if_pos (by rw [decide_eq_false c2]; decide)]
    refine hno (Same.refl _) ?_
    unfold aV
    rw [decide_eq_false (show ¬ (dR x).length ≤ 20 by omega), Bool.and_false]
    rfl
  ·rw [if_neg c1]
   refine hno (Same.refl _) ?_
   unfold aV
   rw [decide_eq_false (show ¬ 1 ≤ (dR x).length by omega)]
   rfl
theorem JZ (hB : ∀ x : Str, x ∈ BLs → mg x = none) (CNumberFrom : Cal P w K mg base "number_from" 1 ["word"] rO) (F : Fun K "numbers_from" "numbers_from" bV f fd) : dH P w K mg base CX0 2 f fd ["words"] Cm := by
 refine F.okq mq (fun vs H Q E h => ?_) (fun cdv A outer s H vs Q E hr h => ?_)
 ·obtain ⟨a, ts, rfl, _⟩ := h
  rfl
 ·obtain ⟨a, ts, rfl, ea, hz, ht, q1, q2⟩ := h
  refine ⟨_, (aD (CQ (NX := ["words", "numbers"]) (kX := (ak bV).names) ["word"] [none] iR mq.nd rfl rfl ⟨rfl, by decide +kernel, by decide +kernel, by decide +kernel, by decide +kernel⟩ rfl (gm (aA sZ)) (fun _ _ _ _ _ => (eE 0 (show List.Nodup (["word"] : List Str) from by decide +kernel) rfl (Or.inl rfl))) (fun _ _ _ _ _ => gK) (fun _ _ _ _ _ => (bC CNumberFrom (hr.mono (by decide)) rfl xQ (aj (jc 0) ao))))
   (aF (aL (nM (aU JV cQ (aA iR) (by with_unfolding_all rfl)) cQ (aA iR))))), ?_⟩
  refine aP fun k hk => ?_
  push_cast
  refine gC fun R hR => ?_
  push_cast [ea]
  obtain ⟨Pc, hPc⟩ : ∃ Pv : Nat → List V → L2.St → Hp → Prop, Pv = fun (i : Nat) acc τ H' => ∃ (o1 : Option V), Same H H' ∧ acc = (ts.take i).map fW ∧ τ = [o1] := ⟨_, rfl⟩
  refine uc hR (xs := ts.map V.str) (aQ (by rw [List.length_map]; exact hz)) Pc (by rw [hPc]; exact ⟨none, Same.refl _, rfl, rfl⟩) ?_ ?_ ?_ ?_
  ·intro i acc τ H1 pc
   rw [hPc] at pc
   obtain ⟨_, _, rfl, _⟩ := pc
   rw [List.length_map]
   exact List.length_take_le _ _
  ·intro i acc τ H1 pc
   rw [hPc] at pc
   obtain ⟨_, s1, _⟩ := pc
   exact SqL.of (s1 _ _ ea)
  ·intro i x acc τ H1 hx pc
   rw [hPc] at pc
   obtain ⟨_, s1, rfl, rfl⟩ := pc
   rw [List.getElem?_map] at hx
   obtain ⟨t, ht1, rfl⟩ := Option.map_eq_some_iff.mp hx
   push_cast
   refine ⟨t, rfl, ht t (List.mem_of_getElem? ht1), fun H2 s2 => ?_⟩
   rw [hPc]
   refine ⟨_, s1.trans s2, ?_, rfl⟩
   rw [take_snoc ht1, List.map_append]
   rfl
  ·intro acc τ H1 d pc hd
   rw [hPc] at pc
   obtain ⟨_, s1, rfl, rfl⟩ := pc
   rw [List.length_map, List.take_length]
   have s2 := s1.trans (au (o := HO.lst (ts.map fW)) hd)
   have e2 : upd H1 d (HO.lst (ts.map fW)) d = _ := aB
   have hd0 : H d = none := s1.none hd
   generalize upd H1 d (HO.lst (ts.map fW)) = H2 at s2 e2 ⊢
   subst hk
   push_cast [e2]
   refine ⟨rfl, vq ts, ?_⟩
   split
   ·rename_i c
    exact q1 _ s2 ((qR ts).mp c)
   ·rename_i c
    have hok : ∀ t ∈ ts, aV t = true := fun t ht => by
     cases e : aV t with
     | true => rfl
     | false => exact absurd ((qR ts).mpr ⟨t, ht, e⟩) c
    exact q2 d _ hd0 s2 hok (by rw [e2, vp hok])
abbrev bF : Stmt := top 29
theorem mj : bI ["_law_word_here", "_law_plain"] ["_law_word_here"] (ak bF) := ⟨rfl, rfl, rfl, by decide +kernel, rfl, by decide +kernel, by decide +kernel⟩
theorem eV : Nm ["_law_word_here", "_law_plain"] (ak bF) 0 "_law_word_here" := .of (by decide +kernel)
theorem dO : Nm ["_law_word_here", "_law_plain"] (ak bF) 1 "_law_plain" := .of (by decide +kernel)
theorem pR : (ak bF).names.lookup ("any" : Str) = some .globalImplicit := by decide +kernel
theorem pQ : (ak bF).names.lookup ("int" : Str) = some .globalImplicit := by decide +kernel
theorem jw : (ak bF).names.lookup ("len" : Str) = some .globalImplicit := by decide +kernel
theorem mH : Bn "_law_word_number" := ⟨by decide +kernel, by decide +kernel⟩
theorem Ay (hB : ∀ x : Str, x ∈ BLs → mg x = none) (F : Fun K "_law_word_number" "_law_word_number" bF f fd) : dH P w K mg base CX0 1 f fd ["_law_word_here"] rO := by
 refine F.okq mj (fun vs H Q E h => ?_) (fun cdv A outer s H vs Q E hr h => ?_)
 ·obtain ⟨x, rfl, _⟩ := h
  rfl
 ·obtain ⟨x, rfl, hx, q⟩ := h
  refine ⟨_, (aD (bW dO mj.nd (nM (aU (bZ hr.bA) (bB jX (aA eV) bY (bO aq)) aH (aO _)) (bB jX (aA eV) (bO aq) bY) (aA eV)))
   (aD (bK (iK (iz (aU (bZ hr.bA) (aA dO) aH (aO _)) (iz (aU yI (bw jz jw (hB "len" dB) PySem.boot_len dG (aj (aA dO) ao)) aq (aO _)) (fU (cV (bw (vR rfl) pR (hB "any" Kc) PyProof.Rows.Boot.«any» Lw (aj (gn (NX := ["_law_word_here", "_law_plain"]) (kX := (ak bF).names) ["_law_sign"] [none] rfl rfl ⟨rfl, by decide +kernel, by decide +kernel, by decide +kernel, by decide +kernel⟩ rfl (Jv (aA dO)) (fun _ _ _ _ _ => (eE 0 (show List.Nodup (["_law_sign"] : List Str) from by decide +kernel) rfl (Or.inl rfl))) (fun _ _ _ _ _ => gK) (fun _ _ _ _ _ => (fj PK (jc 0) aH (by with_unfolding_all rfl)))) ao))))))) (aF (aL cQ)) bh)
   (aD (bK (iK (kh (aU (bZ hr.bA) (aZ Ks (aA dO) aq (fun _ _ => rfl)) aH (aO _)) (iV (iK (iz (aU yI (bw jz jw (hB "len" dB) PySem.boot_len dG (aj (aA dO) ao)) aq (aO _)) (fU (aU (bZ hr.bA) (aZ Ks (aA eV) aq (fun _ _ => rfl)) aH (aO _)))))))) (aF (aL cQ)) bh)
   (aF (aL (jQ vP pQ (hB "int" pK) boot_int qb (aj (aA eV) ao))))))), ?_⟩
  refine aP fun k hk => ?_
  push_cast [rdX]
  rw [show (("-" : Str)) = ⟨#[45]⟩ by decide +kernel]
  refine ⟨hx, ?_⟩
  obtain ⟨fg, hfg⟩ : ∃ fg : Str, fg = if Txt.startswith x ⟨#[45]⟩ = true then Txt.slice x (some 1) none else x := ⟨_, rfl⟩
  have hneg : Txt.startswith x ⟨#[45]⟩ = true ↔ x.cps.toList.head? = some 45 := by rw [rM, decide_eq_true_eq]
  have hfl : dR x = fg.cps.toList := by rw [hfg]; exact Dy
  have hflen : fg.length ≤ sizeLine := by
   rw [hfg]
   split
   ·exact Nat.le_trans (Txt.slice_le x _ _) hx
   ·exact hx
  have hlen : fg.length = (dR x).length := by rw [hfl]; simp [Str.length]
  suffices go : k [some (V.str x), some (V.str fg)] H by
   by_cases c : Txt.slice x none (some 1) = ⟨#[45]⟩
   ·rw [if_pos c]
    rw [hfg, if_pos (hneg.mpr (u9.mp c))] at go
    exact ⟨hx, go⟩
   ·rw [if_neg c]
    rw [hfg, if_neg fun z => c (u9.mpr (hneg.mp z))] at go
    exact go
  subst hk
  refine aP fun k hk => ?_
  push_cast [rdX]
  have hno : ∀ {H' : Hp}, Same H H' → aV x = false → Q V.non H' := fun {H'} s' z => by
   have := q H' s'
   unfold fW at this
   rw [if_neg (by rw [z]; decide)] at this
   exact this
  have hemp : ∀ (z : Str), z = "" ↔ z.length = 0 := fun z => by
   constructor
   ·intro e
    rw [e]
    rfl
   ·intro e
    exact Str.ext' (Array.eq_empty_of_size_eq_zero e)
  by_cases c0 : fg = ""
  ·rw [if_pos c0]
   refine hno (Same.refl _) ?_
   have := (hemp fg).mp c0
   unfold aV
   rw [decide_eq_false (show ¬ 1 ≤ (dR x).length by omega)]
   rfl
  ·rw [if_neg c0]
   have c1 : 1 ≤ (dR x).length := by
    have : fg.length ≠ 0 := fun z => c0 ((hemp fg).mpr z)
    omega
   refine ⟨hflen, ?_⟩
   by_cases c2 : (20 : Int) < fg.length
   ·rw [if_pos c2]
    refine hno (Same.refl _) ?_
    unfold aV
    rw [decide_eq_false (show ¬ (dR x).length ≤ 20 by omega), Bool.and_false]
    rfl
   ·rw [if_neg c2]
    refine gC fun R hR => ?_
    push_cast [rdX]
    obtain ⟨Pc, hPc⟩ : ∃ Pv : Nat → List V → L2.St → Hp → Prop, Pv = fun (i : Nat) acc τ H' => ∃ (o1 : Option V), H' = H ∧ acc = ((fg.cps.toList.take i).map fun c => !gA c).map V.bl ∧ τ = [o1] := ⟨_, rfl⟩
    refine Ln hR hflen Pc (by rw [hPc]; exact ⟨none, rfl, rfl, rfl⟩) ?_ ?_ ?_
    ·intro i acc τ H1 pc
     rw [hPc] at pc
     obtain ⟨_, _, rfl, _⟩ := pc
     rw [List.length_map, List.length_map]
     exact List.length_take_le _ _
    ·intro i c acc τ H1 hc pc
     rw [hPc] at pc
     obtain ⟨_, rfl, rfl, rfl⟩ := pc
     push_cast [rdX]
     rw [K8, hPc]
     refine ⟨_, rfl, ?_, rfl⟩
     rw [take_snoc (show fg.cps.toList[i]? = some c by rw [Array.getElem?_toList]; exact hc), List.map_append, List.map_append]
     rfl
    ·intro acc τ H1 d pc hd
     rw [hPc] at pc
     obtain ⟨_, rfl, rfl, rfl⟩ := pc
     rw [List.take_of_length_le (show fg.cps.toList.length ≤ fg.length by simp [Str.length])]
     have s1 := au (o := HO.lst ((fg.cps.toList.map fun c => !gA c).map V.bl)) hd
     have e1 : upd H1 d (HO.lst ((fg.cps.toList.map fun c => !gA c).map V.bl)) d = _ := aB
     generalize upd H1 d (HO.lst ((fg.cps.toList.map fun c => !gA c).map V.bl)) = H2 at s1 e1 ⊢
     push_cast [e1]
     refine ⟨_, rfl, ?_⟩
     have hall : (fg.cps.toList.map fun c => !gA c).any id = !(dR x).all gA := by
      rw [hfl, List.any_map, List.not_all_eq_any_not]
      rfl
     rw [hall]
     cases c3 : (dR x).all gA with
     | false =>
      rw [if_pos (show (!false) = true from rfl)]
      refine hno s1 ?_
      unfold aV
      rw [c3, Bool.and_false]
      rfl
     | true =>
      rw [if_neg (show ¬ (!true) = true by decide)]
      subst hk
      refine aP fun k hk => ?_
      have l1' : 1 ≤ fg.length := by omega
      obtain ⟨c0', r0, hcr⟩ : ∃ c r, fg.cps.toList = c :: r := by
       cases e : fg.cps.toList with
       | nil =>
        have : fg.length = 0 := by
         rw [hlen, hfl, e]
         rfl
        omega
       | cons c r => exact ⟨c, r, rfl⟩
      push_cast [rdX]
      refine ⟨hflen, c0', cM (j := 0) (by rw [hcr]; rfl), ?_⟩
      have hc0 : ((⟨#[c0']⟩ : Str) = "0") ↔ (dR x).head? = some 48 := by
       rw [hfl, hcr, List.head?_cons]
       exact ⟨fun z => congrArg (fun y : Str => y.cps.toList.head?) z, fun z => by cases z; decide +kernel⟩
      have last : aV x = true → k [some (V.str x), some (V.str fg)] H2 := fun z => by
       subst hk
       push_cast [rdX]
       have := q H2 s1
       unfold fW at this
       rw [if_pos z] at this
       exact ⟨_, (kJ z).1, Nat.le_trans (kJ z).2 (by decide), this⟩
      have l2 : (dR x).length ≤ 20 := by omega
      have bad : (dR x).head? = some 48 → x ≠ "0" → aV x = false := fun z1 z2 => by
       unfold aV
       rw [decide_eq_true z1, decide_eq_true z2]
       simp
      have f0 : dR "0" = [48] := by decide +kernel
      by_cases c4 : (⟨#[c0']⟩ : Str) = "0"
      ·rw [if_pos c4]
       refine ⟨hflen, ?_⟩
       by_cases c5 : (1 : Int) < fg.length
       ·rw [if_pos c5]
        refine hno s1 (bad (hc0.mp c4) fun z => ?_)
        rw [z, f0] at hlen
        have : fg.length = 1 := hlen
        omega
       ·rw [if_neg c5]
        obtain ⟨cx, rx, hxr⟩ : ∃ c r, x.cps.toList = c :: r := by
         cases e : x.cps.toList with
         | nil =>
          have : (dR x).length = 0 := by
           unfold dR
           rw [e]
           rfl
          omega
         | cons c r => exact ⟨c, r, rfl⟩
        refine ⟨hx, cx, cM (j := 0) (by rw [hxr]; rfl), ?_⟩
        by_cases c6 : (⟨#[cx]⟩ : Str) = "-"
        ·rw [if_pos c6]
         refine hno s1 (bad (hc0.mp c4) fun z => ?_)
         have e1 : cx = 45 := by
          have := congrArg (fun y : Str => y.cps.toList.head?) c6
          exact Option.some.inj this
         rw [z] at hxr
         have e2 : ("0" : Str).cps.toList = [48] := by decide +kernel
         rw [e2, e1] at hxr
         cases hxr
        ·rw [if_neg c6]
         have e1 : ¬ x.cps.toList.head? = some 45 := fun z => c6 (by
          rw [hxr] at z
          cases z
          decide +kernel)
         have e2 : dR x = x.cps.toList := by unfold dR; rw [if_neg e1]
         have e3 : x = "0" := by
          have e4 : x.cps.toList = [48] := by
           rw [← e2]
           have h1 := hc0.mp c4
           cases e5 : dR x with
           | nil => rw [e5] at h1; cases h1
           | cons a r =>
            rw [e5] at h1
            cases h1
            have : r.length = 0 := by
             rw [e5, List.length_cons] at hlen
             omega
            rw [List.eq_nil_of_length_eq_zero this]
          have e6 : ("0" : Str).cps.toList = [48] := by decide +kernel
          exact Str.ext' (Array.toList_inj.mp (e4.trans e6.symm))
         refine last ?_
         rw [e3]
         decide +kernel
      ·rw [if_neg c4]
       refine last ?_
       unfold aV
       rw [decide_eq_true c1, decide_eq_true l2, c3, decide_eq_false (fun z => c4 (hc0.mpr z))]
       rfl
abbrev bR : Stmt := top 33
theorem mQ : bI ["_law_words", "_law_at", "_law_many", "_law_numbers", "_law_sizes"] ["_law_words", "_law_at", "_law_many"] (ak bR) := ⟨rfl, rfl, rfl, by decide +kernel, rfl, by decide +kernel, by decide +kernel⟩
theorem dU : Nm ["_law_words", "_law_at", "_law_many", "_law_numbers", "_law_sizes"] (ak bR) 0 "_law_words" := .of (by decide +kernel)
theorem yR : Nm ["_law_words", "_law_at", "_law_many", "_law_numbers", "_law_sizes"] (ak bR) 1 "_law_at" := .of (by decide +kernel)
theorem yQ : Nm ["_law_words", "_law_at", "_law_many", "_law_numbers", "_law_sizes"] (ak bR) 2 "_law_many" := .of (by decide +kernel)
theorem bD : Nm ["_law_words", "_law_at", "_law_many", "_law_numbers", "_law_sizes"] (ak bR) 3 "_law_numbers" := .of (by decide +kernel)
theorem qj : Nm ["_law_words", "_law_at", "_law_many", "_law_numbers", "_law_sizes"] (ak bR) 4 "_law_sizes" := .of (by decide +kernel)
theorem uH : (ak bR).names.lookup ("all" : Str) = some .globalImplicit := by decide +kernel
theorem mF : (ak bR).names.lookup ("len" : Str) = some .globalImplicit := by decide +kernel
theorem jT : (ak bR).names.lookup ("tuple" : Str) = some .globalImplicit := by decide +kernel
theorem BW : Bn "_law_row_read" := ⟨by decide +kernel, by decide +kernel⟩
theorem Az (hB : ∀ x : Str, x ∈ BLs → mg x = none) (CZWordNumber : Cal P w K mg base "_law_word_number" 1 ["_law_word_here"] rO) (F : Fun K "_law_row_read" "_law_row_read" bR f fd) : dH P w K mg base CX0 2 f fd ["_law_words", "_law_at", "_law_many"] uZ := by
 refine F.okq mQ (fun vs H Q E h => ?_) (fun cdv A outer s H vs Q E hr h => ?_)
 ·obtain ⟨a, own, many, w0, ts, ok, rfl, _⟩ := h
  rfl
 ·obtain ⟨a, own, many, w0, ts, ok, rfl, ea, hl, htl, hn, qn, qy⟩ := h
  refine ⟨_, (aD (CQ (NX := ["_law_words", "_law_at", "_law_many", "_law_numbers", "_law_sizes"]) (kX := (ak bR).names) ["_law_word_here"] [none] bD mQ.nd rfl rfl ⟨rfl, by decide +kernel, by decide +kernel, by decide +kernel, by decide +kernel⟩ rfl (gm (bB zY (aA dU) (bO aq) bY)) (fun _ _ _ _ _ => (eE 0 (show List.Nodup (["_law_word_here"] : List Str) from by decide +kernel) rfl (Or.inl rfl))) (fun _ _ _ _ _ => gK) (fun _ _ _ _ _ => (bC CZWordNumber (hr.mono (by decide)) rfl mH (aj (jc 0) ao))))
   (aD (bW qj mQ.nd (Oq (kE aH aq (kE aH aq (kE aH aq (kE aH aq (kE aH aq Om))))) rfl rfl (List.cons_ne_nil _ _) rfl))
   (aD (bK (iK (iz (aU JV cQ (aA bD) (by with_unfolding_all rfl)) (fU (iK (kh (aU (jG hr.bA) (aZ cF (aA dU) aq (fun _ _ => rfl)) aH (aO _)) (iV (aU (jG hr.bA) (Jx hr.RW (aA qj) (aZ cF (aA dU) aq (fun _ _ => rfl)) (sG mJ aq) ⟨rfl, rfl, rfl, rfl⟩) (bw cg mF (hB "len" dB) PySem.boot_len dG (aj (aA bD) ao)) (aO _)))))))) (aF (aL cQ)) bh)
   (aD (bK (aU (bZ hr.bA) (aZ cF (aA dU) aq (fun _ _ => rfl)) aH (aO _)) (aD (bK (iK (iz (aU gW (bw cg mF (hB "len" dB) PySem.boot_len dG (aj (aA bD) ao)) aq (aO _)) (fU (dW (cV (bw (jB rfl) uH (hB "all" tE) PyProof.Rows.Boot.«all» uh (aj (gn (NX := ["_law_words", "_law_at", "_law_many", "_law_numbers", "_law_sizes"]) (kX := (ak bR).names) ["_law_goal", "_law_at", "_law_many"] [none, some 1, some 2] rfl rfl ⟨rfl, by decide +kernel, by decide +kernel, by decide +kernel, by decide +kernel⟩ rfl (gm (bB zY (aA bD) (bO aq) bY)) (fun _ _ _ _ _ => (eE 0 (show List.Nodup (["_law_goal", "_law_at", "_law_many"] : List Str) from by decide +kernel) rfl (Or.inl rfl))) (fun _ _ _ _ _ => gK) (fun _ _ _ _ _ => (nP gW gW (jc 1) (jc 0) (jc 2)))) ao))))))) (aF (aL cQ)) bh)
   (aF (aL (cB (aj aH (aj (aZ cF (aA bD) aq (fun _ _ => rfl)) (aj (jQ fL jT (hB "tuple" fK) boot_tuple fM (aj (bB zY (aA bD) (bO aq) bY) ao)) ao))))))) bh)
   (aD (bK (aU (bZ hr.bA) (aZ cF (aA dU) aq (fun _ _ => rfl)) aH (aO _)) (aF (aL (nM (aU JW (aZ cF (aA bD) aq (fun _ _ => rfl)) aq (aO _)) (cB (aj aH (aj (aZ cF (aA bD) aq (fun _ _ => rfl)) ao))) cQ))) bh)
   (aD (bK (iK (iz (dW (nJ gW gW (aA yR) (aZ cF (aA bD) (sG mJ aq) (fun _ _ => rfl)) (aA yQ))) (fU (iK (kh (aU (bZ hr.bA) (aZ cF (aA dU) aq (fun _ _ => rfl)) aH (aO _)) (iV (aU yI (aZ cF (aA bD) aq (fun _ _ => rfl)) (aZ cF (aA bD) aq (fun _ _ => rfl)) (aO _)))))))) (aF (aL cQ)) bh)
   (aD (bK (iK (kh (aU (bZ hr.bA) (aZ cF (aA dU) aq (fun _ _ => rfl)) aH (aO _)) (iV (iK (iz (dW (nJ nQ nQ aq (aZ cF (aA bD) aq (fun _ _ => rfl)) aq)) (fU (dW (nJ nQ gW aq (aZ cF (aA bD) aq (fun _ _ => rfl)) (aK Aw aq (aZ cF (aA bD) aq (fun _ _ => rfl))))))))))) (aF (aL cQ)) bh)
   (aF (aL (aK CW (cB (aj (aZ cF (aA dU) aq (fun _ _ => rfl)) ao)) (jQ fL jT (hB "tuple" fK) boot_tuple fM (aj (aA bD) ao)))))))))))), ?_⟩
  replace ea : H a = some (.lst (V.str w0 :: ts.map V.str)) := ea
  have h0 : atI (V.str w0 :: ts.map V.str) 0 = some (V.str w0) := cM (j := 0) rfl
  refine aP fun k hk => ?_
  push_cast
  refine gC fun R hR => ?_
  push_cast [ea]
  intro p1 hp1
  have hcut : jy (V.str w0 :: ts.map V.str) (some 1) none = ts.map V.str := (oM ((w0 :: ts).map V.str) 1 (by rw [List.length_map, List.length_cons]; omega)).trans rfl
  rw [hcut]
  have s1 := au (o := HO.lst (ts.map V.str)) hp1
  have e1 : upd H p1 (HO.lst (ts.map V.str)) p1 = _ := aB
  generalize upd H p1 (HO.lst (ts.map V.str)) = H1 at s1 e1 ⊢
  try push_cast [e1]
  obtain ⟨Pc, hPc⟩ : ∃ Pv : Nat → List V → L2.St → Hp → Prop, Pv = fun (i : Nat) acc τ H' => ∃ (o1 : Option V), Same H1 H' ∧ acc = (ts.take i).map fW ∧ τ = [o1] := ⟨_, rfl⟩
  refine uc hR (xs := ts.map V.str) (aQ (by rw [List.length_map]; omega)) Pc (by rw [hPc]; exact ⟨none, Same.refl _, rfl, rfl⟩) ?_ ?_ ?_ ?_
  ·intro i acc τ H2 pc
   rw [hPc] at pc
   obtain ⟨_, _, rfl, _⟩ := pc
   rw [List.length_map]
   exact List.length_take_le _ _
  ·intro i acc τ H2 pc
   rw [hPc] at pc
   obtain ⟨_, s2, _⟩ := pc
   exact SqL.of (s2 _ _ e1)
  ·intro i x acc τ H2 hx pc
   rw [hPc] at pc
   obtain ⟨_, s2, rfl, rfl⟩ := pc
   rw [List.getElem?_map] at hx
   obtain ⟨t, ht1, rfl⟩ := Option.map_eq_some_iff.mp hx
   push_cast
   refine ⟨t, rfl, htl t (List.mem_cons_of_mem _ (List.mem_of_getElem? ht1)), fun H3 s3 => ?_⟩
   rw [hPc]
   refine ⟨_, s2.trans s3, ?_, rfl⟩
   rw [take_snoc ht1, List.map_append]
   rfl
  ·intro acc τ H2 d pc hd
   rw [hPc] at pc
   obtain ⟨_, s2, rfl, rfl⟩ := pc
   rw [List.length_map, List.take_length]
   have s3 := (s1.trans s2).trans (au (o := HO.lst (ts.map fW)) hd)
   have e3 : upd H2 d (HO.lst (ts.map fW)) d = _ := aB
   generalize upd H2 d (HO.lst (ts.map fW)) = H3 at s3 e3 ⊢
   subst hk
   refine aP fun k hk => ?_
   push_cast
   intro pd hpd
   refine ⟨m7, rfl, by decide, ?_⟩
   rw [Ej]
   have s4 : Same H3 (upd (upd H3 pd (HO.dK [])) pd (HO.dK m7)) := Er (au hpd) hpd
   have ed : upd (upd H3 pd (HO.dK [])) pd (HO.dK m7) pd = some (HO.dK m7) := aB
   have e4 := s4 _ _ e3
   have s04 := s3.trans s4
   have ea4 := s04 _ _ ea
   generalize upd (upd H3 pd (HO.dK [])) pd (HO.dK m7) = H4 at s4 ed e4 s04 ea4 ⊢
   clear s1 s2 s3 s4 e1 e3
   subst hk
   refine aP fun k hk => ?_
   push_cast [e4, ea4, h0]
   refine ⟨rfl, vq ts, ?_⟩
   by_cases hbad : inV V.non (ts.map fW) = true
   ·rw [if_pos hbad]
    exact qn (EY ((qR ts).mp hbad)) _ s04
   ·rw [if_neg hbad]
    have hok : ∀ t ∈ ts, aV t = true := fun t ht => by
     cases e : aV t with
     | true => rfl
     | false => exact absurd ((qR ts).mpr ⟨t, ht, e⟩) hbad
    have hall : ts.all aV = true := List.all_eq_true.mpr hok
    obtain ⟨is, his⟩ : ∃ is, is = ts.map eU := ⟨_, rfl⟩
    have hin : ts.map fW = is.map V.int := by rw [his]; exact vp hok
    have hil : is.length = ts.length := by rw [his, List.length_map]
    rw [hin] at e4 ⊢
    by_cases hT : w0 = "table"
    ·rw [if_neg (by rw [decide_eq_true hT]; decide)]
     subst hT
     subst hk
     refine aP fun k hk => ?_
     push_cast [ea4, h0, e4]
     rw [List.length_map]
     by_cases c2 : (is.length : Int) < 2
     ·rw [if_pos c2]
      refine qn ?_ _ s04
      cases ts with
      | nil =>
       rw [fY hall fun z => z.2 rfl]
       exact rZ
      | cons t r =>
       rw [gJ hall, pq]
       cases r with
       | nil => rfl
       | cons t2 r => rw [List.length_cons, List.length_cons] at hil; omega
     ·rw [if_neg c2]
      obtain ⟨i0, g0, hig⟩ : ∃ i g, is = i :: g := by
       cases is with
       | nil => exact absurd (show ((0 : Nat) : Int) < 2 by decide) c2
       | cons i g => exact ⟨i, g, rfl⟩
      have hF : fD ("table" :: ts) = .tuple [.str "table", .int i0, .tuple (g0.map PyData.int)] := by
       cases ts with
       | nil => rw [his] at hig; cases hig
       | cons t r =>
        rw [gJ hall]
        rw [his, List.map_cons] at hig
        injection hig with z1 z2
        rw [z1, z2]
      rw [hF, pq] at qn qy
      subst hig
      have hg1 : g0 ≠ [] := fun z => by rw [z] at c2; exact c2 (by show ((1 : Nat) : Int) < 2; decide)
      have hge : g0.isEmpty = false := by cases g0 with | nil => exact absurd rfl hg1 | cons _ _ => rfl
      rw [hge, Bool.not_false, Bool.true_and] at qn qy
      rw [List.length_cons] at hil
      have hcut2 : jy (V.int i0 :: g0.map V.int) (some 1) none = g0.map V.int := (oM ((i0 :: g0).map V.int) 1 (by rw [List.length_map, List.length_cons]; omega)).trans rfl
      refine gC fun R2 hR2 => ?_
      push_cast [e4]
      intro p5 hp5
      rw [hcut2]
      have s5 := s04.trans (au (o := HO.lst (g0.map V.int)) hp5)
      have e45 := au (o := HO.lst (g0.map V.int)) hp5 _ _ e4
      have e5 : upd H4 p5 (HO.lst (g0.map V.int)) p5 = _ := aB
      generalize upd H4 p5 (HO.lst (g0.map V.int)) = H5 at s5 e45 e5 ⊢
      try push_cast [e5]
      obtain ⟨Pd, hPd⟩ : ∃ Pv : Nat → List V → L2.St → Hp → Prop, Pv = fun (i : Nat) acc τ H' => ∃ (o1 : Option V), H' = H5 ∧ acc = ((g0.take i).map (btw own many)).map V.bl ∧ τ = [o1, some (.int own), some (.int many)] := ⟨_, rfl⟩
      refine uc hR2 (xs := g0.map V.int) (aQ (by rw [List.length_map]; omega)) Pd (by rw [hPd]; exact ⟨none, rfl, rfl, rfl⟩) ?_ ?_ ?_ ?_
      ·intro i acc τ H6 pc
       rw [hPd] at pc
       obtain ⟨_, _, rfl, _⟩ := pc
       rw [List.length_map, List.length_map]
       exact List.length_take_le _ _
      ·intro i acc τ H6 pc
       rw [hPd] at pc
       obtain ⟨_, rfl, _⟩ := pc
       exact SqL.of e5
      ·intro i x acc τ H6 hx pc
       rw [hPd] at pc
       obtain ⟨_, rfl, rfl, rfl⟩ := pc
       rw [List.getElem?_map] at hx
       obtain ⟨g, hg, rfl⟩ := Option.map_eq_some_iff.mp hx
       have fin : Pd (i + 1) (((g0.take i).map (btw own many)).map V.bl ++ [V.bl (btw own many g)]) [some (.int g), some (.int own), some (.int many)] H6 := by
        rw [hPd]
        refine ⟨_, rfl, ?_, rfl⟩
        rw [take_snoc hg, List.map_append, List.map_append]
        rfl
       rw [show btw own many g = (decide (own < g) && decide (g < many)) from rfl] at fin
       push_cast
       split
       ·rename_i c
        rw [decide_eq_true c, Bool.true_and] at fin
        exact fin
       ·rename_i c
        rw [decide_eq_false c, Bool.false_and] at fin
        exact fin
      ·intro acc τ H6 d6 pc hd6
       rw [hPd] at pc
       obtain ⟨_, rfl, rfl, rfl⟩ := pc
       rw [List.length_map, List.take_length]
       have s6 := s5.trans (au (o := HO.lst ((g0.map (btw own many)).map V.bl)) hd6)
       have e46 := au (o := HO.lst ((g0.map (btw own many)).map V.bl)) hd6 _ _ e45
       have e6 : upd H6 d6 (HO.lst ((g0.map (btw own many)).map V.bl)) d6 = _ := aB
       generalize upd H6 d6 (HO.lst ((g0.map (btw own many)).map V.bl)) = H7 at s6 e46 e6 ⊢
       push_cast [e6]
       refine ⟨_, rfl, ?_⟩
       rw [show (g0.map (btw own many)).all id = g0.all (btw own many) by rw [List.all_map]; rfl]
       cases hb : g0.all (btw own many) with
       | false =>
        rw [if_pos (show (!false) = true from rfl)]
        exact qn hb _ s6
       | true =>
        rw [if_neg (show ¬ (!true) = true by decide)]
        push_cast [e46]
        intro p8 hp8
        rw [hcut2]
        have s8 := s6.trans (au (o := HO.lst (g0.map V.int)) hp8)
        have e8 : upd H7 p8 (HO.lst (g0.map V.int)) p8 = _ := aB
        generalize upd H7 p8 (HO.lst (g0.map V.int)) = H8 at s8 e8 ⊢
        refine ⟨_, .inl ⟨SqL.of e8, fun p9 hp9 => ⟨aQ (by decide), fun p10 hp10 => ?_⟩⟩⟩
        have s9 := s8.trans (au (o := HO.tup (g0.map V.int)) hp9)
        exact qy hb _ _ (s9.trans (au hp10)) (.tup (hn _ _ s9 hp10) aB (by show 3 ≤ 1000000; decide) (.cons (.str _) (.cons (.int _) (.cons (.tup (hn _ _ s8 hp9) (au hp10 _ _ aB) (by rw [List.length_map]; omega) (fX _)) .nil))))
    ·rw [if_pos (by rw [decide_eq_false hT]; decide)]
     have hF : fD (w0 :: ts) = .tuple (.str w0 :: is.map PyData.int) := by rw [fY hall fun z => hT z.1, his]
     rw [hF, vh hT] at qn qy
     refine ⟨.inl ⟨_, .inl ed⟩, _, Ml.k (k := Sum.inr w0) ed, ?_⟩
     rw [MJ]
     push_cast
     rw [List.length_map]
     by_cases hs : lZ w0 - 1 = (is.length : Int)
     ·rw [decide_eq_true hs, Bool.not_true, if_neg (by decide)]
      have fin : ∀ (A1 : List V) (v : V), True := fun _ _ => trivial
      subst hk
      refine aP fun k hk => ?_
      push_cast [ea4, h0]
      rw [if_neg hT]
      subst hk
      refine aP fun k hk => ?_
      push_cast [ea4, h0]
      have hpos : 1 ≤ is.length := by
       rcases jD w0 with ⟨_, es⟩ | ⟨_, es⟩ | ⟨_, es⟩ | ⟨_, es⟩ | ⟨_, es⟩ | ⟨es, _⟩ <;> omega
      rcases jD w0 with ⟨hw, es⟩ | ⟨hw, es⟩ | ⟨hw, es⟩ | ⟨hw, es⟩ | ⟨hw, es⟩ | ⟨es, _⟩
      rotate_left 4
      ·obtain ⟨x, rfl⟩ := W4 (is := is) (by rw [es] at hs; omega)
       subst hw
       have hz0 : atI ([x].map V.int) 0 = some (V.int x) := rfl
       rw [if_pos rfl]
       rw [show (cu "pick" [x] && (gB "pick" [x]).all (btw own many)) = decide (0 ≤ x) by
        unfold cu gB
        rw [if_pos rfl, decide_eq_true (show ("pick" : Str) = "pick" from rfl)]
        simp] at qn qy
       push_cast [e4, hz0]
       by_cases c1 : 0 ≤ x
       ·rw [if_pos c1]
        refine ⟨aQ (by decide), fun p5 hp5 => ?_⟩
        exact qy (decide_eq_true c1) _ _ (s04.trans (au hp5)) (.tup (hn _ _ s04 hp5) aB (by show 2 ≤ 1000000; decide) (.cons (.str _) (.cons (.int _) .nil)))
       ·rw [if_neg c1]
        exact qn (decide_eq_false c1) _ s04
      ·omega
      ·obtain ⟨x, y, rfl⟩ := Wm (is := is) (by rw [es] at hs; omega)
       subst hw
       have hcd : (cu "is" [x, y] && (gB "is" [x, y]).all (btw own many)) = (decide (own < y) && decide (y < many)) := by
        rw [dF (t := y) (by decide +kernel) rfl, show cu "is" [x, y] = true by show (decide (("is" : Str) = "is") || decide (("is" : Str) = "below")) = true; decide +kernel]
        show (true && (btw own many y && true)) = _
        rw [Bool.and_true, Bool.true_and]
        rfl
       rw [hcd] at qn qy
       rw [if_neg (by decide +kernel)]
       subst hk
       refine aP fun k hk => ?_
       have hlast : atI ([x, y].map V.int) (-1) = some (V.int y) := rfl
       have hz0 : atI ([x, y].map V.int) 0 = some (V.int x) := rfl
       push_cast [e4, hlast, hz0, ea4, h0]
       have last : (decide (own < y) && decide (y < many)) = true → k [some (V.ref a), some (V.int own), some (V.int many), some (V.ref d), some (V.ref pd)] H4 := by
        intro hcond
        subst hk
        refine aP fun k hk => ?_
        push_cast [ea4, h0]
        rw [if_neg (by decide +kernel)]
        subst hk
        push_cast [ea4, h0]
        refine ⟨aQ (by decide), fun p5 hp5 => ?_⟩
        have s5 := s04.trans (au (o := HO.tup [V.str "is"]) hp5)
        have o5 := hn _ _ s04 hp5
        have e5 : upd H4 p5 (HO.tup [V.str "is"]) p5 = _ := aB
        have e45 := au (o := HO.tup [V.str "is"]) hp5 _ _ e4
        generalize upd H4 p5 (HO.tup [V.str "is"]) = H5 at s5 e5 e45 ⊢
        refine ⟨_, .inl ⟨SqL.of e45, fun p6 hp6 => ?_⟩⟩
        have s6 := s5.trans (au (o := HO.tup ([x, y].map V.int)) hp6)
        have e56 := au (o := HO.tup ([x, y].map V.int)) hp6 _ _ e5
        have e6 : upd H5 p6 (HO.tup ([x, y].map V.int)) p6 = _ := aB
        generalize upd H5 p6 (HO.tup ([x, y].map V.int)) = H6 at s6 e56 e6 ⊢
        rw [nH, e56, e6, tZ]
        refine ⟨List.cons_ne_nil _ _, aQ (by rw [List.length_map]; show 1 + _ ≤ 1000000; omega), fun hnil => ?_, fun _ p7 hp7 => ?_⟩
        ·have : [x, y].length = 0 := by
          have := congrArg List.length hnil
          rw [List.length_map] at this
          exact this
         omega
        ·exact qy hcond _ _ (s6.trans (au hp7)) (.tup (hn _ _ s6 hp7) aB (by rw [List.length_append, List.length_map]; show 1 + _ ≤ 1000000; omega) (.cons (.str _) (fX _)))
       by_cases c1 : own < y
       ·rw [if_pos c1]
        by_cases c2 : y < many
        ·rw [if_neg (by rw [decide_eq_true c2]; decide), if_neg (by decide +kernel)]
         exact last (by rw [decide_eq_true c1, decide_eq_true c2]; rfl)
        ·rw [if_pos (by rw [decide_eq_false c2]; decide)]
         exact qn (by rw [decide_eq_false c2, Bool.and_false]) _ s04
       ·rw [if_neg c1]
        exact qn (by rw [decide_eq_false c1, Bool.false_and]) _ s04
      ·obtain ⟨x, y, z, rfl⟩ := W3 (is := is) (by rw [es] at hs; omega)
       subst hw
       have hcd : (cu "within" [x, y, z] && (gB "within" [x, y, z]).all (btw own many)) = (decide (x ≤ y) && (decide (own < z) && decide (z < many))) := by
        rw [dF (t := z) (by decide +kernel) rfl, show cu "within" [x, y, z] = decide (x ≤ y) by
         show (decide (("within" : Str) = "within") && decide (x ≤ y)) = _
         rw [decide_eq_true (show ("within" : Str) = "within" from rfl), Bool.true_and]]
        show (_ && (btw own many z && true)) = _
        rw [Bool.and_true]
        rfl
       rw [hcd] at qn qy
       rw [if_neg (by decide +kernel)]
       subst hk
       refine aP fun k hk => ?_
       have hlast : atI ([x, y, z].map V.int) (-1) = some (V.int z) := rfl
       have hz0 : atI ([x, y, z].map V.int) 0 = some (V.int x) := rfl
       have hz1 : atI ([x, y, z].map V.int) 1 = some (V.int y) := rfl
       push_cast [e4, hlast, hz0, hz1, ea4, h0]
       have last : (decide (x ≤ y) && (decide (own < z) && decide (z < many))) = true → k [some (V.ref a), some (V.int own), some (V.int many), some (V.ref d), some (V.ref pd)] H4 := by
        intro hcond
        subst hk
        refine aP fun k hk => ?_
        push_cast [ea4, h0]
        rw [if_neg (by decide +kernel)]
        subst hk
        push_cast [ea4, h0]
        refine ⟨aQ (by decide), fun p5 hp5 => ?_⟩
        have s5 := s04.trans (au (o := HO.tup [V.str "within"]) hp5)
        have o5 := hn _ _ s04 hp5
        have e5 : upd H4 p5 (HO.tup [V.str "within"]) p5 = _ := aB
        have e45 := au (o := HO.tup [V.str "within"]) hp5 _ _ e4
        generalize upd H4 p5 (HO.tup [V.str "within"]) = H5 at s5 e5 e45 ⊢
        refine ⟨_, .inl ⟨SqL.of e45, fun p6 hp6 => ?_⟩⟩
        have s6 := s5.trans (au (o := HO.tup ([x, y, z].map V.int)) hp6)
        have e56 := au (o := HO.tup ([x, y, z].map V.int)) hp6 _ _ e5
        have e6 : upd H5 p6 (HO.tup ([x, y, z].map V.int)) p6 = _ := aB
        generalize upd H5 p6 (HO.tup ([x, y, z].map V.int)) = H6 at s6 e56 e6 ⊢
        rw [nH, e56, e6, tZ]
        refine ⟨List.cons_ne_nil _ _, aQ (by rw [List.length_map]; show 1 + _ ≤ 1000000; omega), fun hnil => ?_, fun _ p7 hp7 => ?_⟩
        ·have : [x, y, z].length = 0 := by
          have := congrArg List.length hnil
          rw [List.length_map] at this
          exact this
         omega
        ·exact qy hcond _ _ (s6.trans (au hp7)) (.tup (hn _ _ s6 hp7) aB (by rw [List.length_append, List.length_map]; show 1 + _ ≤ 1000000; omega) (.cons (.str _) (fX _)))
       by_cases c1 : own < z
       ·rw [if_pos c1]
        by_cases c2 : z < many
        ·rw [if_neg (by rw [decide_eq_true c2]; decide)]
         by_cases c3 : y < x
         ·rw [if_pos c3]
          exact qn (by rw [decide_eq_false (show ¬ x ≤ y by omega), Bool.false_and]) _ s04
         ·rw [if_neg c3]
          exact last (by rw [decide_eq_true c1, decide_eq_true c2, decide_eq_true (show x ≤ y by omega)]; rfl)
        ·rw [if_pos (by rw [decide_eq_false c2]; decide)]
         exact qn (by rw [decide_eq_false c2, Bool.and_false, Bool.and_false]) _ s04
       ·rw [if_neg c1]
        exact qn (by rw [decide_eq_false c1, Bool.false_and, Bool.and_false]) _ s04
      ·obtain ⟨x, y, rfl⟩ := Wm (is := is) (by rw [es] at hs; omega)
       subst hw
       have hcd : (cu "below" [x, y] && (gB "below" [x, y]).all (btw own many)) = (decide (own < y) && decide (y < many)) := by
        rw [dF (t := y) (by decide +kernel) rfl, show cu "below" [x, y] = true by show (decide (("below" : Str) = "is") || decide (("below" : Str) = "below")) = true; decide +kernel]
        show (true && (btw own many y && true)) = _
        rw [Bool.and_true, Bool.true_and]
        rfl
       rw [hcd] at qn qy
       rw [if_neg (by decide +kernel)]
       subst hk
       refine aP fun k hk => ?_
       have hlast : atI ([x, y].map V.int) (-1) = some (V.int y) := rfl
       have hz0 : atI ([x, y].map V.int) 0 = some (V.int x) := rfl
       push_cast [e4, hlast, hz0, ea4, h0]
       have last : (decide (own < y) && decide (y < many)) = true → k [some (V.ref a), some (V.int own), some (V.int many), some (V.ref d), some (V.ref pd)] H4 := by
        intro hcond
        subst hk
        refine aP fun k hk => ?_
        push_cast [ea4, h0]
        rw [if_neg (by decide +kernel)]
        subst hk
        push_cast [ea4, h0]
        refine ⟨aQ (by decide), fun p5 hp5 => ?_⟩
        have s5 := s04.trans (au (o := HO.tup [V.str "below"]) hp5)
        have o5 := hn _ _ s04 hp5
        have e5 : upd H4 p5 (HO.tup [V.str "below"]) p5 = _ := aB
        have e45 := au (o := HO.tup [V.str "below"]) hp5 _ _ e4
        generalize upd H4 p5 (HO.tup [V.str "below"]) = H5 at s5 e5 e45 ⊢
        refine ⟨_, .inl ⟨SqL.of e45, fun p6 hp6 => ?_⟩⟩
        have s6 := s5.trans (au (o := HO.tup ([x, y].map V.int)) hp6)
        have e56 := au (o := HO.tup ([x, y].map V.int)) hp6 _ _ e5
        have e6 : upd H5 p6 (HO.tup ([x, y].map V.int)) p6 = _ := aB
        generalize upd H5 p6 (HO.tup ([x, y].map V.int)) = H6 at s6 e56 e6 ⊢
        rw [nH, e56, e6, tZ]
        refine ⟨List.cons_ne_nil _ _, aQ (by rw [List.length_map]; show 1 + _ ≤ 1000000; omega), fun hnil => ?_, fun _ p7 hp7 => ?_⟩
        ·have : [x, y].length = 0 := by
          have := congrArg List.length hnil
          rw [List.length_map] at this
          exact this
         omega
        ·exact qy hcond _ _ (s6.trans (au hp7)) (.tup (hn _ _ s6 hp7) aB (by rw [List.length_append, List.length_map]; show 1 + _ ≤ 1000000; omega) (.cons (.str _) (fX _)))
       by_cases c1 : own < y
       ·rw [if_pos c1]
        by_cases c2 : y < many
        ·rw [if_neg (by rw [decide_eq_true c2]; decide), if_neg (by decide +kernel)]
         exact last (by rw [decide_eq_true c1, decide_eq_true c2]; rfl)
        ·rw [if_pos (by rw [decide_eq_false c2]; decide)]
         exact qn (by rw [decide_eq_false c2, Bool.and_false]) _ s04
       ·rw [if_neg c1]
        exact qn (by rw [decide_eq_false c1, Bool.false_and]) _ s04
      ·obtain ⟨x, y, z, u, rfl⟩ := W2 (is := is) (by rw [es] at hs; omega)
       subst hw
       have hcd : (cu "mask" [x, y, z, u] && (gB "mask" [x, y, z, u]).all (btw own many)) = (((decide (1 ≤ y) && decide (y ≤ 64)) && (decide (0 ≤ z) && decide (z < 2 ^ y.toNat))) && (decide (own < u) && decide (u < many))) := by
        rw [dF (t := u) (by decide +kernel) rfl, show cu "mask" [x, y, z, u] = ((decide (1 ≤ y) && decide (y ≤ 64)) && (decide (0 ≤ z) && decide (z < 2 ^ y.toNat))) by
         show (decide (("mask" : Str) = "mask") && _) = _
         rw [decide_eq_true (show ("mask" : Str) = "mask" from rfl)]
         exact Bool.true_and _]
        show (_ && (btw own many u && true)) = _
        rw [Bool.and_true]
        rfl
       rw [hcd] at qn qy
       rw [if_neg (by decide +kernel)]
       subst hk
       refine aP fun k hk => ?_
       have hlast : atI [V.int x, V.int y, V.int z, V.int u] (-1) = some (V.int u) := rfl
       have hz0 : atI ([x, y, z, u].map V.int) 0 = some (V.int x) := rfl
       have hz1 : atI ([x, y, z, u].map V.int) 1 = some (V.int y) := rfl
       have hz2 : atI ([x, y, z, u].map V.int) 2 = some (V.int z) := rfl
       push_cast [e4, hlast, hz0, hz1, ea4, h0]
       by_cases c1 : own < u
       ·rw [if_pos c1]
        by_cases c2 : u < many
        ·rw [if_neg (by rw [decide_eq_true c2]; decide), if_neg (by decide +kernel)]
         rw [decide_eq_true c1, decide_eq_true c2, show (true && true) = true from rfl, Bool.and_true] at qn qy
         subst hk
         refine aP fun k hk => ?_
         push_cast [ea4, h0, e4, hz1, hz2]
         by_cases c3 : 1 ≤ y
         ·rw [if_pos c3]
          by_cases c4 : y ≤ 64
          ·rw [if_neg (by rw [decide_eq_true c4]; decide)]
           by_cases c5 : 0 ≤ z
           ·rw [if_pos c5]
            refine ⟨⟨by omega, by omega, by decide⟩, ?_⟩
            rw [Int.one_mul]
            by_cases c6 : z < 2 ^ y.toNat
            ·rw [if_neg (by rw [decide_eq_true c6]; decide)]
             have hcond : ((decide (1 ≤ y) && decide (y ≤ 64)) && (decide (0 ≤ z) && decide (z < 2 ^ y.toNat))) = true := by rw [decide_eq_true c3, decide_eq_true c4, decide_eq_true c5, decide_eq_true c6]; rfl
             subst hk
             push_cast [ea4, h0]
             refine ⟨aQ (by decide), fun p5 hp5 => ?_⟩
             have s5 := s04.trans (au (o := HO.tup [V.str "mask"]) hp5)
             have o5 := hn _ _ s04 hp5
             have e5 : upd H4 p5 (HO.tup [V.str "mask"]) p5 = _ := aB
             have e45 := au (o := HO.tup [V.str "mask"]) hp5 _ _ e4
             generalize upd H4 p5 (HO.tup [V.str "mask"]) = H5 at s5 e5 e45 ⊢
             refine ⟨_, .inl ⟨SqL.of e45, fun p6 hp6 => ?_⟩⟩
             have s6 := s5.trans (au (o := HO.tup ([x, y, z, u].map V.int)) hp6)
             have e56 := au (o := HO.tup ([x, y, z, u].map V.int)) hp6 _ _ e5
             have e6 : upd H5 p6 (HO.tup ([x, y, z, u].map V.int)) p6 = _ := aB
             generalize upd H5 p6 (HO.tup ([x, y, z, u].map V.int)) = H6 at s6 e56 e6 ⊢
             rw [nH, e56, e6, tZ]
             refine ⟨List.cons_ne_nil _ _, aQ (by rw [List.length_map]; show 1 + _ ≤ 1000000; omega), fun hnil => ?_, fun _ p7 hp7 => ?_⟩
             ·have : [x, y, z, u].length = 0 := by
               have := congrArg List.length hnil
               rw [List.length_map] at this
               exact this
              omega
             ·exact qy hcond _ _ (s6.trans (au hp7)) (.tup (hn _ _ s6 hp7) aB (by rw [List.length_append, List.length_map]; show 1 + _ ≤ 1000000; omega) (.cons (.str _) (fX _)))
            ·rw [if_pos (by rw [decide_eq_false c6]; decide)]
             exact qn (by rw [decide_eq_false c6, Bool.and_false, Bool.and_false]) _ s04
           ·rw [if_neg c5]
            exact qn (by rw [decide_eq_false c5, Bool.false_and, Bool.and_false]) _ s04
          ·rw [if_pos (by rw [decide_eq_false c4]; decide)]
           exact qn (by rw [decide_eq_false c4, Bool.and_false, Bool.false_and]) _ s04
         ·rw [if_neg c3]
          exact qn (by rw [decide_eq_false c3, Bool.false_and, Bool.false_and]) _ s04
        ·rw [if_pos (by rw [decide_eq_false c2]; decide)]
         exact qn (by rw [decide_eq_false c2, Bool.and_false, Bool.and_false]) _ s04
       ·rw [if_neg c1]
        exact qn (by rw [decide_eq_false c1, Bool.false_and, Bool.and_false]) _ s04
     ·rw [decide_eq_false hs, Bool.not_false, if_pos rfl]
      refine qn ?_ _ s04
      rw [Aa (by omega), Bool.false_and]
abbrev gU : Stmt := top 34
theorem rQ : bI ["_law_text", "_law_texts", "_law_rows_here", "_law_at", "_law_one", "_law_row"] ["_law_text"] (ak gU) := ⟨rfl, rfl, rfl, by decide +kernel, rfl, by decide +kernel, by decide +kernel⟩
theorem Ql : Nm ["_law_text", "_law_texts", "_law_rows_here", "_law_at", "_law_one", "_law_row"] (ak gU) 0 "_law_text" := .of (by decide +kernel)
theorem wW : Nm ["_law_text", "_law_texts", "_law_rows_here", "_law_at", "_law_one", "_law_row"] (ak gU) 1 "_law_texts" := .of (by decide +kernel)
theorem Dg : Nm ["_law_text", "_law_texts", "_law_rows_here", "_law_at", "_law_one", "_law_row"] (ak gU) 2 "_law_rows_here" := .of (by decide +kernel)
theorem qU : Nm ["_law_text", "_law_texts", "_law_rows_here", "_law_at", "_law_one", "_law_row"] (ak gU) 3 "_law_at" := .of (by decide +kernel)
theorem Df : Nm ["_law_text", "_law_texts", "_law_rows_here", "_law_at", "_law_one", "_law_row"] (ak gU) 4 "_law_one" := .of (by decide +kernel)
theorem qT : Nm ["_law_text", "_law_texts", "_law_rows_here", "_law_at", "_law_one", "_law_row"] (ak gU) 5 "_law_row" := .of (by decide +kernel)
theorem tQ : (ak gU).names.lookup ("_law_row_read" : Str) = some .globalImplicit := by decide +kernel
theorem qI : (ak gU).names.lookup ("enumerate" : Str) = some .globalImplicit := by decide +kernel
theorem vK : (ak gU).names.lookup ("len" : Str) = some .globalImplicit := by decide +kernel
theorem Lz : Bn "_law_due" := ⟨by decide +kernel, by decide +kernel⟩
theorem Uu (hB : ∀ x : Str, x ∈ BLs → mg x = none) (CZRowRead : Cal P w K mg base "_law_row_read" 2 ["_law_words", "_law_at", "_law_many"] uZ) (F : Fun K "_law_due" "_law_due" gU f fd) : dH P w K mg base CX0 3 f fd ["_law_text"] wk := by
 refine F.okq rQ (fun vs H Q E h => ?_) (fun cdv A outer s H vs Q E hr h => ?_)
 ·obtain ⟨x, rfl, _⟩ := h
  rfl
 ·obtain ⟨x, rfl, hx, q⟩ := h
  refine ⟨_, (aD (wN (i := 1) (j := 2) rfl rQ.nd rfl rfl (by decide) rfl rfl (aj (jm PySem.F.slot_str_split PySem.F.type_str_split gZ (aA Ql) (aj aH ao)) (aj (fV ao) ao)) (by rfl))
   (aD (kj PassesOwn.never rfl (yH qI (hB "enumerate" nZ) (aj (aA wW) ao)) (pB (n := 2) rfl (dY (iB qU rQ.nd) (dY (iB Df rQ.nd) lN)))
   (aD (bW qT rQ.nd (bC CZRowRead (hr.mono (by decide)) tQ BW (aj (jm PySem.F.slot_str_split PySem.F.type_str_split gZ (aA Df) (aj aH ao)) (aj (aA qU) (aj (bw cg vK (hB "len" dB) PySem.boot_len dG (aj (aA wW) ao)) ao)))))
   (aD (bK (iK (iz (aU sH (aA qT) cQ (aO _)) (fU (iK (kh (aU (bZ hr.bA) (aA qU) (aK iM (bw cg vK (hB "len" dB) PySem.boot_len dG (aj (aA wW) ao)) aq) (aO _)) (iV (aU (jG hr.bA) (aZ cF (aA qT) aq (fun _ _ => rfl)) aH (aO _)))))))) (aF (aL (cB (aj aH (aj (aA qU) ao))))) bh)
   (aF (iC (iY (aA Dg) (aA qT)))))))
   (aF (aL (aA Dg))))), ?_⟩
  obtain ⟨rl1, rl2⟩ := rT x
  have hrne := Es x
  obtain ⟨rs, hrs⟩ : ∃ rs, rs = rowsOf x := ⟨_, rfl⟩
  have hsp : Txt.split x "\n" = rs := by rw [hrs]; rfl
  rw [← hrs] at rl1 rl2 hrne
  refine aP fun k hk => ?_
  push_cast [rdT]
  rw [hsp]
  refine ⟨by decide, by rw [sizeLine_eq]; omega, aQ (by omega), fun p1 hp1 => ⟨Nat.zero_le _, fun r0 hr0 => ?_⟩⟩
  have s1 := au (o := HO.lst (rs.map V.str)) hp1
  have e1 : upd H p1 (HO.lst (rs.map V.str)) p1 = _ := aB
  have nr : p1 ≠ r0 := aJ e1 hr0
  have hr00 : H r0 = none := s1.none hr0
  have s2 := s1.trans (au (o := HO.lst []) hr0)
  have e12 := au (o := HO.lst []) hr0 _ _ e1
  have e2 : upd (upd H p1 (HO.lst (rs.map V.str))) r0 (HO.lst []) r0 = some (.lst []) := aB
  generalize upd (upd H p1 (HO.lst (rs.map V.str))) r0 (HO.lst []) = H2 at s2 e12 e2 ⊢
  clear s1 e1
  subst hk
  refine aP fun k hk => ?_
  refine qp fun R hR => ?_
  push_cast [vI, Dt, e12, Ds]
  obtain ⟨Pv, hPv⟩ : ∃ Pv : Nat → L2.St → Hp → Prop, Pv = fun (i : Nat) σ H' => ∃ (vs : List V) (o3 o4 o5 : Option V), bU r0 H2 H' ∧ H' r0 = some (.lst vs) ∧ aR (· ≠ r0) H' vs ((rs.take i).map eO) ∧ firstBad (rs.length : Int) 0 rs = firstBad (rs.length : Int) i (rs.drop i) ∧ σ = [some (.str x), some (.ref p1), some (.ref r0), o3, o4, o5] := ⟨_, rfl⟩
  refine RG hR (xs := rs.map V.str) Pv (by rw [hPv]; exact ⟨[], _, _, _, bU.refl _ _, e2, .nil, rfl, rfl⟩) ?_ ?_ ?_
  ·intro i σ H3 pv
   rw [hPv] at pv
   obtain ⟨_, _, _, _, s3, _⟩ := pv
   exact s3 _ _ nr e12
  ·intro i v0 σ H3 p3 hx3 pv hp3
   rw [hPv] at pv
   obtain ⟨vs, o3, o4, o5, s3, e3, t3, hfb, rfl⟩ := pv
   rw [List.getElem?_map] at hx3
   obtain ⟨r, hri, rfl⟩ := Option.map_eq_some_iff.mp hx3
   have hi : i < rs.length := (List.getElem?_eq_some_iff.mp hri).1
   obtain ⟨b1, b2⟩ := zE hri hfb
   have hrl := rl2 r (List.mem_of_getElem? hri)
   have s4 := au (o := HO.tup [V.int (i : Nat), V.str r]) hp3
   have e4 : upd H3 p3 (HO.tup [V.int (i : Nat), V.str r]) p3 = _ := aB
   have er4 := s4 _ _ e3
   have t4 := t3.same s4
   have sx4 := s3.trans s4.x
   generalize upd H3 p3 (HO.tup [V.int (i : Nat), V.str r]) = H4 at s4 e4 er4 t4 sx4 ⊢
   obtain ⟨w0, ts, hws⟩ := j9 r
   have hwl := oU r
   have htl : ∀ t ∈ w0 :: ts, t.length ≤ sizeLine := fun t ht => by
    rw [← hws, qd] at ht
    have := kI r 32 t ht
    rw [sizeLine_eq]
    omega
   have hrow : eO r = fD (w0 :: ts) := by unfold eO; rw [hws]
   have e14 := sx4 _ _ nr e12
   push_cast [e4, rdT]
   refine ⟨by decide, by rw [sizeLine_eq]; omega, aQ (by omega), fun p5 hp5 => ?_⟩
   rw [hws]
   have s5 := au (o := HO.lst ((w0 :: ts).map V.str)) hp5
   have e5 : upd H4 p5 (HO.lst ((w0 :: ts).map V.str)) p5 = _ := aB
   have e15 := s5 _ _ e14
   have er5 := s5 _ _ er4
   have sx5 := sx4.trans s5.x
   have t5 := t4.same s5
   generalize upd H4 p5 (HO.lst ((w0 :: ts).map V.str)) = H5 at s5 e5 e15 er5 sx5 t5 ⊢
   push_cast [e15]
   rw [List.length_map]
   rw [hws, List.length_cons] at hwl
   refine ⟨p5, (i : Int), _, w0, ts, (· ≠ r0), rfl, e5, by omega, htl, yM er5, fun hb H6 s6 => ?_, fun hg v H6 s6 tv => ?_⟩
   ·show (if V.non = V.non then _ else _)
    rw [if_pos rfl]
    refine ⟨aQ (by decide), fun p7 hp7 => ?_⟩
    refine q _ _ (nu ((s2.x.trans (sx5.trans s6.x)).trans (au hp7).x) hr00) ?_
    have hbo : jV x = some i := by
     unfold jV
     rw [← hrs]
     exact b2 (by rw [hrow]; exact hb)
    unfold j6
    rw [hbo]
    exact .tup trivial aB (by show 2 ≤ 1000000; decide) (.cons (.str _) (.cons (.int _) .nil))
   ·obtain ⟨pv, ys, rfl, ev⟩ := yD hg tv
    show (if V.ref pv = V.non then _ else _)
    rw [if_neg (by intro z; cases z)]
    have e16 := s6 _ _ e15
    have er6 := s6 _ _ er5
    have app : isq (H6 r0) ∧ apq (H6 r0) r0 (V.ref pv) H6 fun x_6 H1 => Pv (i + 1) [some (V.str x), some (V.ref p1), some (V.ref r0), some (V.int (i : Int)), some (V.str r), some (V.ref pv)] H1 := by
     rw [er6, Dr, xT]
     have htl3 := t3.length
     rw [List.length_map, List.length_take] at htl3
     refine ⟨trivial, Nat.lt_of_lt_of_le (show vs.length < 1000000 by omega) (aQ (Nat.le_refl 1000000)), ?_⟩
     rw [hPv]
     have sx : bU r0 H5 (upd H6 r0 (HO.lst (vs ++ [V.ref pv]))) := s6.x.trans bU.upd
     refine ⟨vs ++ [V.ref pv], _, _, _, sx5.trans sx, aB, ?_, b1 (by rw [hrow]; exact hg), rfl⟩
     rw [take_snoc hri, List.map_append]
     refine (t5.vf sx).append (.cons ?_ .nil)
     rw [hrow]
     exact tv.vf bU.upd
    push_cast [e16, ev]
    rw [List.length_map]
    by_cases c : (i : Int) = (rs.length : Int) - 1
    ·rw [if_pos c]
     have hp := Al hg c
     subst hp
     rw [if_neg (by rw [decide_eq_true (show ("pick" : Str) = "pick" from rfl)]; decide)]
     exact app
    ·rw [if_neg c]
     exact app
  ·intro σ H3 pv
   rw [hPv] at pv
   obtain ⟨vs, o3, o4, o5, s3, e3, t3, hfb, rfl⟩ := pv
   show k _ _
   subst hk
   push_cast
   rw [List.length_map, List.take_length] at t3
   rw [List.length_map, List.drop_length] at hfb
   have htl := t3.length
   rw [List.length_map] at htl
   refine q _ H3 (nu (s2.x.trans s3) hr00) ?_
   have hb : jV x = none := by unfold jV; rw [← hrs]; exact hfb
   unfold j6
   rw [hb, ← hrs]
   exact .lst trivial e3 (by omega) (t3.keep fun a o _ e => ⟨trivial, e⟩)
end
abbrev jF : Stmt := inClass (top 8) 0
theorem Ng : bI ["self", "row"] ["self", "row"] (ak jF) := ⟨rfl, rfl, rfl, by decide +kernel, rfl, by decide +kernel, by decide +kernel⟩
theorem yX : Nm ["self", "row"] (ak jF) 0 "self" := .of (by decide +kernel)
theorem yW : Nm ["self", "row"] (ak jF) 1 "row" := .of (by decide +kernel)
theorem K3 : (ak jF).names.lookup ("CaseError" : Str) = some .globalImplicit := by decide +kernel
abbrev dM : Stmt := top 20
theorem oX : bI ["text", "words", "numbers"] ["text"] (ak dM) := ⟨rfl, rfl, rfl, by decide +kernel, rfl, by decide +kernel, by decide +kernel⟩
theorem Bc : Nm ["text", "words", "numbers"] (ak dM) 0 "text" := .of (by decide +kernel)
theorem jH : Nm ["text", "words", "numbers"] (ak dM) 1 "words" := .of (by decide +kernel)
theorem gO : Nm ["text", "words", "numbers"] (ak dM) 2 "numbers" := .of (by decide +kernel)
theorem lF : (ak dM).names.lookup ("numbers_from" : Str) = some .globalImplicit := by decide +kernel
theorem lE : (ak dM).names.lookup ("tuple" : Str) = some .globalImplicit := by decide +kernel
theorem GF : Bn "row_from" := ⟨by decide +kernel, by decide +kernel⟩
abbrev bN : Stmt := top 21
theorem gH : bI ["text", "written", "rows", "own", "part", "row"] ["text"] (ak bN) := ⟨rfl, rfl, rfl, by decide +kernel, rfl, by decide +kernel, by decide +kernel⟩
theorem yS : Nm ["text", "written", "rows", "own", "part", "row"] (ak bN) 0 "text" := .of (by decide +kernel)
theorem lu : Nm ["text", "written", "rows", "own", "part", "row"] (ak bN) 1 "written" := .of (by decide +kernel)
theorem lq : Nm ["text", "written", "rows", "own", "part", "row"] (ak bN) 2 "rows" := .of (by decide +kernel)
theorem lg : Nm ["text", "written", "rows", "own", "part", "row"] (ak bN) 3 "own" := .of (by decide +kernel)
theorem ql : Nm ["text", "written", "rows", "own", "part", "row"] (ak bN) 4 "part" := .of (by decide +kernel)
theorem kZ : Nm ["text", "written", "rows", "own", "part", "row"] (ak bN) 5 "row" := .of (by decide +kernel)
theorem oF : (ak bN).names.lookup ("BadText" : Str) = some .globalImplicit := by decide +kernel
theorem lV : (ak bN).names.lookup ("enumerate" : Str) = some .globalImplicit := by decide +kernel
theorem qJ : (ak bN).names.lookup ("is_row" : Str) = some .globalImplicit := by decide +kernel
theorem uI : (ak bN).names.lookup ("len" : Str) = some .globalImplicit := by decide +kernel
theorem oE : (ak bN).names.lookup ("row_from" : Str) = some .globalImplicit := by decide +kernel
theorem BX : Bn "rows_from" := ⟨by decide +kernel, by decide +kernel⟩
section
variable {P : Program} {w : World} {K : PySem.W.Frag} {mg : Str → Option Value} {base : Heap} {f : Addr} {fd : FuncData} {bs : List Str} {C D N : Addr}
theorem J3 (XC : lX K C D N f) (XD : XBase K D) (hD : mg "CaseError" = some (.ref D)) (hno : PySem.W.findIn K (.ref C) "row" = some none) (F : Fun K "__init__" "BadText.__init__" jF f fd) : dH P w K mg base CX0 1 f fd ["self", "row"] (qQ C "row") := by
 refine F.okq Ng (fun vs H Q E h => ?_) (fun cdv A outer s H vs Q E hr h => ?_)
 ·obtain ⟨a, j, rfl, _⟩ := h
  rfl
 ·obtain ⟨a, j, rfl, hb, ha, q⟩ := h
  refine ⟨_, (aD (iC (Jy XC XD K3 hD (aj (aA yX) (aj (Fj (JD (by decide) (T5 (aA yW).h (JD (by decide) T4)))) ao)))) (aF (Ol XC (aA yX) (aA yW)))), ?_⟩
  push_cast [tBI, Ip]
  exact ⟨hb, fun x => ⟨a, _, ⟨rfl, rfl⟩, (by show 1 ≤ 1000; decide), ⟨none, ha⟩, ha, hno, q⟩⟩
theorem Ba (hB : ∀ x : Str, x ∈ BLs → mg x = none) (CNumbersFrom : Cal P w K mg base "numbers_from" 2 ["words"] Cm) (F : Fun K "row_from" "row_from" dM f fd) : dH P w K mg base CX0 3 f fd ["text"] u5 := by
 refine F.okq oX (fun vs H Q E h => ?_) (fun cdv A outer s H vs Q E hr h => ?_)
 ·obtain ⟨x, ok, rfl, _⟩ := h
  rfl
 ·obtain ⟨x, ok, rfl, hn, hx, hl, q⟩ := h
  refine ⟨_, (aD (bW jH oX.nd (jm PySem.F.slot_str_split PySem.F.type_str_split gZ (aA Bc) (aj aH ao)))
   (aD (bW gO oX.nd (bC CNumbersFrom (hr.mono (by decide)) lF uO (aj (bB zY (aA jH) (bO aq) bY) ao)))
   (aD (bK (aU sH (aA gO) cQ (aO _)) (aF (aL cQ)) bh)
   (aD (bK (iK (kh (aU (bZ hr.bA) (aZ cF (aA jH) aq (fun _ _ => rfl)) aH (aO _)) (iV (Ar (aA gO))))) (aF (aL (cB (aj aH (aj (aZ cF (aA gO) aq (fun _ _ => rfl)) (aj (jQ fL lE (hB "tuple" fK) boot_tuple fM (aj (bB zY (aA gO) (bO aq) bY) ao)) ao)))))) bh)
   (aF (aL (aK CW (cB (aj (aZ cF (aA jH) aq (fun _ _ => rfl)) ao)) (jQ fL lE (hB "tuple" fK) boot_tuple fM (aj (aA gO) ao))))))))), ?_⟩
  obtain ⟨w0, ts, hsp⟩ := j9 x
  have htl : ∀ t ∈ w0 :: ts, t.length ≤ sizeLine := fun t ht => by
   rw [← hsp, qd] at ht
   exact Nat.le_trans (kI x 32 t ht) hx
  have hrow : eO x = fD (w0 :: ts) := by unfold eO; rw [hsp]
  rw [hsp] at hl
  refine aP fun k hk => ?_
  push_cast [rdT]
  refine ⟨by decide, hx, by rw [hsp]; exact aQ hl, fun p1 hp1 => ?_⟩
  rw [hsp]
  have s1 := au (o := HO.lst ((w0 :: ts).map V.str)) hp1
  have e1 : upd H p1 (HO.lst ((w0 :: ts).map V.str)) p1 = _ := aB
  generalize upd H p1 (HO.lst ((w0 :: ts).map V.str)) = H1 at s1 e1 ⊢
  subst hk
  refine aP fun k hk => ?_
  push_cast [e1]
  intro p2 hp2
  have hcut : jy (V.str w0 :: ts.map V.str) (some 1) none = ts.map V.str := (oM ((w0 :: ts).map V.str) 1 (by rw [List.length_map, List.length_cons]; omega)).trans rfl
  rw [hcut]
  have s2 := s1.trans (au (o := HO.lst (ts.map V.str)) hp2)
  have e12 := au (o := HO.lst (ts.map V.str)) hp2 _ _ e1
  have e2 : upd H1 p2 (HO.lst (ts.map V.str)) p2 = _ := aB
  generalize upd H1 p2 (HO.lst (ts.map V.str)) = H2 at s2 e12 e2 ⊢
  rw [List.length_cons] at hl
  refine ⟨p2, ts, rfl, e2, by omega, fun t ht => htl t (List.mem_cons_of_mem _ ht), fun H3 s3 hbad => ?_, fun p3 H3 hp3 s3 hok e3 => ?_⟩
  ·subst hk
   push_cast
   have hd : fD (w0 :: ts) = .none := by
    obtain ⟨t, ht, hf⟩ := hbad
    show (if ts.all aV = true then _ else PyData.none) = .none
    rw [if_neg fun z => by have := List.all_eq_true.mp z t ht; rw [hf] at this; cases this]
   exact q _ _ (s2.trans s3) (by rw [hrow, hd]; exact .non)
  ·subst hk
   refine aP fun k hk => ?_
   push_cast
   subst hk
   have hall : ts.all aV = true := List.all_eq_true.mpr hok
   have e13 := s3 _ _ e12
   have s03 := s2.trans s3
   have h0 : atI ((w0 :: ts).map V.str) 0 = some (V.str w0) := cM (j := 0) rfl
   refine aP fun k hk => ?_
   push_cast [e13, h0, e3]
   have last : fD (w0 :: ts) = .tuple (.str w0 :: (ts.map eU).map PyData.int) → k [some (V.str x), some (V.ref p1), some (V.ref p3)] H3 := by
    intro hd
    subst hk
    push_cast [e13, h0]
    refine ⟨aQ (by decide), fun p4 hp4 => ?_⟩
    have s4 := s03.trans (au (o := HO.tup [V.str w0]) hp4)
    have o4 := hn _ _ s03 hp4
    have e4 : upd H3 p4 (HO.tup [V.str w0]) p4 = _ := aB
    have e34 := au (o := HO.tup [V.str w0]) hp4 _ _ e3
    generalize upd H3 p4 (HO.tup [V.str w0]) = H4 at s4 e4 e34 ⊢
    refine ⟨_, .inl ⟨SqL.of e34, fun p5 hp5 => ?_⟩⟩
    have s5 := s4.trans (au (o := HO.tup ((ts.map eU).map V.int)) hp5)
    have e45 := au (o := HO.tup ((ts.map eU).map V.int)) hp5 _ _ e4
    have e5 : upd H4 p5 (HO.tup ((ts.map eU).map V.int)) p5 = _ := aB
    generalize upd H4 p5 (HO.tup ((ts.map eU).map V.int)) = H5 at s5 e45 e5 ⊢
    rw [nH, e45, e5, tZ]
    have hlen : ((ts.map eU).map V.int).length ≤ 999999 := by rw [List.length_map, List.length_map]; omega
    refine ⟨List.cons_ne_nil _ _, aQ (by show 1 + _ ≤ 1000000; omega), fun hnil => ?_, fun _ p6 hp6 => ?_⟩
    ·refine q _ _ s5 ?_
     rw [hrow, hd]
     have : ts = [] := by
      have := congrArg List.length hnil
      rw [List.length_map, List.length_map] at this
      exact List.eq_nil_of_length_eq_zero this
     subst this
     exact .tup o4 e45 (by show 1 ≤ 1000000; decide) (.cons (.str _) .nil)
    ·refine q _ _ (s5.trans (au hp6)) ?_
     rw [hrow, hd]
     exact .tup (hn _ _ s5 hp6) aB (by rw [List.length_append]; show 1 + _ ≤ 1000000; omega) (.cons (.str _) (fX _))
   by_cases c1 : w0 = "table"
   ·rw [if_pos c1]
    subst c1
    cases ts with
    | nil =>
     rw [if_neg (by simp)]
     exact last (fY hall fun z => z.2 rfl)
    | cons t r =>
     rw [if_pos (by simp)]
     have hF := gJ hall
     refine ⟨V.int (eU t), cM (j := 0) rfl, fun p4 hp4 => ?_⟩
     have hcut2 : jy (((t :: r).map eU).map V.int) (some 1) none = (r.map eU).map V.int := (oM (((t :: r).map eU).map V.int) 1 (by rw [List.length_map, List.length_map, List.length_cons]; omega)).trans rfl
     rw [hcut2]
     have s4 := s03.trans (au (o := HO.lst ((r.map eU).map V.int)) hp4)
     have e4 : upd H3 p4 (HO.lst ((r.map eU).map V.int)) p4 = _ := aB
     generalize upd H3 p4 (HO.lst ((r.map eU).map V.int)) = H4 at s4 e4 ⊢
     refine ⟨_, .inl ⟨SqL.of e4, fun p5 hp5 => ⟨aQ (by decide), fun p6 hp6 => ?_⟩⟩⟩
     have s5 := s4.trans (au (o := HO.tup ((r.map eU).map V.int)) hp5)
     refine q _ _ (s5.trans (au hp6)) ?_
     rw [hrow, hF]
     rw [List.length_cons] at hl
     exact .tup (hn _ _ s5 hp6) aB (by show 3 ≤ 1000000; decide) (.cons (.str _) (.cons (.int _) (.cons (.tup (hn _ _ s4 hp5) (au hp6 _ _ aB) (by rw [List.length_map, List.length_map]; omega) (fX _)) .nil)))
   ·rw [if_neg c1]
    exact last (fY hall fun z => c1 z.1)
theorem yJ (hB : ∀ x : Str, x ∈ BLs → mg x = none) (XBadText : Vq P w K mg base "BadText" C D 1 ["self", "row"] (qQ C "row")) (CRowFrom : Cal P w K mg base "row_from" 3 ["text"] u5) (CIsRow : Cal P w K mg base "is_row" 4 ["thing", "own", "many"] Ib) (F : Fun K "rows_from" "rows_from" bN f fd) : dH P w K mg base (CX1 P w) 5 f fd ["text"] (qe C) := by
 refine F.WX gH (fun vs H Q E h => ?_) (fun cdv A outer s H vs Q E hr h => ?_)
 ·obtain ⟨x, rfl, _⟩ := h
  rfl
 ·obtain ⟨x, rfl, hx, q, qx⟩ := h
  refine ⟨_, (aD (bW lu gH.nd (jm PySem.F.slot_str_split PySem.F.type_str_split gZ (aA yS) (aj aH ao)))
   (aD (bW lq gH.nd (fV ao))
   (aD (kj own1 rfl (yH lV (hB "enumerate" nZ) (aj (aA lu) ao)) (pB (n := 2) rfl (dY (iB lg gH.nd) (dY (iB ql gH.nd) lN)))
   (aD (bW kZ gH.nd (bC CRowFrom (hr.mono (by decide)) oE GF (aj (aA ql) ao)))
   (aD (bK (dW (cV (bC CIsRow (hr.mono (by decide)) qJ Ro (aj (aA kZ) (aj (aA lg) (aj (bw cg uI (hB "len" dB) PySem.boot_len dG (aj (aA lu) ao)) ao)))))) (aF (Ju XBadText (hr.mono (by decide)) oF rfl WW (aj (aA lg) ao))) bh)
   (aF (iC (iY (aA lq) (aA kZ)))))))
   (aF (aL (aA lq)))))), ?_⟩
  obtain ⟨rl1, rl2⟩ := rT x
  obtain ⟨rs, hrs⟩ : ∃ rs, rs = rowsOf x := ⟨_, rfl⟩
  have hsp : Txt.split x "\n" = rs := by rw [hrs]; rfl
  rw [← hrs] at rl1 rl2
  refine aP fun k hk => ?_
  push_cast [rdT]
  rw [hsp]
  refine ⟨by decide, by rw [sizeLine_eq]; omega, aQ (by omega), fun p1 hp1 => ?_⟩
  have s1 := au (o := HO.lst (rs.map V.str)) hp1
  have e1 : upd H p1 (HO.lst (rs.map V.str)) p1 = _ := aB
  generalize upd H p1 (HO.lst (rs.map V.str)) = H1 at s1 e1 ⊢
  subst hk
  refine aP fun k hk => ?_
  push_cast
  refine ⟨Nat.zero_le _, fun r0 hr0 => ?_⟩
  have hr00 : H r0 = none := s1.none hr0
  have nr : p1 ≠ r0 := aJ e1 hr0
  have s2 := s1.trans (au (o := HO.lst []) hr0)
  have e12 := au (o := HO.lst []) hr0 _ _ e1
  have e2 : upd H1 r0 (HO.lst []) r0 = some (.lst []) := aB
  generalize upd H1 r0 (HO.lst []) = H2 at s2 e12 e2 ⊢
  subst hk
  refine aP fun k hk => ?_
  refine qp fun R hR => ?_
  push_cast [vI, Dt, e12, Ds]
  obtain ⟨Pv, hPv⟩ : ∃ Pv : Nat → L2.St → Hp → Prop, Pv = fun (i : Nat) σ H' => ∃ (vs : List V) (o3 o4 o5 : Option V), bU r0 H2 H' ∧ H' r0 = some (.lst vs) ∧ aR (· ≠ r0) H' vs ((rs.take i).map eO) ∧ firstBad (rs.length : Int) 0 rs = firstBad (rs.length : Int) i (rs.drop i) ∧ σ = [some (.str x), some (.ref p1), some (.ref r0), o3, o4, o5] := ⟨_, rfl⟩
  refine RG hR (xs := rs.map V.str) Pv (by rw [hPv]; exact ⟨[], _, _, _, bU.refl _ _, e2, .nil, rfl, rfl⟩) ?_ ?_ ?_
  ·intro i σ H3 pv
   rw [hPv] at pv
   obtain ⟨_, _, _, _, s3, _⟩ := pv
   exact s3 _ _ nr e12
  ·intro i v0 σ H3 p3 hx3 pv hp3
   rw [hPv] at pv
   obtain ⟨vs, o3, o4, o5, s3, e3, t3, hfb, rfl⟩ := pv
   rw [List.getElem?_map] at hx3
   obtain ⟨r, hri, rfl⟩ := Option.map_eq_some_iff.mp hx3
   have hi : i < rs.length := (List.getElem?_eq_some_iff.mp hri).1
   obtain ⟨b1, b2⟩ := zE hri hfb
   have hrl := rl2 r (List.mem_of_getElem? hri)
   have hwl := oU r
   have s4 := au (o := HO.tup [V.int (i : Nat), V.str r]) hp3
   have e4 : upd H3 p3 (HO.tup [V.int (i : Nat), V.str r]) p3 = _ := aB
   have er4 := s4 _ _ e3
   have t4 := t3.same s4
   have sx4 := s3.trans s4.x
   generalize upd H3 p3 (HO.tup [V.int (i : Nat), V.str r]) = H4 at s4 e4 er4 t4 sx4 ⊢
   push_cast [e4]
   refine ⟨r, (· ≠ r0), rfl, yM er4, by rw [sizeLine_eq]; omega, by omega, fun v H5 s5 tv => ?_⟩
   have e15 := s5 _ _ (sx4 _ _ nr e12)
   push_cast [e15]
   rw [List.length_map]
   refine ⟨v, _, eO r, (i : Int), _, rfl, tv, fun H6 s6 => ?_⟩
   have er6 := s6 _ _ (s5 _ _ er4)
   have htl := t3.length
   rw [List.length_map, List.length_take] at htl
   have sx6 : bU r0 H2 H6 := sx4.trans (s5.trans s6).x
   cases hg : bT (i : Int) (rs.length : Int) (eO r) with
   | false =>
    push_cast [zQ]
    exact Am (E := E) (C := C) (fld := "row") (j := (i : Int)) (by omega) (nu (s2.x.trans sx6) hr00) (qx i (by unfold jV; rw [← hrs]; exact b2 hg))
   | true =>
    push_cast [er6]
    refine ⟨Nat.lt_of_lt_of_le (show vs.length < 1000000 by omega) (aQ (Nat.le_refl 1000000)), ?_⟩
    rw [hPv]
    have sx : bU r0 H4 (upd H6 r0 (HO.lst (vs ++ [v]))) := (s5.trans s6).x.trans bU.upd
    refine ⟨vs ++ [v], _, _, _, sx4.trans sx, aB, ?_, b1 hg, rfl⟩
    rw [take_snoc hri, List.map_append]
    exact (t4.vf sx).append (.cons (tv.vf (s6.x.trans bU.upd)) .nil)
  ·intro σ H3 pv
   rw [hPv] at pv
   obtain ⟨vs, o3, o4, o5, s3, e3, t3, hfb, rfl⟩ := pv
   show k _ _
   subst hk
   push_cast
   rw [List.length_map, List.take_length] at t3
   rw [List.length_map, List.drop_length] at hfb
   have htl := t3.length
   rw [List.length_map] at htl
   refine q (by unfold jV; rw [← hrs]; exact hfb) r0 H3 (nu (s2.x.trans s3) hr00) ?_
   rw [← hrs]
   exact .lst trivial e3 (by omega) (t3.keep fun a o _ e => ⟨trivial, e⟩)
end
theorem Rn : Bn "Twice" := ⟨by decide +kernel, by decide +kernel⟩
theorem LR : Bn "Beyond" := ⟨by decide +kernel, by decide +kernel⟩
theorem zy : Bn "TooNarrow" := ⟨by decide +kernel, by decide +kernel⟩
theorem zA : Bn "NoStretch" := ⟨by decide +kernel, by decide +kernel⟩
theorem GP : Bn "BadText" := ⟨by decide +kernel, by decide +kernel⟩
abbrev d9 : Stmt := top 27
theorem wC : bI ["_law_caught", "_law_some"] ["_law_caught"] (ak d9) := ⟨rfl, rfl, rfl, by decide +kernel, rfl, by decide +kernel, by decide +kernel⟩
theorem dZ : Nm ["_law_caught", "_law_some"] (ak d9) 0 "_law_caught" := .of (by decide +kernel)
theorem gq : Nm ["_law_caught", "_law_some"] (ak d9) 1 "_law_some" := .of (by decide +kernel)
theorem tK : (ak d9).names.lookup ("BadText" : Str) = some .globalImplicit := by decide +kernel
theorem uF : (ak d9).names.lookup ("Beyond" : Str) = some .globalImplicit := by decide +kernel
theorem pP : (ak d9).names.lookup ("NoStretch" : Str) = some .globalImplicit := by decide +kernel
theorem pO : (ak d9).names.lookup ("TooNarrow" : Str) = some .globalImplicit := by decide +kernel
theorem wZ : (ak d9).names.lookup ("Twice" : Str) = some .globalImplicit := by decide +kernel
theorem ou : (ak d9).names.lookup ("ValueError" : Str) = some .globalImplicit := by decide +kernel
theorem Br : (ak d9).names.lookup ("int" : Str) = some .globalImplicit := by decide +kernel
theorem cJ : (ak d9).names.lookup ("isinstance" : Str) = some .globalImplicit := by decide +kernel
theorem Rj : Bn "_law_word" := ⟨by decide +kernel, by decide +kernel⟩
abbrev fQ : Stmt := top 32
theorem lK : bI ["_law_text", "_law_found", "_law_caught", "error"] ["_law_text"] (ak fQ) := ⟨rfl, rfl, rfl, by decide +kernel, rfl, by decide +kernel, by decide +kernel⟩
theorem J6 : Nm ["_law_text", "_law_found", "_law_caught", "error"] (ak fQ) 0 "_law_text" := .of (by decide +kernel)
theorem sO : Nm ["_law_text", "_law_found", "_law_caught", "error"] (ak fQ) 1 "_law_found" := .of (by decide +kernel)
theorem nT : Nm ["_law_text", "_law_found", "_law_caught", "error"] (ak fQ) 2 "_law_caught" := .of (by decide +kernel)
theorem J5 : Nm ["_law_text", "_law_found", "_law_caught", "error"] (ak fQ) 3 "error" := .of (by decide +kernel)
theorem pU : (ak fQ).names.lookup ("CaseError" : Str) = some .globalImplicit := by decide +kernel
theorem w6 : (ak fQ).names.lookup ("_law_word" : Str) = some .globalImplicit := by decide +kernel
theorem qH : (ak fQ).names.lookup ("rows_from" : Str) = some .globalImplicit := by decide +kernel
theorem xP : Bn "_law_told" := ⟨by decide +kernel, by decide +kernel⟩
section
variable {P : Program} {w : World} {K : PySem.W.Frag} {mg : Str → Option Value} {base : Heap} {f : Addr} {fd : FuncData} {bs : List Str} {aTwice aBeyond aTooNarrow aNoStretch aBadText D N fI ND : Addr}
theorem PX (hB : ∀ x : Str, x ∈ BLs → mg x = none) (XC : lX K aBadText D N fI) (Z : XIs K aBadText) (cgTwice : mg "Twice" = some (.ref aTwice)) (cgBeyond : mg "Beyond" = some (.ref aBeyond)) (cgTooNarrow : mg "TooNarrow" = some (.ref aTooNarrow)) (cgNoStretch : mg "NoStretch" = some (.ref aNoStretch)) (cgBadText : mg "BadText" = some (.ref aBadText))
  (i1 : PySem.W.kitOne K (.ref aBadText) (.ref aTwice) = some false) (i2 : PySem.W.kitOne K (.ref aBadText) (.ref aBeyond) = some false) (i3 : PySem.W.kitOne K (.ref aBadText) (.ref aTooNarrow) = some false) (i4 : PySem.W.kitOne K (.ref aBadText) (.ref aNoStretch) = some false) (i5 : PySem.W.kitOne K (.ref aBadText) (.ref aBadText) = some true) (i6 : PySem.W.kitOne K (.ref aBadText) (.type "ValueError") = some true)
  (hno : PySem.W.findIn K (.ref aBadText) "row" = some none)
  (F : Fun K "_law_word" "_law_word" d9 f fd) : dH P w K mg base CX0 1 f fd ["_law_caught"] (Ck aBadText "text" "row") := by
 refine F.okq wC (fun vs H Q E h => ?_) (fun cdv A outer s H vs Q E hr h => ?_)
 ·rcases h with ⟨rfl, _⟩ | ⟨x, dx, j, rfl, _⟩ <;> rfl
 ·refine ⟨_, (aD (bK (aU sH (aA dZ) cQ (aO _)) (aF (aL cQ)) bh)
   (aD (bW gq wC.nd (fV (aj (bw jA cJ (hB "isinstance" aM) boot_isinstance aN (aj (aA dZ) (aj (iW (v := V.ref aTwice) wZ cgTwice rfl Rn) ao))) (aj (bw jA cJ (hB "isinstance" aM) boot_isinstance aN (aj (aA dZ) (aj (iW (v := V.ref aBeyond) uF cgBeyond rfl LR) ao))) (aj (bw jA cJ (hB "isinstance" aM) boot_isinstance aN (aj (aA dZ) (aj (iW (v := V.ref aTooNarrow) pO cgTooNarrow rfl zy) ao))) ao)))))
   (aD (bW gq wC.nd (aK cI (aA gq) (fV (aj (bw jA cJ (hB "isinstance" aM) boot_isinstance aN (aj (aA dZ) (aj (iW (v := V.ref aNoStretch) pP cgNoStretch rfl zA) ao))) (aj (bw jA cJ (hB "isinstance" aM) boot_isinstance aN (aj (aA dZ) (aj (iW (v := V.ref aBadText) tK cgBadText rfl GP) ao))) ao)))))
   (aD (bK (iK (iz (aU (jG hr.bA) (Ot K hr.un1 (aA gq) jR) aq (aO _)) (fU (dW (cV (bw jA cJ (hB "isinstance" aM) boot_isinstance aN (aj (aA dZ) (aj (gD "ValueError" ou (hB "ValueError" uE) qN uN) ao)))))))) (aF (aL (cB (aj aH ao)))) bh)
   (aD (bK (cV (aZ cF (aA gq) aq (fun _ _ => rfl))) (aF (aL (cB (aj aH (aj (nO XC (aA dZ)) (aj (nO XC (aA dZ)) (aj (nO XC (aA dZ)) ao))))))) bh)
   (aD (bK (iK (iz (cV (aZ cF (aA gq) aq (fun _ _ => rfl))) (fU (cV (aZ cF (aA gq) aq (fun _ _ => rfl)))))) (aF (aL (cB (aj (aZ cF (fV (aj aH (aj aH ao))) (jQ ug Br (hB "int" pK) boot_int qb (aj (aZ cF (aA gq) aq (fun _ _ => rfl)) ao)) (fun _ _ => rfl)) (aj (nO XC (aA dZ)) ao))))) bh)
   (aF (aL (nM (cV (aZ cF (aA gq) aq (fun _ _ => rfl))) (cB (aj aH (aj (nO XC (aA dZ)) ao))) (cB (aj aH ao))))))))))), ?_⟩
  rcases h with ⟨rfl, q⟩ | ⟨x, dx, j, rfl, hx, hd, q⟩
  ·push_cast
   exact q
  ·refine aP fun k hk => ?_
   push_cast
   subst hk
   refine aP fun k hk => ?_
   push_cast
   refine pN Z hx hd (n8 i1) (pN Z hx hd (n8 i2) (pN Z hx hd (n8 i3) ?_))
   try (push_cast)
   refine ⟨aQ (by decide), fun l1 hl1 => ?_⟩
   have s1 := au (o := HO.lst [V.bl false, V.bl false, V.bl false]) hl1
   have e1 : upd H l1 (HO.lst [V.bl false, V.bl false, V.bl false]) l1 = _ := aB
   generalize upd H l1 (HO.lst [V.bl false, V.bl false, V.bl false]) = H1 at s1 e1 ⊢
   have hx1 := s1 _ _ hx
   have hd1 := s1 _ _ hd
   subst hk
   refine aP fun k hk => ?_
   push_cast [e1]
   refine pN Z hx1 hd1 (n8 i4) (pN Z hx1 hd1 (n8 i5) ?_)
   try (push_cast [e1])
   refine ⟨aQ (by decide), fun l2 hl2 => ?_⟩
   have s2 := au (o := HO.lst [V.bl false, V.bl true]) hl2
   have e12 := s2 _ _ e1
   generalize upd H1 l2 (HO.lst [V.bl false, V.bl true]) = H2 at s2 e12 ⊢
   push_cast [e12]
   refine ⟨aQ (by decide), fun l3 hl3 => ?_⟩
   have s3 := au (o := HO.lst [V.bl false, V.bl false, V.bl false, V.bl false, V.bl true]) hl3
   have e3 : upd H2 l3 (HO.lst [V.bl false, V.bl false, V.bl false, V.bl false, V.bl true]) l3 = _ := aB
   generalize upd H2 l3 (HO.lst [V.bl false, V.bl false, V.bl false, V.bl false, V.bl true]) = H3 at s3 e3 ⊢
   have hx3 := s3 _ _ (s2 _ _ hx1)
   have hd3 := s3 _ _ (s2 _ _ hd1)
   subst hk
   refine aP fun k hk => ?_
   push_cast [e3]
   refine ⟨_, rfl, l3, rfl, ⟨_, .inl (.inl e3)⟩, _, 1, .inl (.inl e3), ⟨[false, false, false, false, true], true, rfl, rfl, by decide⟩, ?_⟩
   push_cast
   rw [if_neg (by decide)]
   refine pN Z hx3 hd3 (UJ i6) ?_
   refine ⟨true, rfl, ?_⟩
   rw [if_neg (by decide)]
   subst hk
   refine aP fun k hk => ?_
   push_cast [e3]
   subst hk
   refine aP fun k hk => ?_
   push_cast [e3, Hv]
   refine ⟨V.bl true, rfl, true, rfl, ?_⟩
   rw [if_pos rfl]
   refine ⟨aQ (by decide), fun l4 hl4 => ?_⟩
   have s4 := au (o := HO.lst [V.str "beyond", V.str "text"]) hl4
   have e4 : upd H3 l4 (HO.lst [V.str "beyond", V.str "text"]) l4 = _ := aB
   have e34 := s4 _ _ e3
   generalize upd H3 l4 (HO.lst [V.str "beyond", V.str "text"]) = H4 at s4 e4 e34 ⊢
   push_cast [e34, e4]
   refine ⟨V.bl true, rfl, ?_⟩
   push_cast [e4]
   have sa := ((s1.trans s2).trans s3).trans s4
   refine ⟨dx, s4 _ _ hx3, _, s4 _ _ hd3, V.int j, rfl, hno, aQ (by decide), fun t ht => ?_⟩
   exact q t _ (sa.trans (au ht)) (sa.none ht) aB
theorem P0 (hB : ∀ x : Str, x ∈ BLs → mg x = none) (XC : lX K aBadText D N fI) (XD : Rq K D ND) (cgCaseError : mg "CaseError" = some (.ref D)) (CRowsFrom : Ru P w K mg base "rows_from" 5 ["text"] (qe aBadText)) (CZWord : Cal P w K mg base "_law_word" 1 ["_law_caught"] (Ck aBadText "text" "row"))
  (F : Fun K "_law_told" "_law_told" fQ f fd) : dH P w K mg base CX0 6 f fd ["_law_text"] wk := by
 refine F.okq lK (fun vs H Q E h => ?_) (fun cdv A outer s H vs Q E hr h => ?_)
 ·obtain ⟨x, rfl, _⟩ := h
  rfl
 ·obtain ⟨x, rfl, hx, q⟩ := h
  refine ⟨_, (aD (pA (cB (aj cQ (aj cQ ao))) (pB (n := 2) rfl (dY (iB sO lK.nd) (dY (iB nT lK.nd) lN))))
   (aD (Tj (i := 3) ⟨rfl, rfl⟩ lK.nd rfl rfl pU cgCaseError XD XC (fun E1 xe pins hpass => (aF (bW sO lK.nd (Tp CRowsFrom (hr.mono (by decide)) qH BX hpass (aj (aA J6) ao))))) (fun x => (aF (bW nT lK.nd (aA J5)))))
   (aF (aL (nM (aU sH (aA nT) cQ (aO _)) (aA sO) (bC CZWord (hr.mono (by decide)) w6 Rj (aj (aA nT) ao))))))), ?_⟩
  refine aP fun k hk => ?_
  push_cast
  refine ⟨aQ (by decide), fun p0 hp0 => ?_⟩
  have s0 := au (o := HO.tup [V.non, V.non]) hp0
  generalize upd H p0 (HO.tup [V.non, V.non]) = H0 at s0 ⊢
  subst hk
  refine aP fun k hk => ?_
  push_cast [R8]
  refine ⟨x, rfl, hx, fun hg p1 H1 s1 t1 => ?_, fun j hb dx H1 s1 hdx => ⟨rfl, fun y σ' hlen hyn => ?_⟩⟩
  ·subst hk
   push_cast
   refine q _ _ (s0.trans s1) ?_
   unfold j6
   rw [hg]
   exact t1
  ·have sx := au (o := XR y aBadText (some dx)) hyn
   have ex : upd H1 y (XR y aBadText (some dx)) y = _ := aB
   generalize upd H1 y (XR y aBadText (some dx)) = H2 at sx ex ⊢
   obtain ⟨a0, a1, a2, a3, rfl⟩ : ∃ a0 a1 a2 a3, σ' = [a0, a1, a2, a3] := by
    match σ', hlen with
    | [a0, a1, a2, a3], _ => exact ⟨a0, a1, a2, a3, rfl⟩
   subst hk
   push_cast [xH]
   refine .inr ⟨y, dx, (j : Int), rfl, ex, sx _ _ hdx, fun t H' s' hn' et => q _ _ (((s0.trans s1).trans sx).trans s') ?_⟩
   unfold j6
   rw [hb]
   exact .tup trivial et (by show 2 ≤ 1000000; decide) (.cons (.str _) (.cons (.int _) .nil))
end
abbrev aW : Stmt := top 30
theorem cZ : bI ["_law_tape_here", "_law_text", "_law_signs", "_law_way", "_law_at", "_law_sign", "_law_both", "_law_cut", "_law_parts", "_law_k", "_law_more"] ["_law_tape_here", "_law_text"] (ak aW) := ⟨rfl, rfl, rfl, by decide +kernel, rfl, by decide +kernel, by decide +kernel⟩
theorem fH : Nm ["_law_tape_here", "_law_text", "_law_signs", "_law_way", "_law_at", "_law_sign", "_law_both", "_law_cut", "_law_parts", "_law_k", "_law_more"] (ak aW) 0 "_law_tape_here" := .of (by decide +kernel)
theorem bM : Nm ["_law_tape_here", "_law_text", "_law_signs", "_law_way", "_law_at", "_law_sign", "_law_both", "_law_cut", "_law_parts", "_law_k", "_law_more"] (ak aW) 1 "_law_text" := .of (by decide +kernel)
theorem jh : Nm ["_law_tape_here", "_law_text", "_law_signs", "_law_way", "_law_at", "_law_sign", "_law_both", "_law_cut", "_law_parts", "_law_k", "_law_more"] (ak aW) 2 "_law_signs" := .of (by decide +kernel)
theorem fG : Nm ["_law_tape_here", "_law_text", "_law_signs", "_law_way", "_law_at", "_law_sign", "_law_both", "_law_cut", "_law_parts", "_law_k", "_law_more"] (ak aW) 3 "_law_way" := .of (by decide +kernel)
theorem bL : Nm ["_law_tape_here", "_law_text", "_law_signs", "_law_way", "_law_at", "_law_sign", "_law_both", "_law_cut", "_law_parts", "_law_k", "_law_more"] (ak aW) 4 "_law_at" := .of (by decide +kernel)
theorem jg : Nm ["_law_tape_here", "_law_text", "_law_signs", "_law_way", "_law_at", "_law_sign", "_law_both", "_law_cut", "_law_parts", "_law_k", "_law_more"] (ak aW) 5 "_law_sign" := .of (by decide +kernel)
theorem mz : Nm ["_law_tape_here", "_law_text", "_law_signs", "_law_way", "_law_at", "_law_sign", "_law_both", "_law_cut", "_law_parts", "_law_k", "_law_more"] (ak aW) 6 "_law_both" := .of (by decide +kernel)
theorem jf : Nm ["_law_tape_here", "_law_text", "_law_signs", "_law_way", "_law_at", "_law_sign", "_law_both", "_law_cut", "_law_parts", "_law_k", "_law_more"] (ak aW) 7 "_law_cut" := .of (by decide +kernel)
theorem cP : Nm ["_law_tape_here", "_law_text", "_law_signs", "_law_way", "_law_at", "_law_sign", "_law_both", "_law_cut", "_law_parts", "_law_k", "_law_more"] (ak aW) 8 "_law_parts" := .of (by decide +kernel)
theorem d8 : Nm ["_law_tape_here", "_law_text", "_law_signs", "_law_way", "_law_at", "_law_sign", "_law_both", "_law_cut", "_law_parts", "_law_k", "_law_more"] (ak aW) 9 "_law_k" := .of (by decide +kernel)
theorem sW : Nm ["_law_tape_here", "_law_text", "_law_signs", "_law_way", "_law_at", "_law_sign", "_law_both", "_law_cut", "_law_parts", "_law_k", "_law_more"] (ak aW) 10 "_law_more" := .of (by decide +kernel)
theorem dm : (ak aW).names.lookup ("_law_take" : Str) = some .globalImplicit := by decide +kernel
theorem iw : (ak aW).names.lookup ("len" : Str) = some .globalImplicit := by decide +kernel
theorem oO : Bn "_law_other_text" := ⟨by decide +kernel, by decide +kernel⟩
section
variable {P : Program} {w : World} {K : PySem.W.Frag} {mg : Str → Option Value} {base : Heap} {f : Addr} {fd : FuncData} {bs : List Str}
theorem JX (hB : ∀ x : Str, x ∈ BLs → mg x = none) (CZTake : Cal P w K mg base "_law_take" 2 ["_law_tape_here", "_law_many"] (mK 2)) (F : Fun K "_law_other_text" "_law_other_text" aW f fd) : dH P w K mg base CX0 3 f fd ["_law_tape_here", "_law_text"] yg := by
 refine F.okq cZ (fun vs H Q E h => ?_) (fun cdv A outer s H vs Q E hr h => ?_)
 ·obtain ⟨p, x, B, rfl, _⟩ := h
  rfl
 ·obtain ⟨p, x, B, rfl, tp, hB0, hB1, hx, q⟩ := h
  refine ⟨_, (aD (bW jh cZ.nd aH)
   (aD (wN (i := 3) (j := 4) rfl cZ.nd rfl rfl (by decide) rfl rfl (aj (bC CZTake (hr.mono (by decide)) dm cL (aj (aA fH) (aj aq ao))) (aj (bC CZTake (hr.mono (by decide)) dm cL (aj (aA fH) (aj (aK bG (bw jz iw (hB "len" dB) PySem.boot_len dG (aj (aA bM) ao)) aq) ao))) ao)) (by rfl))
   (aD (bW jg cZ.nd (aZ Ks (aA jh) (bC CZTake (hr.mono (by decide)) dm cL (aj (aA fH) (aj (bw jz iw (hB "len" dB) PySem.boot_len dG (aj (aA jh) ao)) ao))) (fun _ _ => rfl)))
   (aD (bK (aU gW (aA fG) aq (aO _)) (aF (aL (aK bG (bB jX (aA bM) bY (bO (aA bL))) (bB jX (aA bM) (bO (aK bG (aA bL) aq)) bY)))) bh)
   (aD (bK (aU gW (aA fG) aq (aO _)) (aF (aL (aK bG (aK bG (bB jX (aA bM) bY (bO (aA bL))) (aA jg)) (bB jX (aA bM) (bO (aA bL)) bY)))) bh)
   (aD (bK (aU gW (aA fG) aq (aO _)) (aF (aL (aK bG (aK bG (bB jX (aA bM) bY (bO (aA bL))) (aA jg)) (bB jX (aA bM) (bO (aK bG (aA bL) aq)) bY)))) bh)
   (aD (bK (aU (bZ hr.bA) (aA fG) aq (aO _)) (aD (bW mz cZ.nd (aK bG (bB jX (aA bM) (bO (aK bG (aA bL) aq)) (bO (aK bG (aA bL) aq))) (bB jX (aA bM) (bO (aA bL)) (bO (aK bG (aA bL) aq)))))
   (aF (aL (aK bG (aK bG (bB jX (aA bM) bY (bO (aA bL))) (aA mz)) (bB jX (aA bM) (bO (aK bG (aA bL) aq)) bY))))) bh)
   (aD (bW jf cZ.nd (aZ Ks (fV (aj aH (aj aH ao))) (aK iM (aA fG) aq) (fun _ _ => rfl)))
   (aD (bW cP cZ.nd (jm PySem.F.slot_str_split PySem.F.type_str_split gZ (aA bM) (aj (aA jf) ao)))
   (aD (wN (i := 9) (j := 10) rfl cZ.nd rfl rfl (by decide) rfl rfl (aj (bC CZTake (hr.mono (by decide)) dm cL (aj (aA fH) (aj (bw jz iw (hB "len" dB) PySem.boot_len dG (aj (aA cP) ao)) ao))) (aj (bC CZTake (hr.mono (by decide)) dm cL (aj (aA fH) (aj aq ao))) ao)) (by rfl))
   (aF (aL (jm PySem.F.slot_str_join PySem.F.type_str_join qW (aA jf) (aj (aZ Ks (fV (aj (aK bG (bB jX (aA cP) bY (bO (aA d8))) (bB jX (aA cP) (bO (aK bG (aA d8) aq)) bY)) (aj (aK bG (bB jX (aA cP) bY (bO (aK bG (aA d8) aq))) (bB jX (aA cP) (bO (aA d8)) bY)) (aj (aK bG (aK bG (bB jX (aA cP) bY (bO (aA d8))) (fV (aj aH ao))) (bB jX (aA cP) (bO (aA d8)) bY)) ao)))) (aA sW) (fun _ _ => rfl)) ao)))))))))))))), ?_⟩
  have hxs : x.length ≤ sizeLine := by rw [sizeLine_eq]; omega
  have hsl : ∀ lo hi, (Txt.slice x lo hi).length ≤ x.length := fun lo hi => Txt.slice_le x lo hi
  obtain ⟨sg, hsg⟩ : ∃ sg : Str, sg = " 0123456789-&.abcdefghijklmnopqrstuvwxyz~+_A\n" := ⟨_, rfl⟩
  have hsgl : sg.length = 45 := by rw [hsg]; decide +kernel
  refine aP fun k hk => ?_
  push_cast
  rw [← hsg]
  subst hk
  refine aP fun k hk => ?_
  push_cast [rdX]
  refine ⟨p, 9, B, rfl, tp, by omega, by decide, by decide, by decide, fun z => absurd z (by decide), fun way H1 w0 w1 s1 tp1 => ⟨hxs, ?_⟩⟩
  refine ⟨p, _, B + 2, rfl, tp1, by omega, by omega, by omega, by decide, fun z => by decide, fun at0 H2 a0 a1 s2 tp2 => ?_⟩
  have sx2 := s1.trans s2
  subst hk
  refine aP fun k hk => ?_
  push_cast [rdX]
  refine ⟨by rw [sizeLine_eq]; omega, p, _, B + 2 + 2, rfl, tp2, by omega, by omega, by omega, by decide, fun z => absurd z (by omega), fun j H3 j0 j1 s3 tp3 => ?_⟩
  have hjl : j.toNat < sg.cps.toList.length := by
   rw [show sg.cps.toList.length = sg.length by simp [Str.length]]
   omega
  have hat : atI sg.cps.toList j = some sg.cps.toList[j.toNat] := by
   have := cM (List.getElem?_eq_getElem hjl)
   rw [show ((j.toNat : Nat) : Int) = j by omega] at this
   exact this
  generalize sg.cps.toList[j.toNat] = cs at hat
  push_cast [rdX]
  refine ⟨by rw [sizeLine_eq]; omega, cs, hat, ?_⟩
  have sx3 := sx2.trans s3
  have fin : ∀ z : Str, z.length ≤ 4 * x.length + 4 → Q (.str z) H3 := fun z hz => q z H3 sx3 (tp3.le (by omega)) hz
  have l1 : (⟨#[cs]⟩ : Str).length = 1 := rfl
  subst hk
  refine aP fun k hk => ?_
  push_cast [rdX]
  split
  ·have h1 := hsl none (some at0)
   have h2 := hsl (some (at0 + 1)) none
   exact ⟨hxs, hxs, by rw [sizeLine_eq]; omega, fin _ (by rw [eG]; omega)⟩
  ·subst hk
   refine aP fun k hk => ?_
   push_cast [rdX]
   split
   ·have h1 := hsl none (some at0)
    have h2 := hsl (some at0) none
    exact ⟨hxs, by rw [sizeLine_eq, l1]; omega, hxs, by rw [sizeLine_eq, eG, l1]; omega, fin _ (by rw [eG, eG, l1]; omega)⟩
   ·subst hk
    refine aP fun k hk => ?_
    push_cast [rdX]
    split
    ·have h1 := hsl none (some at0)
     have h2 := hsl (some (at0 + 1)) none
     exact ⟨hxs, by rw [sizeLine_eq, l1]; omega, hxs, by rw [sizeLine_eq, eG, l1]; omega, fin _ (by rw [eG, eG, l1]; omega)⟩
    ·subst hk
     refine aP fun k hk => ?_
     push_cast [rdX]
     split
     ·have h1 := hsl none (some at0)
      have h2 := hsl (some (at0 + 2)) none
      have h3 := hsl (some (at0 + 1)) (some (at0 + 2))
      have h4 := hsl (some at0) (some (at0 + 1))
      exact ⟨hxs, hxs, by rw [sizeLine_eq]; omega, hxs, by rw [sizeLine_eq, eG]; omega, hxs, by rw [sizeLine_eq, eG, eG]; omega, fin _ (by rw [eG, eG, eG]; omega)⟩
     ·rename_i n1 n2 n3 n4
      subst hk
      refine aP fun k hk => ?_
      push_cast [rdX]
      refine ⟨aQ (by decide), fun l4 hl4 => ?_⟩
      have s4 := au (o := HO.lst [V.str "\n", V.str " "]) hl4
      have e4 : upd H3 l4 (HO.lst [V.str "\n", V.str " "]) l4 = _ := aB
      have tp4 := tp3.same s4
      generalize upd H3 l4 (HO.lst [V.str "\n", V.str " "]) = H4 at s4 e4 tp4 ⊢
      obtain ⟨c, hc⟩ : ∃ c : Nat, atI [V.str "\n", V.str " "] (way - 7) = some (V.str ⟨#[c]⟩) := by
       have : way - 7 = 0 ∨ way - 7 = 1 := by omega
       rcases this with z | z
       ·rw [z]; exact ⟨10, by rw [Dd]; rfl⟩
       ·rw [z]; exact ⟨32, by rw [qd]; rfl⟩
      push_cast [rdX, e4, hc]
      subst hk
      refine aP fun k hk => ?_
      push_cast [rdX]
      have hps := lQ x c
      have hpne := j8 x c
      obtain ⟨ps, hps0⟩ : ∃ ps, ps = Txt.split x ⟨#[c]⟩ := ⟨_, rfl⟩
      rw [← hps0] at hps hpne ⊢
      refine ⟨rfl, hxs, aQ (by omega), fun l5 hl5 => ?_⟩
      have hpl : 1 ≤ ps.length := List.length_pos_iff.mpr hpne
      have s5 := au (o := HO.lst (ps.map V.str)) hl5
      have e5 : upd H4 l5 (HO.lst (ps.map V.str)) l5 = _ := aB
      have tp5 := tp4.same s5
      have n5 := tp4.ne hl5
      generalize upd H4 l5 (HO.lst (ps.map V.str)) = H5 at s5 e5 tp5 ⊢
      subst hk
      refine aP fun k hk => ?_
      push_cast [rdX, e5]
      rw [List.length_map]
      refine ⟨p, _, B + 2 + 2 + 2, rfl, tp5, by omega, by omega, by omega, by decide, fun z => by decide, fun kk H6 k0 k1 s6 tp6 => ?_⟩
      refine ⟨p, 3, B + 2 + 2 + 2 + 2, rfl, tp6, by omega, by decide, by decide, by decide, fun z => absurd z (by decide), fun more H7 m0 m1 s7 tp7 => ?_⟩
      have e7 := s7 _ _ n5 (s6 _ _ n5 e5)
      have sx7 : bU p H H7 := (sx3.trans (s4.trans s5).x).trans (s6.trans s7)
      subst hk
      push_cast [Hq, zf, IV, Jk, CP]
      have two : ∀ {us : List Str}, us.Sublist ps → us.length ≤ ps.length := fun h => h.length_le
      refine slS e7 fun a1 A1 G1 t1 h1 f1 => ?_
      refine slS (t1 _ _ e7) fun a2 A2 G2 t2 h2 f2 => ?_
      refine adS (t2 _ _ f1) f2 (by have := two h1; have := two h2; omega) fun a3 G3 t3 f3 => ?_
      have u3 := t1.trans (t2.trans t3)
      refine slS (u3 _ _ e7) fun a4 A4 G4 t4 h4 f4 => ?_
      refine slS ((u3.trans t4) _ _ e7) fun a5 A5 G5 t5 h5 f5 => ?_
      refine adS (t5 _ _ f4) f5 (by have := two h4; have := two h5; omega) fun a6 G6 t6 f6 => ?_
      have u6 := u3.trans (t4.trans (t5.trans t6))
      refine slS (u6 _ _ e7) fun a7 A7 G7 t7 h7 f7 => ?_
      refine ⟨aQ (by decide), fun a8 ha8 => ?_⟩
      have t8 := au (o := HO.lst [V.str ""]) ha8
      have f8 : upd G7 a8 (HO.lst [V.str ""]) a8 = some (.lst ([("" : Str)].map V.str)) := aB
      generalize upd G7 a8 (HO.lst [V.str ""]) = G8 at t8 f8 ⊢
      have u8 := u6.trans (t7.trans t8)
      refine adS (t8 _ _ f7) f8 (by have := two h7; show _ + 1 ≤ _; omega) fun a9 G9 t9 f9 => ?_
      refine slS ((u8.trans t9) _ _ e7) fun a10 A10 G10 t10 h10 f10 => ?_
      refine adS (t10 _ _ f9) f10 (by rw [List.length_append]; have := two h7; have := two h10; show _ + 1 + _ ≤ _; omega) fun a11 G11 t11 f11 => ?_
      have u11 := u8.trans (t9.trans (t10.trans t11))
      refine ⟨aQ (by decide), fun a12 ha12 => ?_⟩
      have t12 := au (o := HO.lst [V.ref a3, V.ref a6, V.ref a11]) ha12
      have f12 : upd G11 a12 (HO.lst [V.ref a3, V.ref a6, V.ref a11]) a12 = _ := aB
      generalize upd G11 a12 (HO.lst [V.ref a3, V.ref a6, V.ref a11]) = G12 at t12 f12 ⊢
      have u12 := u11.trans t12
      have b3 := t12 _ _ ((t7.trans (t8.trans (t9.trans (t10.trans t11)))) _ _ ((t4.trans (t5.trans t6)) _ _ f3))
      have b6 := t12 _ _ ((t7.trans (t8.trans (t9.trans (t10.trans t11)))) _ _ f6)
      have b11 := t12 _ _ f11
      have sums : ∀ {A B : List Str}, A.Sublist ps → B.Sublist ps → ((A ++ B).map (·.length)).sum + (A ++ B).length ≤ 2 * x.length + 2 := fun {A B} hA hB => by
       have := qO hA
       have := qO hB
       rw [List.map_append, List.sum_append, List.length_append]
       omega
      have done : ∀ (v : Addr) (us : List Str), G12 v = some (.lst (us.map V.str)) → (us.map (·.length)).sum + us.length ≤ 4 * x.length + 4 → rJoin (V.str ⟨#[c]⟩) [V.ref v] G12 Q := fun v us ev hs => by
       obtain ⟨j1, j2⟩ := join_one (c := c) hs (by omega)
       rw [yF, ev, Dk]
       exact ⟨us, rfl, j1, q _ _ (sx7.trans u12.x) ((tp7.same u12).le (by omega)) j2⟩
      have hm : more = 0 ∨ more = 1 ∨ more = 2 := by omega
      rcases hm with rfl | rfl | rfl
      ·exact ⟨_, rfl, done a3 _ b3 (by have := sums h1 h2; omega)⟩
      ·exact ⟨_, rfl, done a6 _ b6 (by have := sums h4 h5; omega)⟩
      ·refine ⟨_, rfl, done a11 _ b11 ?_⟩
       have := qO h7
       have := qO h10
       rw [List.map_append, List.map_append, List.sum_append, List.sum_append, List.length_append, List.length_append]
       show _ + 0 + _ + (_ + 1 + _) ≤ _
       omega
abbrev cX : Stmt := top 31
theorem Ab : bI ["_law_row"] ["_law_row"] (ak cX) := ⟨rfl, rfl, rfl, by decide +kernel, rfl, by decide +kernel, by decide +kernel⟩
theorem iZ : Nm ["_law_row"] (ak cX) 0 "_law_row" := .of (by decide +kernel)
theorem uG : (ak cX).names.lookup ("str" : Str) = some .globalImplicit := by decide +kernel
theorem BV : Bn "_law_row_text" := ⟨by decide +kernel, by decide +kernel⟩
abbrev fO : Stmt := top 35
theorem yh : bI ["_law_words", "_law_number"] ["_law_words"] (ak fO) := ⟨rfl, rfl, rfl, by decide +kernel, rfl, by decide +kernel, by decide +kernel⟩
theorem pF : Nm ["_law_words", "_law_number"] (ak fO) 0 "_law_words" := .of (by decide +kernel)
theorem pD : Nm ["_law_words", "_law_number"] (ak fO) 1 "_law_number" := .of (by decide +kernel)
theorem lU : (ak fO).names.lookup ("_law_word_number" : Str) = some .globalImplicit := by decide +kernel
theorem zj : (ak fO).names.lookup ("len" : Str) = some .globalImplicit := by decide +kernel
theorem Ly : Bn "_law_is_far" := ⟨by decide +kernel, by decide +kernel⟩
theorem yK (hB : ∀ x : Str, x ∈ BLs → mg x = none) (F : Fun K "_law_row_text" "_law_row_text" cX f fd) : dH P w K mg base CX0 1 f fd ["_law_row"] uY := by
 refine F.okq Ab (fun vs H Q E h => ?_) (fun cdv A outer s H vs Q E hr h => ?_)
 ·obtain ⟨v, ok, r, rfl, _⟩ := h
  rfl
 ·obtain ⟨v, ok, r, rfl, t, hsm, q⟩ := h
  refine ⟨_, (aD (bK (aU (bZ hr.bA) (aZ cF (aA iZ) aq (fun _ _ => rfl)) aH (aO _)) (aF (aL (jm PySem.F.slot_str_join PySem.F.type_str_join qW aH (aj (aK cI (fV (aj aH (aj (jQ pY uG (hB "str" pJ) boot_str pZ (aj (aZ cF (aA iZ) aq (fun _ _ => rfl)) ao)) ao))) (gn (NX := ["_law_row"]) (kX := (ak cX).names) ["_law_goal"] [none] rfl rfl ⟨rfl, by decide +kernel, by decide +kernel, by decide +kernel, by decide +kernel⟩ rfl (gm (aZ cF (aA iZ) aq (fun _ _ => rfl))) (fun _ _ _ _ _ => (eE 0 (show List.Nodup (["_law_goal"] : List Str) from by decide +kernel) rfl (Or.inl rfl))) (fun _ _ _ _ _ => gK) (fun _ _ _ _ _ => (jQ pY rfl (hB "str" pJ) boot_str pZ (aj (jc 0) ao))))) ao)))) bh)
   (aF (aL (jm PySem.F.slot_str_join PySem.F.type_str_join qW aH (aj (gn (NX := ["_law_row"]) (kX := (ak cX).names) ["_law_one"] [none] rfl rfl ⟨rfl, by decide +kernel, by decide +kernel, by decide +kernel, by decide +kernel⟩ rfl (gm (aA iZ)) (fun _ _ _ _ _ => (eE 0 (show List.Nodup (["_law_one"] : List Str) from by decide +kernel) rfl (Or.inl rfl))) (fun _ _ _ _ _ => gK) (fun _ _ _ _ _ => (jQ pY rfl (hB "str" pJ) boot_str pZ (aj (jc 0) ao)))) ao))))), ?_⟩
  obtain ⟨a, ys, rfl, e, y0⟩ := Hi t
  cases r with
  | ins w is =>
   obtain ⟨hw, hi, hl, hwl, _⟩ := id hsm
   replace y0 : ys = V.str w :: is.map V.int := y0
   have h0 : atI ys 0 = some (V.str w) := by rw [y0]; exact cM (j := 0) rfl
   have hok : ∀ v ∈ ys, Wh v := fun v hv => by
    rw [y0] at hv
    rcases List.mem_cons.mp hv with rfl | hv2
    ·trivial
    ·exact FJ hi v hv2
   have hwd : ys.map wdV = iU (.ins w is) := by rw [y0]; exact RT w is
   have hyl : ys.length ≤ 202 := by rw [y0, List.length_cons, List.length_map]; omega
   clear y0
   refine aP fun k hk => ?_
   push_cast [e, h0]
   rw [if_neg hw]
   subst hk
   push_cast [rdT]
   refine gC fun R hR => ?_
   push_cast [e]
   obtain ⟨Pc, hPc⟩ : ∃ Pv : Nat → List V → L2.St → Hp → Prop, Pv = fun (i : Nat) acc τ H' => ∃ (o1 : Option V), H' = H ∧ acc = ((ys.take i).map wdV).map V.str ∧ τ = [o1] := ⟨_, rfl⟩
   refine BL hR (xs := ys) (aQ (by omega)) Pc (by rw [hPc]; exact ⟨none, rfl, rfl, rfl⟩) ?_ ?_ ?_ ?_
   ·intro i acc τ H3 pc
    rw [hPc] at pc
    obtain ⟨_, _, rfl, _⟩ := pc
    rw [List.length_map, List.length_map]
    exact List.length_take_le _ _
   ·intro i acc τ H3 pc
    rw [hPc] at pc
    obtain ⟨_, rfl, _⟩ := pc
    exact SqT.of e
   ·intro i x acc τ H3 hx pc
    rw [hPc] at pc
    obtain ⟨_, rfl, rfl, rfl⟩ := pc
    have hx1 := hok x (List.mem_of_getElem? hx)
    have fin : Pc (i + 1) (((ys.take i).map wdV).map V.str ++ [V.str (wdV x)]) [some x] H3 := by
     rw [hPc]
     refine ⟨_, rfl, ?_, rfl⟩
     rw [take_snoc hx, List.map_append, List.map_append]
     rfl
    cases x with
    | str t =>
     push_cast [rdT]
     exact fin
    | int n =>
     push_cast [rdT]
     exact ⟨wu hx1, fin⟩
    | _ => exact hx1.elim
   ·intro acc τ H3 d pc hd
    rw [hPc] at pc
    obtain ⟨_, rfl, rfl, rfl⟩ := pc
    rw [List.take_length]
    have s4 := au (o := HO.lst ((ys.map wdV).map V.str)) hd
    have e4 : upd H3 d (HO.lst ((ys.map wdV).map V.str)) d = _ := aB
    generalize upd H3 d (HO.lst ((ys.map wdV).map V.str)) = H4 at s4 e4 ⊢
    push_cast [rdT, e4]
    rw [hwd]
    exact ⟨_, rfl, rY hsm, q H4 s4⟩
  | tab n gs =>
   obtain ⟨hn, hg, hgl⟩ := id hsm
   replace y0 : ∃ b, ys = [V.str "table", V.int n, V.ref b] ∧ H b = some (.tup (gs.map V.int)) := y0
   obtain ⟨b, rfl, eb⟩ := y0
   refine aP fun k hk => ?_
   push_cast [e, rdT]
   refine ⟨wu hn, aQ (by decide), fun p2 hp2 => ?_⟩
   have s2 := au (o := HO.lst [V.str "table", V.str (tsI n)]) hp2
   have e2 : upd H p2 (HO.lst [V.str "table", V.str (tsI n)]) p2 = _ := aB
   generalize upd H p2 (HO.lst [V.str "table", V.str (tsI n)]) = H2 at s2 e2 ⊢
   refine gC fun R hR => ?_
   have ea2 := s2 _ _ e
   have eb2 := s2 _ _ eb
   push_cast [ea2, eb2]
   obtain ⟨Pc, hPc⟩ : ∃ Pv : Nat → List V → L2.St → Hp → Prop, Pv = fun (i : Nat) acc τ H' => ∃ (o1 : Option V), H' = H2 ∧ acc = ((gs.take i).map tsI).map V.str ∧ τ = [o1] := ⟨_, rfl⟩
   refine BL hR (xs := gs.map V.int) (aQ (by rw [List.length_map]; omega)) Pc (by rw [hPc]; exact ⟨none, rfl, rfl, rfl⟩) ?_ ?_ ?_ ?_
   ·intro i acc τ H3 pc
    rw [hPc] at pc
    obtain ⟨_, _, rfl, _⟩ := pc
    rw [List.length_map, List.length_map]
    exact List.length_take_le _ _
   ·intro i acc τ H3 pc
    rw [hPc] at pc
    obtain ⟨_, rfl, _⟩ := pc
    exact SqT.of eb2
   ·intro i x acc τ H3 hx pc
    rw [hPc] at pc
    obtain ⟨_, rfl, rfl, rfl⟩ := pc
    rw [List.getElem?_map] at hx
    obtain ⟨g, hg1, rfl⟩ := Option.map_eq_some_iff.mp hx
    push_cast [rdT]
    refine ⟨wu (hg g (List.mem_of_getElem? hg1)), ?_⟩
    rw [hPc]
    refine ⟨_, rfl, ?_, rfl⟩
    rw [take_snoc hg1, List.map_append, List.map_append]
    rfl
   ·intro acc τ H3 d pc hd
    rw [hPc] at pc
    obtain ⟨_, rfl, rfl, rfl⟩ := pc
    rw [List.length_map, List.take_length]
    have s4 := s2.trans (au (o := HO.lst ((gs.map tsI).map V.str)) hd)
    have e24 := au (o := HO.lst ((gs.map tsI).map V.str)) hd _ _ e2
    push_cast
    rw [e24, Ca]
    generalize upd H3 d (HO.lst ((gs.map tsI).map V.str)) = H4 at s4 e24 ⊢
    refine ⟨aQ (by rw [List.length_map, List.length_map]; show 2 + gs.length ≤ 1000000; omega), fun p5 hp5 => ?_⟩
    push_cast [rdT]
    exact ⟨iU (.tab n gs), rfl, rY hsm, q _ (s4.trans (au hp5))⟩
theorem J2 (hB : ∀ x : Str, x ∈ BLs → mg x = none) (CZWordNumber : Cal P w K mg base "_law_word_number" 1 ["_law_word_here"] rO) (F : Fun K "_law_is_far" "_law_is_far" fO f fd) : dH P w K mg base CX0 2 f fd ["_law_words"] Cr := by
 refine F.okq yh (fun vs H Q E h => ?_) (fun cdv A outer s H vs Q E hr h => ?_)
 ·obtain ⟨a, w0, ts, rfl, _⟩ := h
  rfl
 ·obtain ⟨a, w0, ts, rfl, ea, htl, q⟩ := h
  refine ⟨_, (aD (bW pD yh.nd (nM (iK (kh (aU (bZ hr.bA) (aZ cF (aA pF) aq (fun _ _ => rfl)) aH (aO _)) (iV (aU (bZ hr.bA) (bw cg zj (hB "len" dB) PySem.boot_len dG (aj (aA pF) ao)) aq (aO _))))) (bC CZWordNumber (hr.mono (by decide)) lU mH (aj (aZ cF (aA pF) (sG mJ aq) (fun _ _ => rfl)) ao)) cQ))
   (aF (aL (iu (fj PB (aA pD) cQ (aO _)) (jd (fj yI (aA pD) aq (aO _))))))), ?_⟩
  replace ea : H a = some (.lst (V.str w0 :: ts.map V.str)) := ea
  have h0 : atI (V.str w0 :: ts.map V.str) 0 = some (V.str w0) := cM (j := 0) rfl
  refine aP fun k hk => ?_
  push_cast [ea, h0]
  have fin : ∀ (v : V) H', Same H H' → (v = .non ∨ ∃ n, v = .int n) → k [some (.ref a), some v] H' := by
   intro v H' s' hv
   subst hk
   rcases hv with rfl | ⟨n, rfl⟩
   ·push_cast
    exact q _ _ s'
   ·push_cast
    exact q _ _ s'
  have hnum : ∀ t : Str, fW t = .non ∨ ∃ n, fW t = .int n := fun t => by
   unfold fW
   split
   ·exact .inr ⟨_, rfl⟩
   ·exact .inl rfl
  split
  ·split
   ·rename_i c1 c2
    rw [List.length_map] at c2
    have htl1 : ts.length = 1 := by omega
    obtain ⟨t1, rfl⟩ : ∃ t1, ts = [t1] := by
     match ts, htl1 with
     | [t1], _ => exact ⟨t1, rfl⟩
    refine ⟨V.str t1, rfl, t1, rfl, htl t1 (by simp), fun H1 s1 => ?_⟩
    exact fin _ _ s1 (hnum t1)
   ·exact fin _ _ (Same.refl _) (.inl rfl)
  ·exact fin _ _ (Same.refl _) (.inl rfl)
abbrev cU : Stmt := top 28
theorem gQ : bI ["_law_tape_here", "_law_many", "_law_rows_here", "_law_at", "_law_goal", "_law_n", "_law_way", "_law_low", "_law_wide", "_law_bits"] ["_law_tape_here", "_law_many"] (ak cU) := ⟨rfl, rfl, rfl, by decide +kernel, rfl, by decide +kernel, by decide +kernel⟩
theorem eY : Nm ["_law_tape_here", "_law_many", "_law_rows_here", "_law_at", "_law_goal", "_law_n", "_law_way", "_law_low", "_law_wide", "_law_bits"] (ak cU) 0 "_law_tape_here" := .of (by decide +kernel)
theorem yP : Nm ["_law_tape_here", "_law_many", "_law_rows_here", "_law_at", "_law_goal", "_law_n", "_law_way", "_law_low", "_law_wide", "_law_bits"] (ak cU) 1 "_law_many" := .of (by decide +kernel)
theorem gY : Nm ["_law_tape_here", "_law_many", "_law_rows_here", "_law_at", "_law_goal", "_law_n", "_law_way", "_law_low", "_law_wide", "_law_bits"] (ak cU) 2 "_law_rows_here" := .of (by decide +kernel)
theorem sV : Nm ["_law_tape_here", "_law_many", "_law_rows_here", "_law_at", "_law_goal", "_law_n", "_law_way", "_law_low", "_law_wide", "_law_bits"] (ak cU) 3 "_law_at" := .of (by decide +kernel)
theorem nY : Nm ["_law_tape_here", "_law_many", "_law_rows_here", "_law_at", "_law_goal", "_law_n", "_law_way", "_law_low", "_law_wide", "_law_bits"] (ak cU) 4 "_law_goal" := .of (by decide +kernel)
theorem jq : Nm ["_law_tape_here", "_law_many", "_law_rows_here", "_law_at", "_law_goal", "_law_n", "_law_way", "_law_low", "_law_wide", "_law_bits"] (ak cU) 5 "_law_n" := .of (by decide +kernel)
theorem jo : Nm ["_law_tape_here", "_law_many", "_law_rows_here", "_law_at", "_law_goal", "_law_n", "_law_way", "_law_low", "_law_wide", "_law_bits"] (ak cU) 6 "_law_way" := .of (by decide +kernel)
theorem nW : Nm ["_law_tape_here", "_law_many", "_law_rows_here", "_law_at", "_law_goal", "_law_n", "_law_way", "_law_low", "_law_wide", "_law_bits"] (ak cU) 7 "_law_low" := .of (by decide +kernel)
theorem kY : Nm ["_law_tape_here", "_law_many", "_law_rows_here", "_law_at", "_law_goal", "_law_n", "_law_way", "_law_low", "_law_wide", "_law_bits"] (ak cU) 8 "_law_wide" := .of (by decide +kernel)
theorem yO : Nm ["_law_tape_here", "_law_many", "_law_rows_here", "_law_at", "_law_goal", "_law_n", "_law_way", "_law_low", "_law_wide", "_law_bits"] (ak cU) 9 "_law_bits" := .of (by decide +kernel)
theorem b8 : (ak cU).names.lookup ("_law_take" : Str) = some .globalImplicit := by decide +kernel
theorem oA : (ak cU).names.lookup ("range" : Str) = some .globalImplicit := by decide +kernel
theorem xj : (ak cU).names.lookup ("tuple" : Str) = some .globalImplicit := by decide +kernel
theorem Rm : Bn "_law_rows" := ⟨by decide +kernel, by decide +kernel⟩
theorem Qd (hB : ∀ x : Str, x ∈ BLs → mg x = none) (CZTake : Cal P w K mg base "_law_take" 2 ["_law_tape_here", "_law_many"] (mK 2)) (F : Fun K "_law_rows" "_law_rows" cU f fd) : dH P w K mg base CX0 3 f fd ["_law_tape_here", "_law_many"] Ia := by
 refine F.okq gQ (fun vs H Q E h => ?_) (fun cdv A outer s H vs Q E hr h => ?_)
 ·obtain ⟨p, m, B, rfl, _⟩ := h
  rfl
 ·obtain ⟨p, m, B, rfl, tp, hB0, hB1, hm1, hm2, q⟩ := h
  refine ⟨_, (aD (bW gY gQ.nd (fV ao))
   (aD (kj PassesOwn.never rfl (jl oA (hB "range" lz) (aj (aK iM (aA yP) aq) ao)) (iB sV gQ.nd)
   (aD (wN (i := 4) (j := 5) rfl gQ.nd rfl rfl (by decide) rfl rfl (aj (aK cI (aK cI (aA sV) aq) (bC CZTake (hr.mono (by decide)) b8 cL (aj (aA eY) (aj (aK iM (aK iM (aA yP) (aA sV)) aq) ao)))) (aj (aK iM (bC CZTake (hr.mono (by decide)) b8 cL (aj (aA eY) (aj aq ao))) aq) ao)) (by rfl))
   (aD (bW jo gQ.nd (bC CZTake (hr.mono (by decide)) b8 cL (aj (aA eY) (aj aq ao))))
   (aF (bK (aU (bZ hr.bA) (aA jo) aq (aO _)) (aF (iC (iY (aA gY) (cB (aj aH (aj (aA jq) (aj (aA nY) ao))))))) (aF (bK (aU gW (aA jo) aq (aO _)) (aF (iC (iY (aA gY) (cB (aj aH (aj (aA jq) (aj (aK cI (aA jq) (bC CZTake (hr.mono (by decide)) b8 cL (aj (aA eY) (aj aq ao)))) (aj (aA nY) ao)))))))) (aF (bK (aU gW (aA jo) aq (aO _)) (aF (iC (iY (aA gY) (cB (aj aH (aj (aA jq) (aj (aA nY) ao))))))) (aF (bK (aU gW (aA jo) aq (aO _)) (aD (pA (aZ cF (fV (aj (cB (aj (aK iM (aA jq) aq) (aj (aK cI aq (bC CZTake (hr.mono (by decide)) b8 cL (aj (aA eY) (aj aq ao)))) ao))) (aj (cB (aj (sG mJ aq) (aj aq ao))) ao))) (aK nR (bC CZTake (hr.mono (by decide)) b8 cL (aj (aA eY) (aj aq ao))) aq) (fun _ _ => rfl)) (pB (n := 2) rfl (dY (iB nW gQ.nd) (dY (iB kY gQ.nd) lN))))
   (aD (bW yO gQ.nd (bC CZTake (hr.mono (by decide)) b8 cL (aj (aA eY) (aj (aK Aw aq (aA kY)) ao))))
   (aF (iC (iY (aA gY) (cB (aj aH (aj (aA nW) (aj (aA kY) (aj (aA yO) (aj (aA nY) ao))))))))))) (aF (bK (aU (bZ hr.bA) (aA jo) aq (aO _)) (aD (pA (aZ cF (fV (aj (cB (aj (aK iM (aA jq) aq) (aj (aK cI aq (bC CZTake (hr.mono (by decide)) b8 cL (aj (aA eY) (aj aq ao)))) ao))) (aj (cB (aj (sG mJ aq) (aj aq ao))) (aj (cB (aj (sG mJ aq) (aj aq ao))) ao)))) (aK nR (bC CZTake (hr.mono (by decide)) b8 cL (aj (aA eY) (aj aq ao))) aq) (fun _ _ => rfl)) (pB (n := 2) rfl (dY (iB nW gQ.nd) (dY (iB kY gQ.nd) lN))))
   (aF (iC (iY (aA gY) (cB (aj aH (aj (aA nW) (aj (jQ fL xj (hB "tuple" fK) boot_tuple fM (aj (gn (NX := ["_law_tape_here", "_law_many", "_law_rows_here", "_law_at", "_law_goal", "_law_n", "_law_way", "_law_low", "_law_wide", "_law_bits"]) (kX := (ak cU).names) ["_law_k", "_law_at", "_law_tape_here", "_law_many"] [none, some 3, some 0, some 1] rfl rfl ⟨rfl, by decide +kernel, by decide +kernel, by decide +kernel, by decide +kernel⟩ rfl (jl oA (hB "range" lz) (aj (aA kY) ao)) (fun _ _ _ _ _ => (eE 0 (show List.Nodup (["_law_k", "_law_at", "_law_tape_here", "_law_many"] : List Str) from by decide +kernel) rfl (Or.inl rfl))) (fun _ _ _ _ _ => gK) (fun _ _ _ _ _ => (aK cI (aK cI (jc 1) aq) (bC CZTake (hr.mono (by decide)) rfl cL (aj (jc 2) (aj (aK iM (aK iM (jc 3) (jc 1)) aq) ao)))))) ao)) ao)))))))) (aF (iC (iY (aA gY) (cB (aj aH (aj (bC CZTake (hr.mono (by decide)) b8 cL (aj (aA eY) (aj aq ao))) ao)))))))))))))))))))
   (aF (aL (aK cI (aA gY) (fV (aj (cB (aj aH (aj (bC CZTake (hr.mono (by decide)) b8 cL (aj (aA eY) (aj aq ao))) ao))) ao))))))), ?_⟩
  refine aP fun k hk => ?_
  push_cast
  refine ⟨aQ (by decide), fun l hl => ?_⟩
  have hlp : l ≠ p := tp.ne hl
  have s6 := au (o := HO.lst []) hl
  have tp6 := tp.same s6
  have e6 : upd H l (HO.lst []) l = _ := aB
  generalize upd H l (HO.lst []) = H6 at s6 tp6 e6 ⊢
  subst hk
  obtain ⟨OD, hOD⟩ : ∃ OD : Addr → Prop, OD = fun a => a ≠ p ∧ a ≠ l := ⟨_, rfl⟩
  have kd : ∀ {H H' : Hp}, bU p H H' → ∀ a o, OD a → H a = some o → OD a ∧ H' a = some o := fun {H H'} sx a o h e => by
   refine ⟨h, sx a o ?_ e⟩
   rw [hOD] at h
   exact h.1
  refine aP fun k hk => ?_
  refine qp fun R hR => ?_
  push_cast [tH]
  refine ⟨by omega, by omega, ?_⟩
  obtain ⟨Pv, hPv⟩ : ∃ Pv : Nat → L2.St → Hp → Prop, Pv = fun (i : Nat) σ H' => ∃ (xs : List V) (rs : List fu) (o3 o4 o5 o6 o7 o8 o9 : Option V), bU p H H' ∧ cH H' p (B + 2 + 500 * (i : Int)) ∧ H' l = some (.lst xs) ∧ aR OD H' xs (rs.map nF) ∧ rs.length = i ∧ (∀ (j : Nat) r, rs[j]? = some r → gF m j r) ∧
   σ = [some (.ref p), some (.int m), some (.ref l), o3, o4, o5, o6, o7, o8, o9] := ⟨_, rfl⟩
  refine Dw hR Pv (by rw [hPv]; exact ⟨[], [], _, _, _, _, _, _, _, s6.x, tp6.le (by show B ≤ B + 2 + 500 * ((0 : Nat) : Int); omega), e6, .nil, rfl, fun j r h => (by cases h), rfl⟩) ?_ ?_
  ·intro i σ H7 hi pv
   rw [hPv] at pv
   obtain ⟨xs, rs, o3, o4, o5, o6, o7, o8, o9, sx7, tp7, e7, ts7, hrl, rok, rfl⟩ := pv
   have hi20 : (i : Int) < m - 1 := by omega
   refine aP fun k2 hk2 => ?_
   push_cast
   refine ⟨p, m - (0 + (i : Int)) - 1, B + 2 + 500 * (i : Int), rfl, tp7, by show B + 2 + 500 * (i : Int) + 2 ≤ 1000100; omega, by omega, by omega, by decide, fun z => absurd z (by omega), fun g8 H8 g80 g81 s8 tp8 => ?_⟩
   push_cast
   refine ⟨p, 24, B + 2 + 500 * (i : Int) + 2, rfl, tp8, by show B + 2 + 500 * (i : Int) + 2 + 2 ≤ 1000100; omega, by decide, by decide, by decide, fun z => absurd z (by decide), fun n9 H9 n90 n91 s9 tp9 => ?_⟩
   push_cast
   subst hk2
   refine aP fun k2 hk2 => ?_
   push_cast
   refine ⟨p, 9, B + 2 + 500 * (i : Int) + 2 + 2, rfl, tp9, by show B + 2 + 500 * (i : Int) + 2 + 2 + 2 ≤ 1000100; omega, by decide, by decide, by decide, fun z => absurd z (by decide), fun way H10 way0 way1 s10 tp10 => ?_⟩
   push_cast
   have s710 := (s8.trans s9).trans s10
   have e10 := s710 _ _ hlp e7
   have ts10 := ts7.keep (kd s710)
   have sx10 := sx7.trans s710
   have hgoal : btw (i : Int) m (0 + (i : Int) + 1 + g8) = true := by rw [Int.zero_add]; exact zx g80 (by omega)
   have bgoal : (0 + (i : Int) + 1 + g8).natAbs ≤ 2 ^ 64 := by omega
   generalize 0 + (i : Int) + 1 + g8 = goal at hgoal bgoal ⊢
   have bn : -4 ≤ n9 - 4 ∧ n9 - 4 < 20 := by omega
   generalize n9 - 4 = n at bn ⊢
   have fin : ∀ (t : Addr) (r : fu) (H16 : Hp) (o7 o8 o9 : Option V), bU p H H16 → H16 l = some (.lst xs) → aR OD H16 xs (rs.map nF) → bf OD H16 (.ref t) (nF r) → cH H16 p (B + 2 + 500 * (i : Int) + 490) → gF m i r →
     apq (H16 l) l (.ref t) H16 fun _ H1 => Pv (i + 1) [some (.ref p), some (.int m), some (.ref l), some (.int (0 + (i : Int))), some (.int goal), some (.int n), some (.int way), o7, o8, o9] H1 := by
    intro t r H16 o7 o8 o9 sx16 e16 ts16 tt tp16 rk
    have hxl := ts16.length
    rw [List.length_map] at hxl
    rw [e16, xT]
    refine ⟨Nat.lt_of_lt_of_le (show xs.length < 1000 by omega) (aQ (by decide)), ?_⟩
    have sx18 : bU p H (upd H16 l (HO.lst (xs ++ [V.ref t]))) := Ep sx16 hl
    have tp18 : cH (upd H16 l (HO.lst (xs ++ [V.ref t]))) p (B + 2 + 500 * (i : Int) + 490) := tp16.upd hlp
    have e18 : upd H16 l (HO.lst (xs ++ [V.ref t])) l = _ := aB
    have kk : ∀ a o, OD a → H16 a = some o → OD a ∧ upd H16 l (HO.lst (xs ++ [V.ref t])) a = some o := fun a o h e => by
     refine ⟨h, ?_⟩
     rw [hOD] at h
     rw [aG h.2]
     exact e
    have ts18 := (ts16.keep kk).append (.cons (tt.keep kk) .nil)
    rw [hPv]
    exact ⟨_, rs ++ [r], _, _, _, _, _, _, _, sx18, tp18.le (by show B + 2 + 500 * (i : Int) + 490 ≤ B + 2 + 500 * ((i + 1 : Nat) : Int); omega), e18, by rw [List.map_append]; exact ts18, by rw [List.length_append, List.length_singleton, hrl], vg rok (by rw [hrl]; exact rk), rfl⟩
   have new : ∀ {H16 : Hp} {t : Addr} {B' : Int}, cH H16 p B' → H16 l = some (.lst xs) → H16 t = none → OD t := fun tp e ht => by
    rw [hOD]
    exact ⟨tp.ne ht, (aJ e ht).symm⟩
   subst hk2
   push_cast
   by_cases c0 : way = 0
   ·rw [if_pos c0]
    push_cast [e10]
    refine ⟨aQ (by decide), fun t ht => ?_⟩
    have s11 := au (o := HO.tup [V.str "is", V.int n, V.int goal]) ht
    exact fin t (.ins "is" [n, goal]) _ _ _ _ (sx10.trans s11.x) (s11 _ _ e10) (ts10.same s11) (.tup (new tp10 e10 ht) aB (by show 3 ≤ 1000000; decide) (.cons (.str _) (.cons (.int _) (.cons (.int _) .nil)))) ((tp10.same s11).le (by show B + 2 + 500 * (i : Int) + 2 + 2 + 2 ≤ _; omega)) (RB (by omega) bgoal hgoal).1
   rw [if_neg c0]
   by_cases c1 : way < 3
   ·rw [if_pos c1]
    push_cast [e10]
    refine ⟨p, 8, B + 2 + 500 * (i : Int) + 2 + 2 + 2, rfl, tp10, by show B + 2 + 500 * (i : Int) + 2 + 2 + 2 + 2 ≤ 1000100; omega, by decide, by decide, by decide, fun z => absurd z (by decide), fun u H11 u0 u1 s11 tp11 => ?_⟩
    push_cast
    refine ⟨aQ (by decide), fun t ht => ?_⟩
    have e11 := s11 _ _ hlp e10
    have ts11 := ts10.keep (kd s11)
    have s12 := au (o := HO.tup [V.str "within", V.int n, V.int (n + u), V.int goal]) ht
    exact fin t (.ins "within" [n, n + u, goal]) _ _ _ _ ((sx10.trans s11).trans s12.x) (s12 _ _ e11) (ts11.same s12) (.tup (new tp11 e11 ht) aB (by show 4 ≤ 1000000; decide) (.cons (.str _) (.cons (.int _) (.cons (.int _) (.cons (.int _) .nil))))) ((tp11.same s12).le (by show B + 2 + 500 * (i : Int) + 2 + 2 + 2 + 2 ≤ _; omega)) (Fx (by omega) (by omega) (by omega) bgoal hgoal)
   rw [if_neg c1]
   by_cases c2 : way < 5
   ·rw [if_pos c2]
    push_cast [e10]
    refine ⟨aQ (by decide), fun t ht => ?_⟩
    have s11 := au (o := HO.tup [V.str "below", V.int n, V.int goal]) ht
    exact fin t (.ins "below" [n, goal]) _ _ _ _ (sx10.trans s11.x) (s11 _ _ e10) (ts10.same s11) (.tup (new tp10 e10 ht) aB (by show 3 ≤ 1000000; decide) (.cons (.str _) (.cons (.int _) (.cons (.int _) .nil)))) ((tp10.same s11).le (by show B + 2 + 500 * (i : Int) + 2 + 2 + 2 ≤ _; omega)) (RB (by omega) bgoal hgoal).2
   rw [if_neg c2]
   by_cases c3 : way < 7
   ·rw [if_pos c3]
    refine ⟨p, 12, B + 2 + 500 * (i : Int) + 2 + 2 + 2, rfl, tp10, by show B + 2 + 500 * (i : Int) + 2 + 2 + 2 + 2 ≤ 1000100; omega, by decide, by decide, by decide, fun z => absurd z (by decide), fun u H11 u0 u1 s11 tp11 => ?_⟩
    push_cast
    refine ⟨aQ (by decide), fun t1 ht1 => ⟨aQ (by decide), fun t2 ht2 => ⟨aQ (by decide), fun t3 ht3 => ?_⟩⟩⟩
    have e11 := s11 _ _ hlp e10
    have ts11 := ts10.keep (kd s11)
    have v1 := au (o := HO.tup [V.int (n - 3), V.int (1 + u)]) ht1
    have v2 := au (o := HO.tup [V.int (-20), V.int 64]) ht2
    have v3 := au (o := HO.lst [V.ref t1, V.ref t2]) ht3
    have f1 := (v2.trans v3) _ _ (show upd H11 t1 (HO.tup [V.int (n - 3), V.int (1 + u)]) t1 = _ from aB)
    have f2 := v3 _ _ (show upd (upd H11 t1 (HO.tup [V.int (n - 3), V.int (1 + u)])) t2 (HO.tup [V.int (-20), V.int 64]) t2 = _ from aB)
    have f3 : upd (upd (upd H11 t1 (HO.tup [V.int (n - 3), V.int (1 + u)])) t2 (HO.tup [V.int (-20), V.int 64])) t3 (HO.lst [V.ref t1, V.ref t2]) t3 = _ := aB
    have v := (v1.trans v2).trans v3
    have n1 := tp11.ne ht1
    have n2 := (tp11.same v1).ne ht2
    have n3 := (tp11.same (v1.trans v2)).ne ht3
    have tp12 := tp11.same v
    have e12 := v _ _ e11
    have ts12 := ts11.same v
    generalize upd (upd (upd H11 t1 (HO.tup [V.int (n - 3), V.int (1 + u)])) t2 (HO.tup [V.int (-20), V.int 64])) t3 (HO.lst [V.ref t1, V.ref t2]) = H12 at v3 f1 f2 f3 v tp12 e12 ts12 ⊢
    refine ⟨p, 4, B + 2 + 500 * (i : Int) + 2 + 2 + 2 + 2, rfl, tp12, by show B + 2 + 500 * (i : Int) + 2 + 2 + 2 + 2 + 2 ≤ 1000100; omega, by decide, by decide, by decide, fun z => absurd z (by decide), fun u4 H13 u40 u41 s13 tp13 => ?_⟩
    have f1 := s13 _ _ n1 f1
    have f2 := s13 _ _ n2 f2
    have f3 := s13 _ _ n3 f3
    have e13 := s13 _ _ hlp e12
    have ts13 := ts12.keep (kd s13)
    have sx13 := ((sx10.trans s11).trans v.x).trans s13
    obtain ⟨tk, lo, wd, hat, etk, blo, bwd⟩ : ∃ (tk : Addr) (lo wd : Int), atI [V.ref t1, V.ref t2] (u4 / 2) = some (V.ref tk) ∧ H13 tk = some (.tup [V.int lo, V.int wd]) ∧ lo.natAbs ≤ 100 ∧ (1 ≤ wd ∧ wd ≤ 64) := by
     have : u4 / 2 = 0 ∨ u4 / 2 = 1 := by omega
     rcases this with z | z
     ·rw [z]; exact ⟨t1, n - 3, 1 + u, rfl, f1, by omega, by omega⟩
     ·rw [z]; exact ⟨t2, -20, 64, rfl, f2, by decide, by decide⟩
    push_cast [f3, hat, etk, Int.one_mul]
    have pw1 := two_pow_pos wd.toNat
    have pw2 := vo (k := wd.toNat) (by omega)
    refine ⟨⟨by decide, by decide⟩, ⟨by omega, by omega, by decide⟩, p, 2 ^ wd.toNat, B + 2 + 500 * (i : Int) + 2 + 2 + 2 + 2 + 2, rfl, tp13, by show B + 2 + 500 * (i : Int) + 2 + 2 + 2 + 2 + 2 + 2 ≤ 1000100; omega, pw1, by omega, by decide, fun _ => by decide, fun bits H14 bits0 bits1 s14 tp14 => ?_⟩
    have e14 := s14 _ _ hlp e13
    have ts14 := ts13.keep (kd s14)
    push_cast [e14]
    refine ⟨aQ (by decide), fun t ht => ?_⟩
    have s15 := au (o := HO.tup [V.str "mask", V.int lo, V.int wd, V.int bits, V.int goal]) ht
    exact fin t (.ins "mask" [lo, wd, bits, goal]) _ _ _ _ ((sx13.trans s14).trans s15.x) (s15 _ _ e14) (ts14.same s15) (.tup (new tp14 e14 ht) aB (by show 5 ≤ 1000000; decide) (.cons (.str _) (.cons (.int _) (.cons (.int _) (.cons (.int _) (.cons (.int _) .nil)))))) ((tp14.same s15).le (by show B + 2 + 500 * (i : Int) + 2 + 2 + 2 + 2 + 2 + 2 ≤ _; omega)) (Qf bwd ⟨bits0, bits1⟩ (by omega) bgoal hgoal)
   rw [if_neg c3]
   by_cases c4 : way = 7
   ·rw [if_pos c4]
    refine ⟨p, 12, B + 2 + 500 * (i : Int) + 2 + 2 + 2, rfl, tp10, by show B + 2 + 500 * (i : Int) + 2 + 2 + 2 + 2 ≤ 1000100; omega, by decide, by decide, by decide, fun z => absurd z (by decide), fun u H11 u0 u1 s11 tp11 => ?_⟩
    push_cast
    refine ⟨aQ (by decide), fun t1 ht1 => ⟨aQ (by decide), fun t2 ht2 => ⟨aQ (by decide), fun t4 ht4 => ⟨aQ (by decide), fun t3 ht3 => ?_⟩⟩⟩⟩
    have e11 := s11 _ _ hlp e10
    have ts11 := ts10.keep (kd s11)
    have v1 := au (o := HO.tup [V.int (n - 3), V.int (1 + u)]) ht1
    have v2 := au (o := HO.tup [V.int (-20), V.int 64]) ht2
    have v4 := au (o := HO.tup [V.int (-100), V.int 200]) ht4
    have v3 := au (o := HO.lst [V.ref t1, V.ref t2, V.ref t4]) ht3
    have f1 := ((v2.trans v4).trans v3) _ _ (show upd H11 t1 (HO.tup [V.int (n - 3), V.int (1 + u)]) t1 = _ from aB)
    have f2 := (v4.trans v3) _ _ (show upd (upd H11 t1 (HO.tup [V.int (n - 3), V.int (1 + u)])) t2 (HO.tup [V.int (-20), V.int 64]) t2 = _ from aB)
    have f4 := v3 _ _ (show upd (upd (upd H11 t1 (HO.tup [V.int (n - 3), V.int (1 + u)])) t2 (HO.tup [V.int (-20), V.int 64])) t4 (HO.tup [V.int (-100), V.int 200]) t4 = _ from aB)
    have f3 : upd (upd (upd (upd H11 t1 (HO.tup [V.int (n - 3), V.int (1 + u)])) t2 (HO.tup [V.int (-20), V.int 64])) t4 (HO.tup [V.int (-100), V.int 200])) t3 (HO.lst [V.ref t1, V.ref t2, V.ref t4]) t3 = _ := aB
    have v := ((v1.trans v2).trans v4).trans v3
    have n1 := tp11.ne ht1
    have n2 := (tp11.same v1).ne ht2
    have n4 := (tp11.same (v1.trans v2)).ne ht4
    have n3 := (tp11.same ((v1.trans v2).trans v4)).ne ht3
    have tp12 := tp11.same v
    have e12 := v _ _ e11
    have ts12 := ts11.same v
    generalize upd (upd (upd (upd H11 t1 (HO.tup [V.int (n - 3), V.int (1 + u)])) t2 (HO.tup [V.int (-20), V.int 64])) t4 (HO.tup [V.int (-100), V.int 200])) t3 (HO.lst [V.ref t1, V.ref t2, V.ref t4]) = H12 at v3 f1 f2 f4 f3 v tp12 e12 ts12 ⊢
    refine ⟨p, 6, B + 2 + 500 * (i : Int) + 2 + 2 + 2 + 2, rfl, tp12, by show B + 2 + 500 * (i : Int) + 2 + 2 + 2 + 2 + 2 ≤ 1000100; omega, by decide, by decide, by decide, fun z => absurd z (by decide), fun u4 H13 u40 u41 s13 tp13 => ?_⟩
    have f1 := s13 _ _ n1 f1
    have f2 := s13 _ _ n2 f2
    have f4 := s13 _ _ n4 f4
    have f3 := s13 _ _ n3 f3
    have e13 := s13 _ _ hlp e12
    have ts13 := ts12.keep (kd s13)
    have sx13 := ((sx10.trans s11).trans v.x).trans s13
    obtain ⟨tk, lo, wd, hat, etk, blo, bwd⟩ : ∃ (tk : Addr) (lo wd : Int), atI [V.ref t1, V.ref t2, V.ref t4] (u4 / 2) = some (V.ref tk) ∧ H13 tk = some (.tup [V.int lo, V.int wd]) ∧ lo.natAbs ≤ 100 ∧ (1 ≤ wd ∧ wd ≤ 200) := by
     have : u4 / 2 = 0 ∨ u4 / 2 = 1 ∨ u4 / 2 = 2 := by omega
     rcases this with z | z | z
     ·rw [z]; exact ⟨t1, n - 3, 1 + u, rfl, f1, by omega, by omega⟩
     ·rw [z]; exact ⟨t2, -20, 64, rfl, f2, by decide, by decide⟩
     ·rw [z]; exact ⟨t4, -100, 200, rfl, f4, by decide, by decide⟩
    push_cast [f3, hat, etk, e13]
    refine ⟨⟨by decide, by decide⟩, ?_⟩
    refine gC fun R2 hR2 => ?_
    push_cast [tH]
    refine ⟨by omega, by omega, ?_⟩
    obtain ⟨Pc, hPc⟩ : ∃ Pv : Nat → List V → L2.St → Hp → Prop, Pv = fun (j : Nat) acc τ H' => ∃ (gs : List Int) (o0 : Option V), bU p H13 H' ∧ cH H' p (B + 2 + 500 * (i : Int) + 10 + 2 * (j : Int)) ∧ acc = gs.map V.int ∧ gs.length = j ∧ gs.all (btw (i : Int) m) = true ∧ τ = [o0, some (V.int (0 + (i : Int))), some (V.ref p), some (V.int m)] := ⟨_, rfl⟩
    refine Vk hR2 (aQ (by omega)) Pc (by rw [hPc]; exact ⟨[], _, bU.refl _ _, tp13.le (by show B + 2 + 500 * (i : Int) + 2 + 2 + 2 + 2 + 2 ≤ B + 2 + 500 * (i : Int) + 10 + 2 * ((0 : Nat) : Int); omega), rfl, rfl, rfl, rfl⟩) ?_ ?_ ?_
    ·intro j acc τ H14 pc
     rw [hPc] at pc
     obtain ⟨gs, _, _, _, rfl, hg, _⟩ := pc
     rw [List.length_map]
     omega
    ·intro j acc τ H14 hj pc
     rw [hPc] at pc
     obtain ⟨gs, o0, s14, tp14, rfl, hgl, hga, rfl⟩ := pc
     push_cast
     refine ⟨p, m - (0 + (i : Int)) - 1, B + 2 + 500 * (i : Int) + 10 + 2 * (j : Int), rfl, tp14, by show B + 2 + 500 * (i : Int) + 10 + 2 * (j : Int) + 2 ≤ 1000100; omega, by omega, by omega, by decide, fun z => absurd z (by omega), fun g H15 g0 g1 s15 tp15 => ?_⟩
     push_cast
     rw [hPc]
     have hb : btw (i : Int) m (0 + (i : Int) + 1 + g) = true := by rw [Int.zero_add]; exact zx g0 (by omega)
     refine ⟨gs ++ [0 + (i : Int) + 1 + g], _, s14.trans s15, tp15.le (by show B + 2 + 500 * (i : Int) + 10 + 2 * (j : Int) + 2 ≤ B + 2 + 500 * (i : Int) + 10 + 2 * ((j + 1 : Nat) : Int); omega), by rw [List.map_append]; rfl, by rw [List.length_append, List.length_singleton, hgl], by rw [List.all_append, hga, List.all_cons, hb]; rfl, rfl⟩
    ·intro acc τ H14 d14 pc hd14
     rw [hPc] at pc
     obtain ⟨gs, o0, s14, tp14, rfl, hgl, hga, rfl⟩ := pc
     have s15 := au (o := HO.lst (gs.map V.int)) hd14
     have e15 : upd H14 d14 (HO.lst (gs.map V.int)) d14 = _ := aB
     have el := s15 _ _ (s14 _ _ hlp e13)
     have ts15 := (ts13.keep (kd s14)).same s15
     have tp15 := tp14.same s15
     have sx15 := (sx13.trans s14).trans s15.x
     generalize upd H14 d14 (HO.lst (gs.map V.int)) = H15 at s15 e15 el ts15 tp15 sx15 ⊢
     push_cast [e15]
     refine ⟨gs.map V.int, .inl ⟨SqL.of e15, fun lt hlt => ⟨aQ (by decide), fun t ht => ?_⟩⟩⟩
     have w1 := au (o := HO.tup (gs.map V.int)) hlt
     have w2 := au (o := HO.tup [V.str "table", V.int lo, V.ref lt]) ht
     have g1 := w2 _ _ (show upd H15 lt (HO.tup (gs.map V.int)) lt = _ from aB)
     have w := w1.trans w2
     have okl : OD lt := new tp15 el hlt
     have okt : OD t := new (tp15.same w1) (w1 _ _ el) ht
     have glen : gs.length ≤ 200 := by omega
     refine fin t (.tab lo gs) _ _ _ _ (sx15.trans w.x) (w _ _ el) (ts15.same w) (.tup okt aB (by show 3 ≤ 1000000; decide) (.cons (.str _) (.cons (.int _) (.cons (.tup okl g1 (by rw [List.length_map]; omega) (uT gs)) .nil)))) ((tp15.same w).le (by omega)) ⟨fun z => ?_, glen, hga, by omega⟩
     rw [z] at hgl
     simp at hgl
     omega
   rw [if_neg c4]
   push_cast [e10]
   refine ⟨p, 5, B + 2 + 500 * (i : Int) + 2 + 2 + 2, rfl, tp10, by show B + 2 + 500 * (i : Int) + 2 + 2 + 2 + 2 ≤ 1000100; omega, by decide, by decide, by decide, fun z => absurd z (by decide), fun u H11 u0 u1 s11 tp11 => ?_⟩
   push_cast
   refine ⟨aQ (by decide), fun t ht => ?_⟩
   have e11 := s11 _ _ hlp e10
   have ts11 := ts10.keep (kd s11)
   have s12 := au (o := HO.tup [V.str "pick", V.int u]) ht
   exact fin t (.ins "pick" [u]) _ _ _ _ ((sx10.trans s11).trans s12.x) (s12 _ _ e11) (ts11.same s12) (.tup (new tp11 e11 ht) aB (by show 2 ≤ 1000000; decide) (.cons (.str _) (.cons (.int _) .nil))) ((tp11.same s12).le (by show B + 2 + 500 * (i : Int) + 2 + 2 + 2 + 2 ≤ _; omega)) (Dc u0 (by omega))
  ·intro σ H7 pv
   rw [hPv] at pv
   obtain ⟨xs, rs, o3, o4, o5, o6, o7, o8, o9, sx7, tp7, e7, ts7, hrl, rok, rfl⟩ := pv
   show k _ _
   subst hk
   have hxl := ts7.length
   rw [List.length_map] at hxl
   push_cast
   refine ⟨p, 5, B + 2 + 500 * (((m - 1).toNat : Nat) : Int), rfl, tp7, by show B + 2 + 500 * (((m - 1).toNat : Nat) : Int) + 2 ≤ 1000100; omega, by decide, by decide, by decide, fun z => absurd z (by decide), fun u H8 u0 u1 s8 tp8 => ?_⟩
   have e8 := s8 _ _ hlp e7
   have ts8 := ts7.keep (kd s8)
   push_cast
   refine ⟨aQ (by decide), fun t ht => ⟨aQ (by decide), fun l9 hl9 => ?_⟩⟩
   have v1 := au (o := HO.tup [V.str "pick", V.int u]) ht
   have v2 := au (o := HO.lst [V.ref t]) hl9
   have f1 := v2 _ _ (show upd H8 t (HO.tup [V.str "pick", V.int u]) t = _ from aB)
   have v := v1.trans v2
   have e9 := v _ _ e8
   have ts9 := ts8.same v
   have tp9 := tp8.same v
   have sx9 := (sx7.trans s8).trans v.x
   have okt : OD t := by
    rw [hOD]
    exact ⟨tp8.ne ht, (aJ e8 ht).symm⟩
   push_cast [e9]
   generalize upd (upd H8 t (HO.tup [V.str "pick", V.int u])) l9 (HO.lst [V.ref t]) = H9 at v2 f1 v e9 ts9 tp9 sx9 ⊢
   refine ⟨aQ (by omega), fun l10 hl10 => ?_⟩
   have v3 := au (o := HO.lst (xs ++ [V.ref t])) hl10
   have tall : aR OD H9 (xs ++ [V.ref t]) ((rs ++ [fu.ins "pick" [u]]).map nF) := by
    rw [List.map_append]
    exact ts9.append (.cons (.tup okt f1 (by show 2 ≤ 1000000; decide) (.cons (.str _) (.cons (.int _) .nil))) .nil)
   refine q l10 (rs ++ [fu.ins "pick" [u]]) _ (sx9.trans v3.x) ((tp9.same v3).le (by omega)) (.lst (tp9.ne hl10) aB (by rw [List.length_append, List.length_singleton]; omega) ((tall.same v3).keep fun a o h e => ?_)) (by rw [List.length_append, List.length_singleton]; omega) (vg rok (Dc u0 (by omega)))
   rw [hOD] at h
   exact ⟨h.1, e⟩
abbrev eH : Stmt := top 36
theorem iy : bI ["_law_script", "_law_odd", "_law_one", "_law_behind", "_law_k", "_law_tape_here", "_law_rows_here", "_law_text", "_law_turn", "_law_some", "_law_more"] ["_law_script"] (ak eH) := ⟨rfl, rfl, rfl, by decide +kernel, rfl, by decide +kernel, by decide +kernel⟩
theorem J9 : Nm ["_law_script", "_law_odd", "_law_one", "_law_behind", "_law_k", "_law_tape_here", "_law_rows_here", "_law_text", "_law_turn", "_law_some", "_law_more"] (ak eH) 0 "_law_script" := .of (by decide +kernel)
theorem ji : Nm ["_law_script", "_law_odd", "_law_one", "_law_behind", "_law_k", "_law_tape_here", "_law_rows_here", "_law_text", "_law_turn", "_law_some", "_law_more"] (ak eH) 1 "_law_odd" := .of (by decide +kernel)
theorem Bh : Nm ["_law_script", "_law_odd", "_law_one", "_law_behind", "_law_k", "_law_tape_here", "_law_rows_here", "_law_text", "_law_turn", "_law_some", "_law_more"] (ak eH) 2 "_law_one" := .of (by decide +kernel)
theorem Bg : Nm ["_law_script", "_law_odd", "_law_one", "_law_behind", "_law_k", "_law_tape_here", "_law_rows_here", "_law_text", "_law_turn", "_law_some", "_law_more"] (ak eH) 3 "_law_behind" := .of (by decide +kernel)
theorem J8 : Nm ["_law_script", "_law_odd", "_law_one", "_law_behind", "_law_k", "_law_tape_here", "_law_rows_here", "_law_text", "_law_turn", "_law_some", "_law_more"] (ak eH) 4 "_law_k" := .of (by decide +kernel)
theorem pH : Nm ["_law_script", "_law_odd", "_law_one", "_law_behind", "_law_k", "_law_tape_here", "_law_rows_here", "_law_text", "_law_turn", "_law_some", "_law_more"] (ak eH) 5 "_law_tape_here" := .of (by decide +kernel)
theorem Bf : Nm ["_law_script", "_law_odd", "_law_one", "_law_behind", "_law_k", "_law_tape_here", "_law_rows_here", "_law_text", "_law_turn", "_law_some", "_law_more"] (ak eH) 6 "_law_rows_here" := .of (by decide +kernel)
theorem Bd : Nm ["_law_script", "_law_odd", "_law_one", "_law_behind", "_law_k", "_law_tape_here", "_law_rows_here", "_law_text", "_law_turn", "_law_some", "_law_more"] (ak eH) 7 "_law_text" := .of (by decide +kernel)
theorem Uw : Nm ["_law_script", "_law_odd", "_law_one", "_law_behind", "_law_k", "_law_tape_here", "_law_rows_here", "_law_text", "_law_turn", "_law_some", "_law_more"] (ak eH) 8 "_law_turn" := .of (by decide +kernel)
theorem pG : Nm ["_law_script", "_law_odd", "_law_one", "_law_behind", "_law_k", "_law_tape_here", "_law_rows_here", "_law_text", "_law_turn", "_law_some", "_law_more"] (ak eH) 9 "_law_some" := .of (by decide +kernel)
theorem Qm : Nm ["_law_script", "_law_odd", "_law_one", "_law_behind", "_law_k", "_law_tape_here", "_law_rows_here", "_law_text", "_law_turn", "_law_some", "_law_more"] (ak eH) 10 "_law_more" := .of (by decide +kernel)
theorem vL : (ak eH).names.lookup ("_law_due" : Str) = some .globalImplicit := by decide +kernel
theorem jU : (ak eH).names.lookup ("_law_other_text" : Str) = some .globalImplicit := by decide +kernel
theorem Bx : (ak eH).names.lookup ("_law_rows" : Str) = some .globalImplicit := by decide +kernel
theorem mY : (ak eH).names.lookup ("_law_same" : Str) = some .globalImplicit := by decide +kernel
theorem tR : (ak eH).names.lookup ("_law_take" : Str) = some .globalImplicit := by decide +kernel
theorem Bw : (ak eH).names.lookup ("_law_tape" : Str) = some .globalImplicit := by decide +kernel
theorem mX : (ak eH).names.lookup ("_law_told" : Str) = some .globalImplicit := by decide +kernel
theorem KZ : (ak eH).names.lookup ("any" : Str) = some .globalImplicit := by decide +kernel
theorem KY : (ak eH).names.lookup ("len" : Str) = some .globalImplicit := by decide +kernel
theorem KR : (ak eH).names.lookup ("max" : Str) = some .globalImplicit := by decide +kernel
theorem KQ : (ak eH).names.lookup ("min" : Str) = some .globalImplicit := by decide +kernel
theorem mW : (ak eH).names.lookup ("range" : Str) = some .globalImplicit := by decide +kernel
def Cq (K : PySem.W.Frag) : Sp := fun vs H Q _ => ∃ (a : Addr) (ns : List Int), vs = [.ref a] ∧ SqL K H a (ns.map V.int) ∧ ns.length ≤ 63 ∧ ∀ H', Q (.bl true) H'
theorem Ut (hB : ∀ x : Str, x ∈ BLs → mg x = none) (CZTake : Cal P w K mg base "_law_take" 2 ["_law_tape_here", "_law_many"] (mK 2)) (CZTape : Cal P w K mg base "_law_tape" 2 ["_law_script", "_law_k"] (HX K)) (CZRows : Cal P w K mg base "_law_rows" 3 ["_law_tape_here", "_law_many"] Ia)
  (CZRowText : Cal P w K mg base "_law_row_text" 1 ["_law_row"] uY) (CZTold : Cal P w K mg base "_law_told" 6 ["_law_text"] wk) (CZDue : Cal P w K mg base "_law_due" 3 ["_law_text"] wk) (CZSame : Cal P w K mg base "_law_same" 5 ["_law_found", "_law_due_here"] (lJ 5))
  (CZOtherText : Cal P w K mg base "_law_other_text" 3 ["_law_tape_here", "_law_text"] yg) (CZIsFar : Cal P w K mg base "_law_is_far" 2 ["_law_words"] Cr)
  (F : Fun K "law" "law" eH f fd) : dH P w K mg base CX0 63 f fd ["_law_script"] (Cq K) := by
 refine F.okq iy (fun vs H Q E h => ?_) (fun cdv A outer s H vs Q E hr h => ?_)
 ·obtain ⟨a, ns, rfl, _⟩ := h
  rfl
 ·obtain ⟨a, ns, rfl, hS, h63, q⟩ := h
  refine ⟨_, (aD (bW ji iy.nd aH)
   (aD (bW ji iy.nd (aK bG (aA ji) aH))
   (aD (bW ji iy.nd (aK bG (aA ji) aH))
   (aD (bW ji iy.nd (aK bG (aA ji) aH))
   (aD (bW ji iy.nd (aK bG (aA ji) aH))
   (aD (kj PassesOwn.never rfl (gm (jm PySem.F.slot_str_split PySem.F.type_str_split gZ (aA ji) (aj aH ao))) (iB Bh iy.nd)
   (aF (kj PassesOwn.never rfl (gm (cB (aj aH (aj aH (aj aH (aj aH ao)))))) (iB Bg iy.nd)
   (aF (bK (dW (cV (bC CZSame (hr.mono (by decide)) mY rB (aj (bC CZTold (hr.mono (by decide)) mX xP (aj (aK bG (aA Bh) (aA Bg)) ao)) (aj (bC CZDue (hr.mono (by decide)) vL Lz (aj (aK bG (aA Bh) (aA Bg)) ao)) ao))))) (aF (aL jR)) bh)))))
   (aD (kj PassesOwn.never rfl (jl mW (hB "range" lz) (aj (aK bG aq (bw (Gn rfl) KQ (hB "min" Uy) boot_min Vl (aj aq (aj (bw iG KY (hB "len" dB) PySem.boot_len dG (aj (aA J9) ao)) ao)))) ao)) (iB J8 iy.nd)
   (aD (bW pH iy.nd (bC CZTape (hr.mono (by decide)) Bw Rk (aj (aA J9) (aj (aA J8) ao))))
   (aD (bW Bf iy.nd (bC CZRows (hr.mono (by decide)) Bx Rm (aj (aA pH) (aj (aK bG aq (bC CZTake (hr.mono (by decide)) tR cL (aj (aA pH) (aj aq ao)))) ao))))
   (aD (bW Bd iy.nd (jm PySem.F.slot_str_join PySem.F.type_str_join qW aH (aj (gn (NX := ["_law_script", "_law_odd", "_law_one", "_law_behind", "_law_k", "_law_tape_here", "_law_rows_here", "_law_text", "_law_turn", "_law_some", "_law_more"]) (kX := (ak eH).names) ["_law_row"] [none] rfl rfl ⟨rfl, by decide +kernel, by decide +kernel, by decide +kernel, by decide +kernel⟩ rfl (gm (aA Bf)) (fun _ _ _ _ _ => (eE 0 (show List.Nodup (["_law_row"] : List Str) from by decide +kernel) rfl (Or.inl rfl))) (fun _ _ _ _ _ => gK) (fun _ _ _ _ _ => (bC CZRowText (hr.mono (by decide)) rfl BV (aj (jc 0) ao)))) ao)))
   (aD (kj PassesOwn.never rfl (jl mW (hB "range" lz) (aj aq ao)) (iB Uw iy.nd)
   (aD (bW pG iy.nd (bC CZOtherText (hr.mono (by decide)) jU oO (aj (aA pH) (aj (aA Bd) ao))))
   (aD (kj PassesOwn.never rfl (jl mW (hB "range" lz) (aj (bw (Gq rfl) KR (hB "max" Uz) boot_max Vm (aj aq (aj (aK iM (bC CZTake (hr.mono (by decide)) tR cL (aj (aA pH) (aj aq ao))) aq) ao))) ao)) (iB Qm iy.nd)
   (aF (bW pG iy.nd (bC CZOtherText (hr.mono (by decide)) jU oO (aj (aA pH) (aj (aA pG) ao))))))
   (aF (bK (dW (cV (bw (vR rfl) KZ (hB "any" Kc) PyProof.Rows.Boot.«any» Lw (aj (gn (NX := ["_law_script", "_law_odd", "_law_one", "_law_behind", "_law_k", "_law_tape_here", "_law_rows_here", "_law_text", "_law_turn", "_law_some", "_law_more"]) (kX := (ak eH).names) ["_law_row"] [none] rfl rfl ⟨rfl, by decide +kernel, by decide +kernel, by decide +kernel, by decide +kernel⟩ rfl (gm (jm PySem.F.slot_str_split PySem.F.type_str_split gZ (aA pG) (aj aH ao))) (fun _ _ _ _ _ => (eE 0 (show List.Nodup (["_law_row"] : List Str) from by decide +kernel) rfl (Or.inl rfl))) (fun _ _ _ _ _ => gK) (fun _ _ _ _ _ => (bC CZIsFar (hr.mono (by decide)) rfl Ly (aj (jm PySem.F.slot_str_split PySem.F.type_str_split gZ (jc 0) (aj aH ao)) ao)))) ao)))) (aF (bK (dW (cV (bC CZSame (hr.mono (by decide)) mY rB (aj (bC CZTold (hr.mono (by decide)) mX xP (aj (aA pG) ao)) (aj (bC CZDue (hr.mono (by decide)) vL Lz (aj (aA pG) ao)) ao))))) (aF (aL jR)) bh)) bh)))))
   (aF (bK (dW (cV (bC CZSame (hr.mono (by decide)) mY rB (aj (bC CZTold (hr.mono (by decide)) mX xP (aj (aA Bd) ao)) (aj (aA Bf) ao))))) (aF (aL jR)) bh)))))))
   (aF (aL jR))))))))), ?_⟩
  refine aP fun k hk => ?_
  push_cast
  subst hk
  refine aP fun k hk => ?_
  push_cast [rdX]
  refine ⟨by decide +kernel, ?_⟩
  subst hk
  refine aP fun k hk => ?_
  push_cast [rdX]
  refine ⟨by decide +kernel, ?_⟩
  subst hk
  refine aP fun k hk => ?_
  push_cast [rdX]
  refine ⟨by decide +kernel, ?_⟩
  subst hk
  refine aP fun k hk => ?_
  push_cast [rdX]
  refine ⟨by decide +kernel, ?_⟩
  suffices go : ∀ odd : Str, odd.length ≤ 2000 → k [some (.ref a), some (.str odd), none, none, none, none, none, none, none, none, none] H from go _ (by decide +kernel)
  intro odd hodd
  subst hk
  refine aP fun k hk => ?_
  refine qp fun R hR => ?_
  push_cast [rdX]
  rw [show (("|" : Str)) = ⟨#[124]⟩ by decide +kernel]
  have hps := lQ odd 124
  have hpl := kI odd 124
  obtain ⟨ps, hps0⟩ : ∃ ps, ps = Txt.split odd ⟨#[124]⟩ := ⟨_, rfl⟩
  rw [← hps0] at hps hpl ⊢
  refine ⟨rfl, by rw [sizeLine_eq]; omega, aQ (by omega), fun l1 hl1 => ?_⟩
  have s1 := au (o := HO.lst (ps.map V.str)) hl1
  have e1 : upd H l1 (HO.lst (ps.map V.str)) l1 = _ := aB
  generalize upd H l1 (HO.lst (ps.map V.str)) = H1 at s1 e1 ⊢
  try push_cast [e1]
  obtain ⟨Pv, hPv⟩ : ∃ Pv : Nat → L2.St → Hp → Prop, Pv = fun (i : Nat) σ H' => Same H1 H' ∧ ∃ o2 o3, σ = [some (.ref a), some (.str odd), o2, o3, none, none, none, none, none, none, none] := ⟨_, rfl⟩
  refine Ws hR (xs := ps.map V.str) Pv (by rw [hPv]; exact ⟨Same.refl _, _, _, rfl⟩) (fun i σ H' _ pv => ?_) ?_ ?_
  ·rw [hPv] at pv
   exact SqL.of (pv.1 _ _ e1)
  ·intro i x σ H2 hx pv
   rw [hPv] at pv
   obtain ⟨s2, o2, o3, rfl⟩ := pv
   rw [List.getElem?_map] at hx
   obtain ⟨one, hone, rfl⟩ := Option.map_eq_some_iff.mp hx
   have hol := hpl one (List.mem_of_getElem? hone)
   refine qp fun R2 hR2 => ?_
   push_cast
   refine ⟨aQ (by decide), fun t3 ht3 => ?_⟩
   have s3 := s2.trans (au (o := HO.tup [V.str "", V.str "\npick 1", V.str "\n", V.str "\nis 0 2\npick 1"]) ht3)
   have e3 : upd H2 t3 (HO.tup [V.str "", V.str "\npick 1", V.str "\n", V.str "\nis 0 2\npick 1"]) t3 = _ := aB
   generalize upd H2 t3 (HO.tup [V.str "", V.str "\npick 1", V.str "\n", V.str "\nis 0 2\npick 1"]) = H3 at s3 e3 ⊢
   obtain ⟨Pw, hPw⟩ : ∃ Pv : Nat → L2.St → Hp → Prop, Pv = fun (i : Nat) σ H' => Same H3 H' ∧ ∃ o3, σ = [some (.ref a), some (.str odd), some (.str one), o3, none, none, none, none, none, none, none] := ⟨_, rfl⟩
   refine Wr hR2 (xs := [V.str "", V.str "\npick 1", V.str "\n", V.str "\nis 0 2\npick 1"]) Pw (by rw [hPw]; exact ⟨Same.refl _, _, rfl⟩) (fun j σ H' pw => ?_) ?_ ?_
   ·rw [hPw] at pw
    exact pw.1 _ _ e3
   ·intro j y σ H4 hy pw
    rw [hPw] at pw
    obtain ⟨s4, o3, rfl⟩ := pw
    obtain ⟨b, hb, rfl⟩ : ∃ b : Str, b.length ≤ 20 ∧ y = V.str b := by
     have hq9 := List.mem_of_getElem? hy
     simp only [List.mem_cons, List.not_mem_nil, or_false] at hq9
     rcases hq9 with rfl | rfl | rfl | rfl
     ·exact ⟨_, by decide +kernel, rfl⟩
     ·exact ⟨_, by decide +kernel, rfl⟩
     ·exact ⟨_, by decide +kernel, rfl⟩
     ·exact ⟨_, by decide +kernel, rfl⟩
    have hob : one.length + b.length ≤ sizeLine := by rw [sizeLine_eq]; omega
    have hob2 : (one ++ b).length ≤ 900000 := by rw [eG]; omega
    push_cast [rdX]
    refine ⟨hob, one ++ b, rfl, hob2, fun v1 H5 s5 t5 => ⟨hob, one ++ b, rfl, hob2, fun v2 H6 s6 t6 => ?_⟩⟩
    refine ⟨_, _, fun _ => True, j6 (one ++ b), rfl, t5.same s6, t6, rE _, fun H7 s7 => ?_⟩
    push_cast
    rw [hPw]
    exact ⟨s4.trans (s5.trans (s6.trans s7)), _, rfl⟩
   ·intro σ H4 pw
    rw [hPw] at pw
    obtain ⟨s4, o3, rfl⟩ := pw
    show Pv (i + 1) _ _
    rw [hPv]
    exact ⟨s3.trans s4, _, _, rfl⟩
  ·intro σ H2 pv
   rw [hPv] at pv
   obtain ⟨s2, o2, o3, rfl⟩ := pv
   show k _ _
   subst hk
   have hS2 := (s1.trans s2).seq hS
   generalize H2 = H0 at hS2 ⊢
   clear s1 s2 e1 hPv hR
   refine aP fun k hk => ?_
   refine qp fun R hR => ?_
   push_cast [tH, rdX]
   refine ⟨_, .inl hS2, ?_⟩
   rw [List.length_map]
   have m6 : (0 : Int) ≤ 1 + (if (ns.length : Int) < 5 then (ns.length : Int) else 5) ∧ 1 + (if (ns.length : Int) < 5 then (ns.length : Int) else 5) ≤ 6 := by
    split <;> omega
   refine ⟨by omega, by omega, ?_⟩
   obtain ⟨Pv, hPv⟩ : ∃ Pv : Nat → L2.St → Hp → Prop, Pv = fun (i : Nat) σ H' => Same H0 H' ∧ ∃ o4 o5 o6 o7 o8 o9 o10, σ = [some (.ref a), some (.str odd), o2, o3, o4, o5, o6, o7, o8, o9, o10] := ⟨_, rfl⟩
   refine Dw hR Pv (by rw [hPv]; exact ⟨Same.refl _, none, none, none, none, none, none, none, rfl⟩) ?_ ?_
   ·intro i σ H1 hi pv
    rw [hPv] at pv
    obtain ⟨s1, o4, o5, o6, o7, o8, o9, o10, rfl⟩ := pv
    refine aP fun k2 hk2 => ?_
    push_cast
    refine ⟨a, ns, (0 : Int) + (i : Int), rfl, s1.seq hS2, by omega, by omega, fun p H2 hp s2 tp => ?_⟩
    push_cast
    subst hk2
    have hp0 : H0 p = none := s1.none hp
    refine aP fun k2 hk2 => ?_
    push_cast [rdX]
    refine ⟨p, 10, 0, rfl, tp, by decide, by decide, by decide, by decide, fun z => absurd z (by decide), fun r2 HC r20 r21 sC tpC => ?_⟩
    push_cast [rdX]
    refine ⟨p, 1 + r2, 0 + 2, rfl, tpC, by decide, by decide, by omega, by omega, fun l rs HD sD tpD trD hlen hok => ?_⟩
    have sxD : bU p H0 HD := (((s1.trans s2).x (p := p)).trans sC).trans sD
    have hrl : rs.length ≤ 10 := by omega
    have hok2 : ∀ (j : Nat) r, rs[j]? = some r → gF rs.length j r := fun j r hj => by rw [hlen]; exact hok j r hj
    have hsm : ∀ r ∈ rs, iT r := fun r hr => by
     obtain ⟨j, hj⟩ := List.mem_iff_getElem?.mp hr
     exact su (hok j r hj) (by omega) (by omega)
    have hne : rs ≠ [] := fun z => by rw [z] at hlen; simp at hlen; omega
    have htx := Ah hok (by omega) hrl
    have htold := Eh hok2 hne (by omega)
    subst hk2
    have trD0 := trD
    cases trD with
    | lst oD eD zD tsD =>
     rename_i xs
     have hxl := tsD.length
     rw [List.length_map] at hxl
     refine aP fun k2 hk2 => ?_
     push_cast [rdX]
     refine gC fun R2 hR2 => ?_
     push_cast [eD]
     obtain ⟨Pc, hPc⟩ : ∃ Pv : Nat → List V → L2.St → Hp → Prop, Pv = fun (i : Nat) acc τ H' => ∃ (o1 : Option V), Same HD H' ∧ acc = ((rs.take i).map jY).map V.str ∧ τ = [o1] := ⟨_, rfl⟩
     refine uc hR2 (xs := xs) (aQ zD) Pc (by rw [hPc]; exact ⟨none, Same.refl _, rfl, rfl⟩) ?_ ?_ ?_ ?_
     ·intro i acc τ H3 pc
      rw [hPc] at pc
      obtain ⟨_, _, rfl, _⟩ := pc
      rw [List.length_map, List.length_map]
      exact List.length_take_le _ _
     ·intro i acc τ H3 pc
      rw [hPc] at pc
      obtain ⟨_, s3, _⟩ := pc
      exact SqL.of (s3 _ _ eD)
     ·intro i x acc τ H3 hx pc
      rw [hPc] at pc
      obtain ⟨_, s3, rfl, rfl⟩ := pc
      obtain ⟨d, hd, td⟩ := (tsD.same s3).get hx
      rw [List.getElem?_map] at hd
      obtain ⟨r, hr1, rfl⟩ := Option.map_eq_some_iff.mp hd
      push_cast
      refine ⟨x, _, r, rfl, td, hsm r (List.mem_of_getElem? hr1), fun H4 s4 => ?_⟩
      rw [hPc]
      refine ⟨_, s3.trans s4, ?_, rfl⟩
      rw [take_snoc hr1, List.map_append, List.map_append]
      rfl
     ·intro acc τ H3 d pc hd
      rw [hPc] at pc
      obtain ⟨_, s3, rfl, rfl⟩ := pc
      rw [hxl, List.take_length]
      have s4 := s3.trans (au (o := HO.lst ((rs.map jY).map V.str)) hd)
      have e4 : upd H3 d (HO.lst ((rs.map jY).map V.str)) d = _ := aB
      generalize upd H3 d (HO.lst ((rs.map jY).map V.str)) = H4 at s4 e4 ⊢
      push_cast [rdX, e4]
      refine ⟨_, rfl, Ai hsm (by omega), ?_⟩
      show k2 [_, _, _, _, _, _, _, some (V.str (jP rs)), _, _, _] H4
      have tp4 := (tpD.same s4)
      have sx4 := sxD.trans s4.x
      have tr4 := trD0.same s4
      clear s3 e4 hPc hR2
      subst hk2
      refine aP fun k2 hk2 => ?_
      refine qp fun R3 hR3 => ?_
      push_cast [tH]
      refine ⟨by decide, by decide, ?_⟩
      obtain ⟨Pw, hPw⟩ : ∃ Pv : Nat → L2.St → Hp → Prop, Pv = fun (j : Nat) σ H' => bU p H4 H' ∧ cH H' p (20002 + 80 * (j : Int)) ∧ ∃ o8 o9 o10, σ = [some (.ref a), some (.str odd), o2, o3, some (.int (0 + (i : Int))), some (.ref p), some (.ref l), some (V.str (jP rs)), o8, o9, o10] := ⟨_, rfl⟩
      refine Dw hR3 Pw (by rw [hPw]; exact ⟨bU.refl _ _, tp4.le (by decide), _, _, _, rfl⟩) ?_ ?_
      ·intro j σ H5 hj pw
       rw [hPw] at pw
       obtain ⟨s5, tp5, o8, o9, o10, rfl⟩ := pw
       refine aP fun k3 hk3 => ?_
       push_cast
       refine ⟨p, jP rs, 20002 + 80 * (j : Int), rfl, tp5, by omega, by omega, by omega, fun z0 H6 s6 tp6 hz0 => ?_⟩
       subst hk3
       refine aP fun k3 hk3 => ?_
       refine qp fun R4 hR4 => ?_
       push_cast [tH, rdX]
       refine ⟨p, 4, 20002 + 80 * (j : Int) + 20, rfl, tp6, by omega, by decide, by decide, by decide, fun z => absurd z (by decide), fun mo H7 mo0 mo1 s7 tp7 => ⟨mo, rfl, ?_⟩⟩
       have hmo : (0 : Int) ≤ (if mo - 1 > 0 then mo - 1 else 0) ∧ (if mo - 1 > 0 then mo - 1 else 0) ≤ 2 := by split <;> omega
       refine ⟨by omega, by omega, ?_⟩
       have hmoN : (if mo - 1 > 0 then mo - 1 else 0).toNat ≤ 2 := by omega
       generalize (if mo - 1 > 0 then mo - 1 else 0).toNat = nm at hmoN ⊢
       have s67 := s5.trans (s6.trans s7)
       obtain ⟨Px, hPx⟩ : ∃ Pv : Nat → L2.St → Hp → Prop, Pv = fun (m : Nat) σ H' => ∃ (z : Str) (o10 : Option V), bU p H4 H' ∧ cH H' p (20002 + 80 * (j : Int) + 22 + 20 * (m : Int)) ∧ z.length + 2 ≤ 17166 * 4 ^ m ∧ σ = [some (.ref a), some (.str odd), o2, o3, some (.int (0 + (i : Int))), some (.ref p), some (.ref l), some (V.str (jP rs)), some (.int (0 + (j : Int))), some (.str z), o10] := ⟨_, rfl⟩
       refine Dw hR4 Px (by rw [hPx]; exact ⟨z0, _, s67, tp7.le (by show 20002 + 80 * (j : Int) + 20 + 2 ≤ 20002 + 80 * (j : Int) + 22 + 20 * ((0 : Nat) : Int); omega), by show z0.length + 2 ≤ 17166 * 1; omega, rfl⟩) ?_ ?_
       ·intro m σ H8 hm px
        rw [hPx] at px
        obtain ⟨z, o10, s8, tp8, hz, rfl⟩ := px
        have hp4 : (4 : Nat) ^ m ≤ 4 := by
         have : m = 0 ∨ m = 1 := by omega
         rcases this with rfl | rfl <;> decide
        have hp5 : (4 : Nat) ^ (m + 1) = 4 ^ m * 4 := Nat.pow_succ ..
        push_cast
        refine ⟨p, z, 20002 + 80 * (j : Int) + 22 + 20 * (m : Int), rfl, tp8, by omega, by omega, by omega, fun z2 H9 s9 tp9 hz2 => ?_⟩
        rw [hPx]
        refine ⟨z2, _, s8.trans s9, tp9.le (by show 20002 + 80 * (j : Int) + 22 + 20 * (m : Int) + 20 ≤ 20002 + 80 * (j : Int) + 22 + 20 * ((m + 1 : Nat) : Int); omega), by rw [hp5]; omega, rfl⟩
       ·intro σ H8 px
        rw [hPx] at px
        obtain ⟨z, o10, s8, tp8, hz, rfl⟩ := px
        have hp4 : (4 : Nat) ^ nm ≤ 16 := by
         have : nm = 0 ∨ nm = 1 ∨ nm = 2 := by omega
         rcases this with rfl | rfl | rfl <;> decide
        have hzl : z.length ≤ 300000 := by omega
        show k3 _ _
        subst hk3
        have endP : ∀ H', Same H8 H' → ∀ o9 o10, Pw (j + 1) [some (.ref a), some (.str odd), o2, o3, some (.int (0 + (i : Int))), some (.ref p), some (.ref l), some (V.str (jP rs)), some (.int (0 + (j : Int))), o9, o10] H' := fun H' s' o9 o10 => by
         rw [hPw]
         exact ⟨s8.trans s'.x, (tp8.same s').le (by show 20002 + 80 * (j : Int) + 22 + 20 * (nm : Int) ≤ 20002 + 80 * ((j + 1 : Nat) : Int); omega), _, _, _, rfl⟩
        push_cast [rdX]
        refine gC fun R5 hR5 => ?_
        obtain ⟨rl1, rl2⟩ := rT z
        push_cast [rdX]
        rw [show Txt.split z "\n" = rowsOf z from rfl]
        refine ⟨by decide, by rw [sizeLine_eq]; omega, aQ (by omega), fun l9 hl9 => ?_⟩
        have s9 := au (o := HO.lst ((rowsOf z).map V.str)) hl9
        have e9 : upd H8 l9 (HO.lst ((rowsOf z).map V.str)) l9 = _ := aB
        generalize upd H8 l9 (HO.lst ((rowsOf z).map V.str)) = H9 at s9 e9 ⊢
        try push_cast [e9]
        obtain ⟨Pc, hPc⟩ : ∃ Pv : Nat → List V → L2.St → Hp → Prop, Pv = fun (m : Nat) acc τ H' => ∃ (bs : List Bool) (o1 : Option V), Same H9 H' ∧ acc = bs.map V.bl ∧ bs.length = m ∧ τ = [o1] := ⟨_, rfl⟩
        refine uc hR5 (xs := (rowsOf z).map V.str) (aQ (by rw [List.length_map]; omega)) Pc (by rw [hPc]; exact ⟨[], none, Same.refl _, rfl, rfl, rfl⟩) ?_ ?_ ?_ ?_
        ·intro m acc τ H10 pc
         rw [hPc] at pc
         obtain ⟨bs, _, _, rfl, hbl, _⟩ := pc
         rw [List.length_map]
         omega
        ·intro m acc τ H10 pc
         rw [hPc] at pc
         obtain ⟨_, _, s10, _⟩ := pc
         exact SqL.of (s10 _ _ e9)
        ·intro m x acc τ H10 hx pc
         rw [hPc] at pc
         obtain ⟨bs, _, s10, rfl, hbl, rfl⟩ := pc
         rw [List.getElem?_map] at hx
         obtain ⟨r, hr1, rfl⟩ := Option.map_eq_some_iff.mp hx
         have hrl2 := rl2 r (List.mem_of_getElem? hr1)
         have hwl := oU r
         obtain ⟨w0, ts, hws⟩ := j9 r
         have htl : ∀ t ∈ w0 :: ts, t.length ≤ sizeLine := fun t ht => by
          rw [← hws, qd] at ht
          have := kI r 32 t ht
          rw [sizeLine_eq]
          omega
         push_cast [rdX]
         refine ⟨by decide, by rw [sizeLine_eq]; omega, aQ (by omega), fun l11 hl11 => ?_⟩
         rw [hws]
         have s11 := au (o := HO.lst ((w0 :: ts).map V.str)) hl11
         refine ⟨l11, w0, ts, rfl, aB, htl, fun bb H12 s12 => ?_⟩
         rw [hPc]
         exact ⟨bs ++ [bb], _, s10.trans (s11.trans s12), by rw [List.map_append]; rfl, by rw [List.length_append, List.length_singleton, hbl], rfl⟩
        ·intro acc τ H10 d10 pc hd10
         rw [hPc] at pc
         obtain ⟨bs, _, s10, rfl, hbl, rfl⟩ := pc
         have s11 := s9.trans (s10.trans (au (o := HO.lst (bs.map V.bl)) hd10))
         have e11 : upd H10 d10 (HO.lst (bs.map V.bl)) d10 = _ := aB
         generalize upd H10 d10 (HO.lst (bs.map V.bl)) = H11 at s11 e11 ⊢
         push_cast [e11]
         refine ⟨bs, rfl, ?_⟩
         split
         ·refine ⟨z, rfl, by omega, fun v1 H12 s12 t12 => ⟨z, rfl, by omega, fun v2 H13 s13 t13 => ?_⟩⟩
          refine ⟨_, _, fun _ => True, j6 z, rfl, t12.same s13, t13, rE _, fun H14 s14 => ?_⟩
          push_cast
          exact endP _ (s11.trans (s12.trans (s13.trans s14))) _ _
         ·exact endP _ s11 _ _
      ·intro σ H5 pw
       rw [hPw] at pw
       obtain ⟨s5, tp5, o8, o9, o10, rfl⟩ := pw
       show k2 _ _
       subst hk2
       push_cast [rdX]
       refine ⟨jP rs, rfl, by omega, fun v6 H6 s6 t6 => ?_⟩
       rw [htold] at t6
       have tr6 := (tr4.vf s5).same s6
       have hdep : (PyData.list (rs.map nF)).depth < 5 := by
        rw [← htold]
        exact rE _
       refine ⟨_, _, fun _ => True, _, rfl, t6, tr6.keep (ok' := fun _ => True) (fun a o _ e => ⟨trivial, e⟩), hdep, fun H7 s7 => ?_⟩
       push_cast
       rw [hPv]
       exact ⟨nu (sx4.trans (s5.trans (s6.trans s7).x)) hp0, _, _, _, _, _, _, _, rfl⟩
   ·intro σ H1 pv
    rw [hPv] at pv
    obtain ⟨s1, o4, o5, o6, o7, o8, o9, o10, rfl⟩ := pv
    show k _ _
    subst hk
    exact q _
end
theorem all_mk {l : PySem.W.OpenLaw} {w : World} {K : PySem.W.Frag} {h : Heap} {mg : Str → Option Value} {fa : Addr} {f1 : Addr} {od1 an1 : Option Addr} {sl1 : Array (Option Value)} {oc1 kV1 dc1 pm1 cd1 ct1 : Value} {f2 : Addr} {od2 an2 : Option Addr} {sl2 : Array (Option Value)} {oc2 kV2 dc2 pm2 cd2 ct2 : Value} {f3 : Addr} {od3 an3 : Option Addr} {sl3 : Array (Option Value)} {oc3 kV3 dc3 pm3 cd3 ct3 : Value} {f4 : Addr} {od4 an4 : Option Addr} {sl4 : Array (Option Value)} {oc4 kV4 dc4 pm4 cd4 ct4 : Value} {f5 : Addr} {od5 an5 : Option Addr} {sl5 : Array (Option Value)} {oc5 kV5 dc5 pm5 cd5 ct5 : Value} {f6 : Addr} {od6 an6 : Option Addr} {sl6 : Array (Option Value)} {oc6 kV6 dc6 pm6 cd6 ct6 : Value} {f7 : Addr} {od7 an7 : Option Addr} {sl7 : Array (Option Value)} {oc7 kV7 dc7 pm7 cd7 ct7 : Value} {f8 : Addr} {od8 an8 : Option Addr} {sl8 : Array (Option Value)} {oc8 kV8 dc8 pm8 cd8 ct8 : Value} {f9 : Addr} {od9 an9 : Option Addr} {sl9 : Array (Option Value)} {oc9 kV9 dc9 pm9 cd9 ct9 : Value} {f10 : Addr} {od10 an10 : Option Addr} {sl10 : Array (Option Value)} {oc10 kV10 dc10 pm10 cd10 ct10 : Value} {f11 : Addr} {od11 an11 : Option Addr} {sl11 : Array (Option Value)} {oc11 kV11 dc11 pm11 cd11 ct11 : Value} {f12 : Addr} {od12 an12 : Option Addr} {sl12 : Array (Option Value)} {oc12 kV12 dc12 pm12 cd12 ct12 : Value} {f13 : Addr} {od13 an13 : Option Addr} {sl13 : Array (Option Value)} {oc13 kV13 dc13 pm13 cd13 ct13 : Value} {f14 : Addr} {od14 an14 : Option Addr} {sl14 : Array (Option Value)} {oc14 kV14 dc14 pm14 cd14 ct14 : Value} {f15 : Addr} {od15 an15 : Option Addr} {sl15 : Array (Option Value)} {oc15 kV15 dc15 pm15 cd15 ct15 : Value} {f16 : Addr} {od16 an16 : Option Addr} {sl16 : Array (Option Value)} {oc16 kV16 dc16 pm16 cd16 ct16 : Value} {f17 : Addr} {od17 an17 : Option Addr} {sl17 : Array (Option Value)} {oc17 kV17 dc17 pm17 cd17 ct17 : Value} {f18 : Addr} {od18 an18 : Option Addr} {sl18 : Array (Option Value)} {oc18 kV18 dc18 pm18 cd18 ct18 : Value} {f19 : Addr} {od19 an19 : Option Addr} {sl19 : Array (Option Value)} {oc19 kV19 dc19 pm19 cd19 ct19 : Value} {f20 : Addr} {od20 an20 : Option Addr} {sl20 : Array (Option Value)} {oc20 kV20 dc20 pm20 cd20 ct20 : Value} {f21 : Addr} {od21 an21 : Option Addr} {sl21 : Array (Option Value)} {oc21 kV21 dc21 pm21 cd21 ct21 : Value} {f22 : Addr} {od22 an22 : Option Addr} {sl22 : Array (Option Value)} {oc22 kV22 dc22 pm22 cd22 ct22 : Value} {f23 : Addr} {od23 an23 : Option Addr} {sl23 : Array (Option Value)} {oc23 kV23 dc23 pm23 cd23 ct23 : Value} {ckFigures : Tok} {ckMostFigures : Tok} {ckMostWide : Tok} {nmB qB : Str} {bsB : List Value} {snB : List Str} {subB : List Value} {abB : Bool} {colB : Option Bool} {ddB : Option Addr} {b0 b1 b2 b3 b5 : Option Value} {nmD qD : Str} {bsD : List Value} {hdD : Bool} {snD : List Str} {subD : List Value} {abD : Bool} {colD : Option Bool} {ddD : Option Addr} {e0 e1 e2 e3 e5 : Option Value} {nidD : String} {aTwice aBeyond aTooNarrow aNoStretch aBadText aCaseError NB ND fI : Addr} {odI anI : Option Addr} {slI : Array (Option Value)} {kVI dcI pmI cdI ctI : Value} (X : K.In h) (G : h.Ns mainGlobals mg) (hfa : mg "law" = some (.ref fa))
  (a1 : PySem.W.nsIn K mainGlobals "is_number" = some (some (.ref f1))) (l1 : K.lookup f1 = some ⟨oc1, od1, .func (PySem.W.fnOf "is_number" "is_number" (bH cY) (bx cY) (ak cY) .none kV1 dc1 pm1 an1 cd1 ct1), sl1⟩) (c1 : PySem.W.codeIn K cd1 "is_number" = true) (k1 : PySem.W.keepIn K (.ref f1) = true)
  (a2 : PySem.W.nsIn K mainGlobals "is_goal" = some (some (.ref f2))) (l2 : K.lookup f2 = some ⟨oc2, od2, .func (PySem.W.fnOf "is_goal" "is_goal" (bH fP) (bx fP) (ak fP) .none kV2 dc2 pm2 an2 cd2 ct2), sl2⟩) (c2 : PySem.W.codeIn K cd2 "is_goal" = true) (k2 : PySem.W.keepIn K (.ref f2) = true)
  (a3 : PySem.W.nsIn K mainGlobals "is_table" = some (some (.ref f3))) (l3 : K.lookup f3 = some ⟨oc3, od3, .func (PySem.W.fnOf "is_table" "is_table" (bH cN) (bx cN) (ak cN) .none kV3 dc3 pm3 an3 cd3 ct3), sl3⟩) (c3 : PySem.W.codeIn K cd3 "is_table" = true) (k3 : PySem.W.keepIn K (.ref f3) = true)
  (a4 : PySem.W.nsIn K mainGlobals "is_mask" = some (some (.ref f4))) (l4 : K.lookup f4 = some ⟨oc4, od4, .func (PySem.W.fnOf "is_mask" "is_mask" (bH gj) (bx gj) (ak gj) .none kV4 dc4 pm4 an4 cd4 ct4), sl4⟩) (c4 : PySem.W.codeIn K cd4 "is_mask" = true) (k4 : PySem.W.keepIn K (.ref f4) = true)
  (a5 : PySem.W.nsIn K mainGlobals "is_row" = some (some (.ref f5))) (l5 : K.lookup f5 = some ⟨oc5, od5, .func (PySem.W.fnOf "is_row" "is_row" (bH dN) (bx dN) (ak dN) .none kV5 dc5 pm5 an5 cd5 ct5), sl5⟩) (c5 : PySem.W.codeIn K cd5 "is_row" = true) (k5 : PySem.W.keepIn K (.ref f5) = true)
  (a6 : PySem.W.nsIn K mainGlobals "number_from" = some (some (.ref f6))) (l6 : K.lookup f6 = some ⟨oc6, od6, .func (PySem.W.fnOf "number_from" "number_from" (bH bJ) (bx bJ) (ak bJ) .none kV6 dc6 pm6 an6 cd6 ct6), sl6⟩) (c6 : PySem.W.codeIn K cd6 "number_from" = true) (k6 : PySem.W.keepIn K (.ref f6) = true)
  (a7 : PySem.W.nsIn K mainGlobals "numbers_from" = some (some (.ref f7))) (l7 : K.lookup f7 = some ⟨oc7, od7, .func (PySem.W.fnOf "numbers_from" "numbers_from" (bH bV) (bx bV) (ak bV) .none kV7 dc7 pm7 an7 cd7 ct7), sl7⟩) (c7 : PySem.W.codeIn K cd7 "numbers_from" = true) (k7 : PySem.W.keepIn K (.ref f7) = true)
  (a8 : PySem.W.nsIn K mainGlobals "row_from" = some (some (.ref f8))) (l8 : K.lookup f8 = some ⟨oc8, od8, .func (PySem.W.fnOf "row_from" "row_from" (bH dM) (bx dM) (ak dM) .none kV8 dc8 pm8 an8 cd8 ct8), sl8⟩) (c8 : PySem.W.codeIn K cd8 "row_from" = true) (k8 : PySem.W.keepIn K (.ref f8) = true)
  (a9 : PySem.W.nsIn K mainGlobals "rows_from" = some (some (.ref f9))) (l9 : K.lookup f9 = some ⟨oc9, od9, .func (PySem.W.fnOf "rows_from" "rows_from" (bH bN) (bx bN) (ak bN) .none kV9 dc9 pm9 an9 cd9 ct9), sl9⟩) (c9 : PySem.W.codeIn K cd9 "rows_from" = true) (k9 : PySem.W.keepIn K (.ref f9) = true)
  (a10 : PySem.W.nsIn K mainGlobals "_law_cell_at" = some (some (.ref f10))) (l10 : K.lookup f10 = some ⟨oc10, od10, .func (PySem.W.fnOf "_law_cell_at" "_law_cell_at" (bH eN) (bx eN) (ak eN) .none kV10 dc10 pm10 an10 cd10 ct10), sl10⟩) (c10 : PySem.W.codeIn K cd10 "_law_cell_at" = true) (k10 : PySem.W.keepIn K (.ref f10) = true)
  (a11 : PySem.W.nsIn K mainGlobals "_law_tape" = some (some (.ref f11))) (l11 : K.lookup f11 = some ⟨oc11, od11, .func (PySem.W.fnOf "_law_tape" "_law_tape" (bH fZ) (bx fZ) (ak fZ) .none kV11 dc11 pm11 an11 cd11 ct11), sl11⟩) (c11 : PySem.W.codeIn K cd11 "_law_tape" = true) (k11 : PySem.W.keepIn K (.ref f11) = true)
  (a12 : PySem.W.nsIn K mainGlobals "_law_take" = some (some (.ref f12))) (l12 : K.lookup f12 = some ⟨oc12, od12, .func (PySem.W.fnOf "_law_take" "_law_take" (bH gh) (bx gh) (ak gh) .none kV12 dc12 pm12 an12 cd12 ct12), sl12⟩) (c12 : PySem.W.codeIn K cd12 "_law_take" = true) (k12 : PySem.W.keepIn K (.ref f12) = true)
  (a13 : PySem.W.nsIn K mainGlobals "_law_same" = some (some (.ref f13))) (l13 : K.lookup f13 = some ⟨oc13, od13, .func (PySem.W.fnOf "_law_same" "_law_same" (bH dJ) (bx dJ) (ak dJ) .none kV13 dc13 pm13 an13 cd13 ct13), sl13⟩) (c13 : PySem.W.codeIn K cd13 "_law_same" = true) (k13 : PySem.W.keepIn K (.ref f13) = true)
  (a14 : PySem.W.nsIn K mainGlobals "_law_word" = some (some (.ref f14))) (l14 : K.lookup f14 = some ⟨oc14, od14, .func (PySem.W.fnOf "_law_word" "_law_word" (bH d9) (bx d9) (ak d9) .none kV14 dc14 pm14 an14 cd14 ct14), sl14⟩) (c14 : PySem.W.codeIn K cd14 "_law_word" = true) (k14 : PySem.W.keepIn K (.ref f14) = true)
  (a15 : PySem.W.nsIn K mainGlobals "_law_rows" = some (some (.ref f15))) (l15 : K.lookup f15 = some ⟨oc15, od15, .func (PySem.W.fnOf "_law_rows" "_law_rows" (bH cU) (bx cU) (ak cU) .none kV15 dc15 pm15 an15 cd15 ct15), sl15⟩) (c15 : PySem.W.codeIn K cd15 "_law_rows" = true) (k15 : PySem.W.keepIn K (.ref f15) = true)
  (a16 : PySem.W.nsIn K mainGlobals "_law_word_number" = some (some (.ref f16))) (l16 : K.lookup f16 = some ⟨oc16, od16, .func (PySem.W.fnOf "_law_word_number" "_law_word_number" (bH bF) (bx bF) (ak bF) .none kV16 dc16 pm16 an16 cd16 ct16), sl16⟩) (c16 : PySem.W.codeIn K cd16 "_law_word_number" = true) (k16 : PySem.W.keepIn K (.ref f16) = true)
  (a17 : PySem.W.nsIn K mainGlobals "_law_other_text" = some (some (.ref f17))) (l17 : K.lookup f17 = some ⟨oc17, od17, .func (PySem.W.fnOf "_law_other_text" "_law_other_text" (bH aW) (bx aW) (ak aW) .none kV17 dc17 pm17 an17 cd17 ct17), sl17⟩) (c17 : PySem.W.codeIn K cd17 "_law_other_text" = true) (k17 : PySem.W.keepIn K (.ref f17) = true)
  (a18 : PySem.W.nsIn K mainGlobals "_law_row_text" = some (some (.ref f18))) (l18 : K.lookup f18 = some ⟨oc18, od18, .func (PySem.W.fnOf "_law_row_text" "_law_row_text" (bH cX) (bx cX) (ak cX) .none kV18 dc18 pm18 an18 cd18 ct18), sl18⟩) (c18 : PySem.W.codeIn K cd18 "_law_row_text" = true) (k18 : PySem.W.keepIn K (.ref f18) = true)
  (a19 : PySem.W.nsIn K mainGlobals "_law_told" = some (some (.ref f19))) (l19 : K.lookup f19 = some ⟨oc19, od19, .func (PySem.W.fnOf "_law_told" "_law_told" (bH fQ) (bx fQ) (ak fQ) .none kV19 dc19 pm19 an19 cd19 ct19), sl19⟩) (c19 : PySem.W.codeIn K cd19 "_law_told" = true) (k19 : PySem.W.keepIn K (.ref f19) = true)
  (a20 : PySem.W.nsIn K mainGlobals "_law_row_read" = some (some (.ref f20))) (l20 : K.lookup f20 = some ⟨oc20, od20, .func (PySem.W.fnOf "_law_row_read" "_law_row_read" (bH bR) (bx bR) (ak bR) .none kV20 dc20 pm20 an20 cd20 ct20), sl20⟩) (c20 : PySem.W.codeIn K cd20 "_law_row_read" = true) (k20 : PySem.W.keepIn K (.ref f20) = true)
  (a21 : PySem.W.nsIn K mainGlobals "_law_due" = some (some (.ref f21))) (l21 : K.lookup f21 = some ⟨oc21, od21, .func (PySem.W.fnOf "_law_due" "_law_due" (bH gU) (bx gU) (ak gU) .none kV21 dc21 pm21 an21 cd21 ct21), sl21⟩) (c21 : PySem.W.codeIn K cd21 "_law_due" = true) (k21 : PySem.W.keepIn K (.ref f21) = true)
  (a22 : PySem.W.nsIn K mainGlobals "_law_is_far" = some (some (.ref f22))) (l22 : K.lookup f22 = some ⟨oc22, od22, .func (PySem.W.fnOf "_law_is_far" "_law_is_far" (bH fO) (bx fO) (ak fO) .none kV22 dc22 pm22 an22 cd22 ct22), sl22⟩) (c22 : PySem.W.codeIn K cd22 "_law_is_far" = true) (k22 : PySem.W.keepIn K (.ref f22) = true)
  (a23 : PySem.W.nsIn K mainGlobals "law" = some (some (.ref f23))) (l23 : K.lookup f23 = some ⟨oc23, od23, .func (PySem.W.fnOf "law" "law" (bH eH) (bx eH) (ak eH) .none kV23 dc23 pm23 an23 cd23 ct23), sl23⟩) (c23 : PySem.W.codeIn K cd23 "law" = true) (k23 : PySem.W.keepIn K (.ref f23) = true)
  (z1 : PySem.W.nsIn K mainGlobals "ValueError" = some none)
  (z2 : PySem.W.nsIn K mainGlobals "abs" = some none)
  (z3 : PySem.W.nsIn K mainGlobals "all" = some none)
  (z4 : PySem.W.nsIn K mainGlobals "any" = some none)
  (z5 : PySem.W.nsIn K mainGlobals "bool" = some none)
  (z6 : PySem.W.nsIn K mainGlobals "enumerate" = some none)
  (z7 : PySem.W.nsIn K mainGlobals "int" = some none)
  (z8 : PySem.W.nsIn K mainGlobals "isinstance" = some none)
  (z9 : PySem.W.nsIn K mainGlobals "len" = some none)
  (z10 : PySem.W.nsIn K mainGlobals "list" = some none)
  (z11 : PySem.W.nsIn K mainGlobals "max" = some none)
  (z12 : PySem.W.nsIn K mainGlobals "min" = some none)
  (z13 : PySem.W.nsIn K mainGlobals "range" = some none)
  (z14 : PySem.W.nsIn K mainGlobals "str" = some none)
  (z15 : PySem.W.nsIn K mainGlobals "tuple" = some none)
  (z16 : PySem.W.nsIn K mainGlobals "zip" = some none)
  (w1 : PySem.W.nsIn K mainGlobals "FIGURES" = some (some (.str "0123456789" ckFigures)))
  (w2 : PySem.W.nsIn K mainGlobals "MOST_FIGURES" = some (some (.int 20 ckMostFigures)))
  (w3 : PySem.W.nsIn K mainGlobals "MOST_WIDE" = some (some (.int 64 ckMostWide)))
  (xTwice : PySem.W.nsIn K mainGlobals "Twice" = some (some (.ref aTwice)))
  (xBeyond : PySem.W.nsIn K mainGlobals "Beyond" = some (some (.ref aBeyond)))
  (xTooNarrow : PySem.W.nsIn K mainGlobals "TooNarrow" = some (some (.ref aTooNarrow)))
  (xNoStretch : PySem.W.nsIn K mainGlobals "NoStretch" = some (some (.ref aNoStretch)))
  (xBadText : PySem.W.nsIn K mainGlobals "BadText" = some (some (.ref aBadText)))
  (xCaseError : PySem.W.nsIn K mainGlobals "CaseError" = some (some (.ref aCaseError)))
  (y1 : K.lookup aBadText = some (excClassObj nmB qB aBadText NB bsB (.ref aCaseError :: vbm) true snB subB abB colB ddB b0 b1 b2 b3 b5 "ValueError.__new__"))
  (y2 : K.lookup aCaseError = some (excClassObj nmD qD aCaseError ND bsD vbm hdD snD subD abD colD ddD e0 e1 e2 e3 e5 nidD))
  (y3 : PySem.W.nsIn K NB "__init__" = some (some (.ref fI)))
  (y4 : K.lookup fI = some ⟨.type "function", odI, .func (PySem.W.fnOf "__init__" "BadText.__init__" (bH jF) (bx jF) (ak jF) .none kVI dcI pmI anI cdI ctI), slI⟩)
  (y5 : PySem.W.codeIn K cdI "BadText.__init__" = true)
  (y6 : PySem.W.keepIn K (.ref fI) = true)
  (y7 : PySem.W.findIn K (.ref aBadText) "__setattr__" = some (some (.builtin "object.__setattr__")))
  (y8 : PySem.W.findIn K (.ref aBadText) "__getattribute__" = some (some (.builtin "BaseException.__getattribute__")))
  (y9 : PySem.W.findIn K (.ref aBadText) "__getattr__" = some none)
  (y10 : PySem.W.findIn K (.ref aBadText) "row" = some none)
  (y11 : PySem.W.readsIn K aCaseError (.type "type") = true)
  (y12 : PySem.W.specialIn K (.ref aCaseError) "__getattribute__" = some (some (.builtin "type.__getattribute__")))
  (y13 : PySem.W.findCls K (.ref aCaseError) (.type "type") "__init__" = some (.val (.builtin "ValueError.__init__")))
  (y14 : PySem.W.nsOkIn K NB = true)
  (y15 : PySem.W.tailIn K vbm (.ref aCaseError :: vbm) = true)
  (y16 : PySem.W.findIn K (.ref aBadText) "__class__" = some (some (.builtin "object.__class__")))
  (y17 : PySem.W.specialIn K (.builtin "object.__class__") "__get__" = some (some (.builtin "getset_descriptor.__get__")))
  (y18 : PySem.W.takesIn K (.builtin "object.__class__") = some true)
  (y19 : PySem.W.mroIn K aBadText (.type "object") = some true)
  (y20 : PySem.W.mroIn K aBadText (.type "BaseException") = some true)
  (y21 : (PySem.W.clsIn K aBadText).isSome = true)
  (z_1 : PySem.W.kitOne K (.ref aBadText) (.ref aTwice) = some false)
  (z_2 : PySem.W.kitOne K (.ref aBadText) (.ref aBeyond) = some false)
  (z_3 : PySem.W.kitOne K (.ref aBadText) (.ref aTooNarrow) = some false)
  (z_4 : PySem.W.kitOne K (.ref aBadText) (.ref aNoStretch) = some false)
  (z_5 : PySem.W.kitOne K (.ref aBadText) (.ref aBadText) = some true)
  (z_6 : PySem.W.kitOne K (.ref aBadText) (.type "ValueError") = some true) :
  ∃ fd : FuncData, (∀ (s : Shared) (v : Value), BindsTo s fd ⟨[v], []⟩ [("_law_script", v)]) ∧ ∀ base : Heap, K.In base → base.Ns mainGlobals mg → dH l.prog w K mg base CX0 63 fa fd ["_law_script"] (Cq K) := by
 have e := hfa.symm.trans (PySem.W.mg_of X G a23)
 cases e
 have DIsNumber : gP K mg "is_number" cY ["thing"] _ _ := ⟨aY (st := cY) l1 c1 k1, (aY (st := cY) l1 c1 k1).binds (ps := ["thing"]) fun _ _ _ _ _ _ us hl => by obtain ⟨z0, rfl⟩ := ln1 hl; rfl, PySem.W.mg_of X G a1⟩
 have DIsGoal : gP K mg "is_goal" fP ["thing", "own", "many"] _ _ := ⟨aY (st := fP) l2 c2 k2, (aY (st := fP) l2 c2 k2).binds (ps := ["thing", "own", "many"]) fun _ _ _ _ _ _ us hl => by obtain ⟨z0, z1, z2, rfl⟩ := ln3 hl; rfl, PySem.W.mg_of X G a2⟩
 have DIsTable : gP K mg "is_table" cN ["thing", "own", "many"] _ _ := ⟨aY (st := cN) l3 c3 k3, (aY (st := cN) l3 c3 k3).binds (ps := ["thing", "own", "many"]) fun _ _ _ _ _ _ us hl => by obtain ⟨z0, z1, z2, rfl⟩ := ln3 hl; rfl, PySem.W.mg_of X G a3⟩
 have DIsMask : gP K mg "is_mask" gj ["wide", "bits"] _ _ := ⟨aY (st := gj) l4 c4 k4, (aY (st := gj) l4 c4 k4).binds (ps := ["wide", "bits"]) fun _ _ _ _ _ _ us hl => by obtain ⟨z0, z1, rfl⟩ := ln2 hl; rfl, PySem.W.mg_of X G a4⟩
 have DIsRow : gP K mg "is_row" dN ["thing", "own", "many"] _ _ := ⟨aY (st := dN) l5 c5 k5, (aY (st := dN) l5 c5 k5).binds (ps := ["thing", "own", "many"]) fun _ _ _ _ _ _ us hl => by obtain ⟨z0, z1, z2, rfl⟩ := ln3 hl; rfl, PySem.W.mg_of X G a5⟩
 have DNumberFrom : gP K mg "number_from" bJ ["word"] _ _ := ⟨aY (st := bJ) l6 c6 k6, (aY (st := bJ) l6 c6 k6).binds (ps := ["word"]) fun _ _ _ _ _ _ us hl => by obtain ⟨z0, rfl⟩ := ln1 hl; rfl, PySem.W.mg_of X G a6⟩
 have DNumbersFrom : gP K mg "numbers_from" bV ["words"] _ _ := ⟨aY (st := bV) l7 c7 k7, (aY (st := bV) l7 c7 k7).binds (ps := ["words"]) fun _ _ _ _ _ _ us hl => by obtain ⟨z0, rfl⟩ := ln1 hl; rfl, PySem.W.mg_of X G a7⟩
 have DRowFrom : gP K mg "row_from" dM ["text"] _ _ := ⟨aY (st := dM) l8 c8 k8, (aY (st := dM) l8 c8 k8).binds (ps := ["text"]) fun _ _ _ _ _ _ us hl => by obtain ⟨z0, rfl⟩ := ln1 hl; rfl, PySem.W.mg_of X G a8⟩
 have DRowsFrom : gP K mg "rows_from" bN ["text"] _ _ := ⟨aY (st := bN) l9 c9 k9, (aY (st := bN) l9 c9 k9).binds (ps := ["text"]) fun _ _ _ _ _ _ us hl => by obtain ⟨z0, rfl⟩ := ln1 hl; rfl, PySem.W.mg_of X G a9⟩
 have DZCellAt : gP K mg "_law_cell_at" eN ["_law_script", "_law_k"] _ _ := ⟨aY (st := eN) l10 c10 k10, (aY (st := eN) l10 c10 k10).binds (ps := ["_law_script", "_law_k"]) fun _ _ _ _ _ _ us hl => by obtain ⟨z0, z1, rfl⟩ := ln2 hl; rfl, PySem.W.mg_of X G a10⟩
 have DZTape : gP K mg "_law_tape" fZ ["_law_script", "_law_k"] _ _ := ⟨aY (st := fZ) l11 c11 k11, (aY (st := fZ) l11 c11 k11).binds (ps := ["_law_script", "_law_k"]) fun _ _ _ _ _ _ us hl => by obtain ⟨z0, z1, rfl⟩ := ln2 hl; rfl, PySem.W.mg_of X G a11⟩
 have DZTake : gP K mg "_law_take" gh ["_law_tape_here", "_law_many"] _ _ := ⟨aY (st := gh) l12 c12 k12, (aY (st := gh) l12 c12 k12).binds (ps := ["_law_tape_here", "_law_many"]) fun _ _ _ _ _ _ us hl => by obtain ⟨z0, z1, rfl⟩ := ln2 hl; rfl, PySem.W.mg_of X G a12⟩
 have DZSame : gP K mg "_law_same" dJ ["_law_found", "_law_due_here"] _ _ := ⟨aY (st := dJ) l13 c13 k13, (aY (st := dJ) l13 c13 k13).binds (ps := ["_law_found", "_law_due_here"]) fun _ _ _ _ _ _ us hl => by obtain ⟨z0, z1, rfl⟩ := ln2 hl; rfl, PySem.W.mg_of X G a13⟩
 have DZWord : gP K mg "_law_word" d9 ["_law_caught"] _ _ := ⟨aY (st := d9) l14 c14 k14, (aY (st := d9) l14 c14 k14).binds (ps := ["_law_caught"]) fun _ _ _ _ _ _ us hl => by obtain ⟨z0, rfl⟩ := ln1 hl; rfl, PySem.W.mg_of X G a14⟩
 have DZRows : gP K mg "_law_rows" cU ["_law_tape_here", "_law_many"] _ _ := ⟨aY (st := cU) l15 c15 k15, (aY (st := cU) l15 c15 k15).binds (ps := ["_law_tape_here", "_law_many"]) fun _ _ _ _ _ _ us hl => by obtain ⟨z0, z1, rfl⟩ := ln2 hl; rfl, PySem.W.mg_of X G a15⟩
 have DZWordNumber : gP K mg "_law_word_number" bF ["_law_word_here"] _ _ := ⟨aY (st := bF) l16 c16 k16, (aY (st := bF) l16 c16 k16).binds (ps := ["_law_word_here"]) fun _ _ _ _ _ _ us hl => by obtain ⟨z0, rfl⟩ := ln1 hl; rfl, PySem.W.mg_of X G a16⟩
 have DZOtherText : gP K mg "_law_other_text" aW ["_law_tape_here", "_law_text"] _ _ := ⟨aY (st := aW) l17 c17 k17, (aY (st := aW) l17 c17 k17).binds (ps := ["_law_tape_here", "_law_text"]) fun _ _ _ _ _ _ us hl => by obtain ⟨z0, z1, rfl⟩ := ln2 hl; rfl, PySem.W.mg_of X G a17⟩
 have DZRowText : gP K mg "_law_row_text" cX ["_law_row"] _ _ := ⟨aY (st := cX) l18 c18 k18, (aY (st := cX) l18 c18 k18).binds (ps := ["_law_row"]) fun _ _ _ _ _ _ us hl => by obtain ⟨z0, rfl⟩ := ln1 hl; rfl, PySem.W.mg_of X G a18⟩
 have DZTold : gP K mg "_law_told" fQ ["_law_text"] _ _ := ⟨aY (st := fQ) l19 c19 k19, (aY (st := fQ) l19 c19 k19).binds (ps := ["_law_text"]) fun _ _ _ _ _ _ us hl => by obtain ⟨z0, rfl⟩ := ln1 hl; rfl, PySem.W.mg_of X G a19⟩
 have DZRowRead : gP K mg "_law_row_read" bR ["_law_words", "_law_at", "_law_many"] _ _ := ⟨aY (st := bR) l20 c20 k20, (aY (st := bR) l20 c20 k20).binds (ps := ["_law_words", "_law_at", "_law_many"]) fun _ _ _ _ _ _ us hl => by obtain ⟨z0, z1, z2, rfl⟩ := ln3 hl; rfl, PySem.W.mg_of X G a20⟩
 have DZDue : gP K mg "_law_due" gU ["_law_text"] _ _ := ⟨aY (st := gU) l21 c21 k21, (aY (st := gU) l21 c21 k21).binds (ps := ["_law_text"]) fun _ _ _ _ _ _ us hl => by obtain ⟨z0, rfl⟩ := ln1 hl; rfl, PySem.W.mg_of X G a21⟩
 have DZIsFar : gP K mg "_law_is_far" fO ["_law_words"] _ _ := ⟨aY (st := fO) l22 c22 k22, (aY (st := fO) l22 c22 k22).binds (ps := ["_law_words"]) fun _ _ _ _ _ _ us hl => by obtain ⟨z0, rfl⟩ := ln1 hl; rfl, PySem.W.mg_of X G a22⟩
 have DLaw : gP K mg "law" eH ["_law_script"] _ _ := ⟨aY (st := eH) l23 c23 k23, (aY (st := eH) l23 c23 k23).binds (ps := ["_law_script"]) fun _ _ _ _ _ _ us hl => by obtain ⟨z0, rfl⟩ := ln1 hl; rfl, PySem.W.mg_of X G a23⟩
 have cgFigures : mg "FIGURES" = some (.str "0123456789" ckFigures) := PySem.W.mg_of X G w1
 have cgMostFigures : mg "MOST_FIGURES" = some (.int 20 ckMostFigures) := PySem.W.mg_of X G w2
 have cgMostWide : mg "MOST_WIDE" = some (.int 64 ckMostWide) := PySem.W.mg_of X G w3
 have hB : ∀ x : Str, x ∈ BLs → mg x = none := by
  intro x hx
  replace hx : x ∈ (["ValueError", "abs", "all", "any", "bool", "enumerate", "int", "isinstance", "len", "list", "max", "min", "range", "str", "tuple", "zip"] : List Str) := hx
  simp only [List.mem_cons, List.not_mem_nil, or_false] at hx
  rcases hx with rfl | rfl | rfl | rfl | rfl | rfl | rfl | rfl | rfl | rfl | rfl | rfl | rfl | rfl | rfl | rfl
  ·exact PySem.W.mg_none_of X G z1
  ·exact PySem.W.mg_none_of X G z2
  ·exact PySem.W.mg_none_of X G z3
  ·exact PySem.W.mg_none_of X G z4
  ·exact PySem.W.mg_none_of X G z5
  ·exact PySem.W.mg_none_of X G z6
  ·exact PySem.W.mg_none_of X G z7
  ·exact PySem.W.mg_none_of X G z8
  ·exact PySem.W.mg_none_of X G z9
  ·exact PySem.W.mg_none_of X G z10
  ·exact PySem.W.mg_none_of X G z11
  ·exact PySem.W.mg_none_of X G z12
  ·exact PySem.W.mg_none_of X G z13
  ·exact PySem.W.mg_none_of X G z14
  ·exact PySem.W.mg_none_of X G z15
  ·exact PySem.W.mg_none_of X G z16
 refine ⟨PySem.W.fnOf "law" "law" (bH eH) (bx eH) (ak eH) .none kV23 dc23 pm23 an23 cd23 ct23, fun s v => .of_eq rfl, fun base kb nb => ?_⟩
 have CCell := DZCellAt.cal (Qg (P := l.prog) (w := w) (base := base) hB DZCellAt.fn)
 have CTape := DZTape.cal (Qa hB CCell DZTape.fn)
 have CTake0 := DZTake.cal (Ei (P := l.prog) (w := w) (mg := mg) (base := base))
 have CTake1 := DZTake.cal (CZ (n := 0) hB (by decide) CTake0 DZTake.fn)
 have CTake2 := DZTake.cal (CZ (n := 1) hB (by decide) CTake1 DZTake.fn)
 have CSames : ∀ n, Cal l.prog w K mg base "_law_same" n ["_law_found", "_law_due_here"] (lJ n) := fun n => by
  induction n with
  | zero => exact DZSame.cal (same_none (P := l.prog) (w := w) (mg := mg) (base := base))
  | succ n ih => exact DZSame.cal (Qc hB ih DZSame.fn)
 have CNum := DIsNumber.cal (J1 (P := l.prog) (w := w) (base := base) hB DIsNumber.fn)
 have CGoal := DIsGoal.cal (Fz hB CNum DIsGoal.fn)
 have CMask := DIsMask.cal (Fy (P := l.prog) (w := w) (base := base) hB cgMostWide DIsMask.fn)
 have CTable := DIsTable.cal (Bb hB CNum CGoal DIsTable.fn)
 have CRow := DIsRow.cal (J0 hB CNum CGoal CMask CTable DIsRow.fn)
 have CNF := DNumberFrom.cal (Qe (P := l.prog) (w := w) (base := base) hB cgFigures cgMostFigures DNumberFrom.fn)
 have CNsF := DNumbersFrom.cal (JZ hB CNF DNumbersFrom.fn)
 have CWN := DZWordNumber.cal (Ay (P := l.prog) (w := w) (base := base) hB DZWordNumber.fn)
 have CRead := DZRowRead.cal (Az hB CWN DZRowRead.fn)
 have CDue := DZDue.cal (Uu hB CRead DZDue.fn)
 have XC : lX K aBadText aCaseError NB fI := ⟨⟨_, _, _, _, _, _, _, _, _, _, _, _, _, y1⟩, y15, y14, y3, y7, y8, y9⟩
 have XD : XBase K aCaseError := ⟨y11, y12, y13⟩
 have XT : Rq K aCaseError ND := ⟨⟨_, _, _, _, _, _, _, _, _, _, _, _, _, _, _, y2⟩⟩
 have Z : XIs K aBadText := ⟨y8, y9, y16, y17, y18, y19, y20, y21⟩
 have cD := PySem.W.mg_of X G xCaseError
 have FI := aY (st := jF) y4 y5 y6
 have CInit := J3 (P := l.prog) (w := w) (base := base) XC XD cD y10 FI
 have XB : Vq l.prog w K mg base "BadText" aBadText aCaseError 1 ["self", "row"] (qQ aBadText "row") := ⟨NB, fI, _, XC, CInit, FI.binds (ps := ["self", "row"]) fun _ _ _ _ _ _ us hl => match us, hl with | [_, _], _ => rfl, ⟨_, y4, rfl⟩, PySem.W.mg_of X G xBadText⟩
 have CRF := DRowFrom.cal (Ba hB CNsF DRowFrom.fn)
 have CRsF := DRowsFrom.W9 (yJ hB XB CRF CRow DRowsFrom.fn)
 have CWord := DZWord.cal (PX (P := l.prog) (w := w) (base := base) hB XC Z (PySem.W.mg_of X G xTwice) (PySem.W.mg_of X G xBeyond) (PySem.W.mg_of X G xTooNarrow) (PySem.W.mg_of X G xNoStretch) (PySem.W.mg_of X G xBadText) z_1 z_2 z_3 z_4 z_5 z_6 y10 DZWord.fn)
 have CTold := DZTold.cal (P0 hB XC XT cD CRsF CWord DZTold.fn)
 have COther := DZOtherText.cal (JX hB CTake2 DZOtherText.fn)
 have CLRT := DZRowText.cal (yK (P := l.prog) (w := w) (base := base) hB DZRowText.fn)
 have CFar := DZIsFar.cal (J2 hB CWN DZIsFar.fn)
 have CLRows := DZRows.cal (Qd hB CTake2 DZRows.fn)
 exact Ut hB CTake2 CTape CLRows CLRT CTold CDue (CSames 5) COther CFar DLaw.fn
theorem walk {l : PySem.W.OpenLaw} {q : Program} {loose : List Str} {XP : (Str → Option Value) → Heap → Prop} {YP : World → Heap → Prop} {d : DefRec} {K : Params → PySem.W.Frag} (hn : l.most = some 63) (hdf : d.params.defaults = [])
  (hY : ∀ (w : World) (h : Heap), YP w h → (K w.params).In h)
  (F : ∀ (w : World) (mg : Str → Option Value) (fa : Addr) (h : Heap), (K w.params).In h → h.Ns mainGlobals mg → mg d.name = some (.ref fa) →
   ∃ fd : FuncData, (∀ (s : Shared) (u : Value), BindsTo s fd ⟨[u], []⟩ [("_law_script", u)]) ∧ ∀ base : Heap, (K w.params).In base → base.Ns mainGlobals mg → dH l.prog w (K w.params) mg base CX0 63 fa fd ["_law_script"] (Cq (K w.params))) :
  PySem.W.WalkO q loose XP YP l.row.toRowW d [] (fun f vs => PySem.call f vs) :=
 L2.Mp (n := 63) (k := 63) (x := "_law_script") (CX := fun _ => CX0) (sp := fun w => Cq (K w.params)) hn (by decide) hdf ⟨rfl, by decide, by decide, rfl⟩ hY F (fun _ _ a ns hl _ hS => ⟨a, ns, rfl, hS, hl, fun _ => rfl⟩) fun _ _ _ _ _ z => z
end K49
namespace PySem.W.Fast
theorem tw10013805939671596677:True:=⟨⟩
theorem tw10095636646473748876:True:=⟨⟩
theorem tw10105325447889038582:True:=⟨⟩
theorem tw10114791515143982005:True:=⟨⟩
theorem tw1017208275385449981:True:=⟨⟩
theorem tw10263943341730718756:True:=⟨⟩
theorem tw10291206156900258344:True:=⟨⟩
theorem tw10321754356829516215:True:=⟨⟩
theorem tw10348923480882433476:True:=⟨⟩
theorem tw10527366014990019725:True:=⟨⟩
theorem tw10606025456857725756:True:=⟨⟩
theorem tw10722032566634444261:True:=⟨⟩
theorem tw1074655739361972816:True:=⟨⟩
theorem tw1080474115982211940:True:=⟨⟩
theorem tw10820547725690216607:True:=⟨⟩
theorem tw10875824931690701577:True:=⟨⟩
theorem tw10877285938568165350:True:=⟨⟩
theorem tw10924633103375305621:True:=⟨⟩
theorem tw10936426570657541470:True:=⟨⟩
theorem tw11061466201252276869:True:=⟨⟩
theorem tw11084606250665879824:True:=⟨⟩
theorem tw11126644238136409805:True:=⟨⟩
theorem tw11233345266035131297:True:=⟨⟩
theorem tw11248307930190469286:True:=⟨⟩
theorem tw11291602201432484305:True:=⟨⟩
theorem tw11305321518476719498:True:=⟨⟩
theorem tw11391447244648857656:True:=⟨⟩
theorem tw11398506159164439508:True:=⟨⟩
theorem tw11439415674744163708:True:=⟨⟩
theorem tw11550657688860918068:True:=⟨⟩
theorem tw11592843689673926826:True:=⟨⟩
theorem tw1159740168152276784:True:=⟨⟩
theorem tw11676110860418318813:True:=⟨⟩
theorem tw11687379577362415997:True:=⟨⟩
theorem tw11881441267847722659:True:=⟨⟩
theorem tw11906459511863607725:True:=⟨⟩
theorem tw11955226562065549769:True:=⟨⟩
theorem tw12083764042504780743:True:=⟨⟩
theorem tw12105893538960285232:True:=⟨⟩
theorem tw1213627229772675886:True:=⟨⟩
theorem tw12183567914093019368:True:=⟨⟩
theorem tw12214620772970726899:True:=⟨⟩
theorem tw12220040347190960741:True:=⟨⟩
theorem tw12270099539441230630:True:=⟨⟩
theorem tw12307912911297251989:True:=⟨⟩
theorem tw12376175895602136122:True:=⟨⟩
theorem tw12378800170420952794:True:=⟨⟩
theorem tw12384601403255949821:True:=⟨⟩
theorem tw1288102291589472362:True:=⟨⟩
theorem tw1290772738018964481:True:=⟨⟩
theorem tw12966860063201372570:True:=⟨⟩
theorem tw12978112964526717119:True:=⟨⟩
theorem tw12990077258582269951:True:=⟨⟩
theorem tw13015352026584621866:True:=⟨⟩
theorem tw13039628581457470400:True:=⟨⟩
theorem tw13040695634441430151:True:=⟨⟩
theorem tw13051856256625676407:True:=⟨⟩
theorem tw13195330573074016488:True:=⟨⟩
theorem tw1322215410718937601:True:=⟨⟩
theorem tw13265047368346720594:True:=⟨⟩
theorem tw13499274297826002313:True:=⟨⟩
theorem tw13584427691859078122:True:=⟨⟩
theorem tw13652275738240949094:True:=⟨⟩
theorem tw13652464095671186601:True:=⟨⟩
theorem tw13681862727101104194:True:=⟨⟩
theorem tw13719144162534297348:True:=⟨⟩
theorem tw13724179438791729948:True:=⟨⟩
theorem tw13745286484404739663:True:=⟨⟩
theorem tw13786941755252159324:True:=⟨⟩
theorem tw13787167060200742213:True:=⟨⟩
theorem tw13787729547422964124:True:=⟨⟩
theorem tw13935651692353804478:True:=⟨⟩
theorem tw13946942794599082117:True:=⟨⟩
theorem tw1405752072009130598:True:=⟨⟩
theorem tw14116510076778155472:True:=⟨⟩
theorem tw14129136177720235751:True:=⟨⟩
theorem tw14158191334135950147:True:=⟨⟩
theorem tw141956301310572100:True:=⟨⟩
theorem tw14207956222771581052:True:=⟨⟩
theorem tw14222637344444084014:True:=⟨⟩
theorem tw14302128867593920849:True:=⟨⟩
theorem tw14310588187329149445:True:=⟨⟩
theorem tw14324099318307528555:True:=⟨⟩
theorem tw1433847247035929601:True:=⟨⟩
theorem tw14357227737074780714:True:=⟨⟩
theorem tw14361311360290786547:True:=⟨⟩
theorem tw14361610124021973613:True:=⟨⟩
theorem tw14393484737323049038:True:=⟨⟩
theorem tw14419279963098419039:True:=⟨⟩
theorem tw14584422132035697921:True:=⟨⟩
theorem tw14604951430348620400:True:=⟨⟩
theorem tw14635521296016974526:True:=⟨⟩
theorem tw14861264177004760948:True:=⟨⟩
theorem tw14917467832643466182:True:=⟨⟩
theorem tw14992577741501639632:True:=⟨⟩
theorem tw15025525995732729125:True:=⟨⟩
theorem tw15157434996379984262:True:=⟨⟩
theorem tw15226439488953009400:True:=⟨⟩
theorem tw15269835968481835159:True:=⟨⟩
theorem tw15270035170676084939:True:=⟨⟩
theorem tw15285371346238917001:True:=⟨⟩
theorem tw15373917267698167236:True:=⟨⟩
theorem tw15502542962463343717:True:=⟨⟩
theorem tw15522302482641337127:True:=⟨⟩
theorem tw15535800867372525906:True:=⟨⟩
theorem tw15551318703503717239:True:=⟨⟩
theorem tw15698551631615429330:True:=⟨⟩
theorem tw15704677360904416116:True:=⟨⟩
theorem tw15762315562685098169:True:=⟨⟩
theorem tw15772150840604933338:True:=⟨⟩
theorem tw1578755852461102825:True:=⟨⟩
theorem tw15824226853152838597:True:=⟨⟩
theorem tw15824794897031034984:True:=⟨⟩
theorem tw15834678856867623357:True:=⟨⟩
theorem tw15843505098372631810:True:=⟨⟩
theorem tw15859398604180830093:True:=⟨⟩
theorem tw15932636296669012399:True:=⟨⟩
theorem tw16104480460187495067:True:=⟨⟩
theorem tw16401969577261871648:True:=⟨⟩
theorem tw1643233821666300321:True:=⟨⟩
theorem tw16472701855506328457:True:=⟨⟩
theorem tw16497803853715058893:True:=⟨⟩
theorem tw16506796028330192027:True:=⟨⟩
theorem tw16650479938850034154:True:=⟨⟩
theorem tw16887365304335408090:True:=⟨⟩
theorem tw16965040775975768137:True:=⟨⟩
theorem tw16983818006090210269:True:=⟨⟩
theorem tw1712458241879291703:True:=⟨⟩
theorem tw17166317341676987995:True:=⟨⟩
theorem tw17173189020304004560:True:=⟨⟩
theorem tw17289464421237691350:True:=⟨⟩
theorem tw17294703127771298110:True:=⟨⟩
theorem tw17316797043595437072:True:=⟨⟩
theorem tw17355901432801536890:True:=⟨⟩
theorem tw17420775788339261082:True:=⟨⟩
theorem tw1742246567266780038:True:=⟨⟩
theorem tw17425398550117884740:True:=⟨⟩
theorem tw1749534992594837583:True:=⟨⟩
theorem tw1753789098076502305:True:=⟨⟩
theorem tw1756155595668562395:True:=⟨⟩
theorem tw17648464846228784059:True:=⟨⟩
theorem tw17686896370861097542:True:=⟨⟩
theorem tw17819094925086819946:True:=⟨⟩
theorem tw17957386606639481950:True:=⟨⟩
theorem tw18072380852394098099:True:=⟨⟩
theorem tw18316061472314135381:True:=⟨⟩
theorem tw18407060563581521205:True:=⟨⟩
theorem tw18421459136068097548:True:=⟨⟩
theorem tw18421834037481815351:True:=⟨⟩
theorem tw1870027255939097826:True:=⟨⟩
theorem tw187603628890471517:True:=⟨⟩
theorem tw1882943618830315183:True:=⟨⟩
theorem tw1994748168855953359:True:=⟨⟩
theorem tw2088137625307383666:True:=⟨⟩
theorem tw2140463006736003269:True:=⟨⟩
theorem tw2181788665961984657:True:=⟨⟩
theorem tw2276374171966473206:True:=⟨⟩
theorem tw2303343216258762942:True:=⟨⟩
theorem tw2439840988036389924:True:=⟨⟩
theorem tw2455107845252830858:True:=⟨⟩
theorem tw249259893510411979:True:=⟨⟩
theorem tw2538797485785592350:True:=⟨⟩
theorem tw2548242355123056313:True:=⟨⟩
theorem tw2576538680200465296:True:=⟨⟩
theorem tw2701435221565405403:True:=⟨⟩
theorem tw275983256454932075:True:=⟨⟩
theorem tw2816531067607870265:True:=⟨⟩
theorem tw2862970384243084114:True:=⟨⟩
theorem tw2874310276606362188:True:=⟨⟩
theorem tw2950290067181550551:True:=⟨⟩
theorem tw3162510226321125924:True:=⟨⟩
theorem tw3207544143135506040:True:=⟨⟩
theorem tw3363299682914907780:True:=⟨⟩
theorem tw3433216530249035731:True:=⟨⟩
theorem tw3490351069412170121:True:=⟨⟩
theorem tw3548326304506176917:True:=⟨⟩
theorem tw3569420679145116258:True:=⟨⟩
theorem tw3576737428307563859:True:=⟨⟩
theorem tw3711658831194181189:True:=⟨⟩
theorem tw3892139044096516736:True:=⟨⟩
theorem tw4075947891710622669:True:=⟨⟩
theorem tw4101614934300337084:True:=⟨⟩
theorem tw4394556289733156089:True:=⟨⟩
theorem tw4597277017623284189:True:=⟨⟩
theorem tw4642867353515719741:True:=⟨⟩
theorem tw4766745066269164009:True:=⟨⟩
theorem tw4963699937187423606:True:=⟨⟩
theorem tw5008545678830000675:True:=⟨⟩
theorem tw5063576192309361761:True:=⟨⟩
theorem tw5542781262341950892:True:=⟨⟩
theorem tw5592536929487372298:True:=⟨⟩
theorem tw5594949878920093568:True:=⟨⟩
theorem tw5667145614158686369:True:=⟨⟩
theorem tw5823828931031191707:True:=⟨⟩
theorem tw5847009041786858646:True:=⟨⟩
theorem tw6057009623589706387:True:=⟨⟩
theorem tw60626087249242191:True:=⟨⟩
theorem tw6272414092714171853:True:=⟨⟩
theorem tw6439560637731489487:True:=⟨⟩
theorem tw6468547027579550427:True:=⟨⟩
theorem tw652789158816370202:True:=⟨⟩
theorem tw6567760303347463473:True:=⟨⟩
theorem tw657946424312374596:True:=⟨⟩
theorem tw6610824885847596194:True:=⟨⟩
theorem tw6755938728209040691:True:=⟨⟩
theorem tw6770637245446918193:True:=⟨⟩
theorem tw6783878133235533352:True:=⟨⟩
theorem tw6794964803450405618:True:=⟨⟩
theorem tw6823315093111497451:True:=⟨⟩
theorem tw6860237256919564964:True:=⟨⟩
theorem tw7002575873764692079:True:=⟨⟩
theorem tw7021728984767460069:True:=⟨⟩
theorem tw708887707834810148:True:=⟨⟩
theorem tw7110946896428885923:True:=⟨⟩
theorem tw7176288405357103599:True:=⟨⟩
theorem tw7216345769394290287:True:=⟨⟩
theorem tw7276347463605063437:True:=⟨⟩
theorem tw7301125428691032178:True:=⟨⟩
theorem tw7351904447112492998:True:=⟨⟩
theorem tw7385754325382549209:True:=⟨⟩
theorem tw7476488369326166892:True:=⟨⟩
theorem tw7622236338681424271:True:=⟨⟩
theorem tw7671729681594015863:True:=⟨⟩
theorem tw7711268900764737658:True:=⟨⟩
theorem tw7786999295924518505:True:=⟨⟩
theorem tw7963029153102542720:True:=⟨⟩
theorem tw8106799196744058769:True:=⟨⟩
theorem tw8228817247967393745:True:=⟨⟩
theorem tw8261689186596663408:True:=⟨⟩
theorem tw8268299330658906403:True:=⟨⟩
theorem tw8386787645465495978:True:=⟨⟩
theorem tw8418013088034757995:True:=⟨⟩
theorem tw8581889268737887144:True:=⟨⟩
theorem tw8590910518852875679:True:=⟨⟩
theorem tw8612851913789704166:True:=⟨⟩
theorem tw8783978322770103575:True:=⟨⟩
theorem tw8819799224935693613:True:=⟨⟩
theorem tw8836967546579075537:True:=⟨⟩
theorem tw886757375078458602:True:=⟨⟩
theorem tw9073277759342872068:True:=⟨⟩
theorem tw9082537313790537849:True:=⟨⟩
theorem tw9119653003178356388:True:=⟨⟩
theorem tw9131692484698899471:True:=⟨⟩
theorem tw916358959291794914:True:=⟨⟩
theorem tw9382712269299384526:True:=⟨⟩
theorem tw939829569071145004:True:=⟨⟩
theorem tw9512221844277579052:True:=⟨⟩
theorem tw9590522032939283543:True:=⟨⟩
theorem tw9784941308741465473:True:=⟨⟩
end PySem.W.Fast
open PySem PySem.W PyProof.Rows
set_option maxRecDepth 100000 in
set_option maxHeartbeats 0 in
theorem PySem.Challenge.cw_caseways_k49_whole_rows_texts_spoilt_holds : PySem.Challenge.rw_caseways_k49_whole_rows_texts_spoilt.Holds := by
 w_on; o_law; k_head; (case hw => w_witness2)
 k_fill
 refine K49.walk (l := PySem.Challenge.rw_caseways_k49_whole_rows_texts_spoilt) rfl rfl (fun w h Y => PySem.W.kIn_of Y) ?F
 case F =>
  intro w mg fa h KX G hmg
  refine' K49.all_mk KX G hmg ?a1 ?l1 ?c1 ?k1 ?a2 ?l2 ?c2 ?k2 ?a3 ?l3 ?c3 ?k3 ?a4 ?l4 ?c4 ?k4 ?a5 ?l5 ?c5 ?k5 ?a6 ?l6 ?c6 ?k6 ?a7 ?l7 ?c7 ?k7 ?a8 ?l8 ?c8 ?k8 ?a9 ?l9 ?c9 ?k9 ?a10 ?l10 ?c10 ?k10 ?a11 ?l11 ?c11 ?k11 ?a12 ?l12 ?c12 ?k12 ?a13 ?l13 ?c13 ?k13 ?a14 ?l14 ?c14 ?k14 ?a15 ?l15 ?c15 ?k15 ?a16 ?l16 ?c16 ?k16 ?a17 ?l17 ?c17 ?k17 ?a18 ?l18 ?c18 ?k18 ?a19 ?l19 ?c19 ?k19 ?a20 ?l20 ?c20 ?k20 ?a21 ?l21 ?c21 ?k21 ?a22 ?l22 ?c22 ?k22 ?a23 ?l23 ?c23 ?k23 ?z1 ?z2 ?z3 ?z4 ?z5 ?z6 ?z7 ?z8 ?z9 ?z10 ?z11 ?z12 ?z13 ?z14 ?z15 ?z16 ?w1 ?w2 ?w3 ?xTwice ?xBeyond ?xTooNarrow ?xNoStretch ?xBadText ?xCaseError ?y1 ?y2 ?y3 ?y4 ?y5 ?y6 ?y7 ?y8 ?y9 ?y10 ?y11 ?y12 ?y13 ?y14 ?y15 ?y16 ?y17 ?y18 ?y19 ?y20 ?y21 ?z_1 ?z_2 ?z_3 ?z_4 ?z_5 ?z_6
  (case a1 => k_is)
  (case l1 => k_is)
  (case c1 => k_is)
  (case k1 => k_is)
  (case a2 => k_is)
  (case l2 => k_is)
  (case c2 => k_is)
  (case k2 => k_is)
  (case a3 => k_is)
  (case l3 => k_is)
  (case c3 => k_is)
  (case k3 => k_is)
  (case a4 => k_is)
  (case l4 => k_is)
  (case c4 => k_is)
  (case k4 => k_is)
  (case a5 => k_is)
  (case l5 => k_is)
  (case c5 => k_is)
  (case k5 => k_is)
  (case a6 => k_is)
  (case l6 => k_is)
  (case c6 => k_is)
  (case k6 => k_is)
  (case a7 => k_is)
  (case l7 => k_is)
  (case c7 => k_is)
  (case k7 => k_is)
  (case a8 => k_is)
  (case l8 => k_is)
  (case c8 => k_is)
  (case k8 => k_is)
  (case a9 => k_is)
  (case l9 => k_is)
  (case c9 => k_is)
  (case k9 => k_is)
  (case a10 => k_is)
  (case l10 => k_is)
  (case c10 => k_is)
  (case k10 => k_is)
  (case a11 => k_is)
  (case l11 => k_is)
  (case c11 => k_is)
  (case k11 => k_is)
  (case a12 => k_is)
  (case l12 => k_is)
  (case c12 => k_is)
  (case k12 => k_is)
  (case a13 => k_is)
  (case l13 => k_is)
  (case c13 => k_is)
  (case k13 => k_is)
  (case a14 => k_is)
  (case l14 => k_is)
  (case c14 => k_is)
  (case k14 => k_is)
  (case a15 => k_is)
  (case l15 => k_is)
  (case c15 => k_is)
  (case k15 => k_is)
  (case a16 => k_is)
  (case l16 => k_is)
  (case c16 => k_is)
  (case k16 => k_is)
  (case a17 => k_is)
  (case l17 => k_is)
  (case c17 => k_is)
  (case k17 => k_is)
  (case a18 => k_is)
  (case l18 => k_is)
  (case c18 => k_is)
  (case k18 => k_is)
  (case a19 => k_is)
  (case l19 => k_is)
  (case c19 => k_is)
  (case k19 => k_is)
  (case a20 => k_is)
  (case l20 => k_is)
  (case c20 => k_is)
  (case k20 => k_is)
  (case a21 => k_is)
  (case l21 => k_is)
  (case c21 => k_is)
  (case k21 => k_is)
  (case a22 => k_is)
  (case l22 => k_is)
  (case c22 => k_is)
  (case k22 => k_is)
  (case a23 => k_is)
  (case l23 => k_is)
  (case c23 => k_is)
  (case k23 => k_is)
  (case z1 => k_is)
  (case z2 => k_is)
  (case z3 => k_is)
  (case z4 => k_is)
  (case z5 => k_is)
  (case z6 => k_is)
  (case z7 => k_is)
  (case z8 => k_is)
  (case z9 => k_is)
  (case z10 => k_is)
  (case z11 => k_is)
  (case z12 => k_is)
  (case z13 => k_is)
  (case z14 => k_is)
  (case z15 => k_is)
  (case z16 => k_is)
  (case w1 => k_is)
  (case w2 => k_is)
  (case w3 => k_is)
  (case xTwice => first | k_is | rfl | (with_unfolding_all rfl) | decide +kernel)
  (case xBeyond => first | k_is | rfl | (with_unfolding_all rfl) | decide +kernel)
  (case xTooNarrow => first | k_is | rfl | (with_unfolding_all rfl) | decide +kernel)
  (case xNoStretch => first | k_is | rfl | (with_unfolding_all rfl) | decide +kernel)
  (case xBadText => first | k_is | rfl | (with_unfolding_all rfl) | decide +kernel)
  (case xCaseError => first | k_is | rfl | (with_unfolding_all rfl) | decide +kernel)
  (case y1 => first | k_is | rfl | (with_unfolding_all rfl) | decide +kernel)
  (case y2 => first | k_is | rfl | (with_unfolding_all rfl) | decide +kernel)
  (case y3 => first | k_is | rfl | (with_unfolding_all rfl) | decide +kernel)
  (case y4 => first | k_is | rfl | (with_unfolding_all rfl) | decide +kernel)
  (case y5 => first | k_is | rfl | (with_unfolding_all rfl) | decide +kernel)
  (case y6 => first | k_is | rfl | (with_unfolding_all rfl) | decide +kernel)
  (case y7 => first | k_is | rfl | (with_unfolding_all rfl) | decide +kernel)
  (case y8 => first | k_is | rfl | (with_unfolding_all rfl) | decide +kernel)
  (case y9 => first | k_is | rfl | (with_unfolding_all rfl) | decide +kernel)
  (case y10 => first | k_is | rfl | (with_unfolding_all rfl) | decide +kernel)
  (case y11 => first | k_is | rfl | (with_unfolding_all rfl) | decide +kernel)
  (case y12 => first | k_is | rfl | (with_unfolding_all rfl) | decide +kernel)
  (case y13 => first | k_is | rfl | (with_unfolding_all rfl) | decide +kernel)
  (case y14 => first | k_is | rfl | (with_unfolding_all rfl) | decide +kernel)
  (case y15 => first | k_is | rfl | (with_unfolding_all rfl) | decide +kernel)
  (case y16 => first | k_is | rfl | (with_unfolding_all rfl) | decide +kernel)
  (case y17 => first | k_is | rfl | (with_unfolding_all rfl) | decide +kernel)
  (case y18 => first | k_is | rfl | (with_unfolding_all rfl) | decide +kernel)
  (case y19 => first | k_is | rfl | (with_unfolding_all rfl) | decide +kernel)
  (case y20 => first | k_is | rfl | (with_unfolding_all rfl) | decide +kernel)
  (case y21 => first | k_is | rfl | (with_unfolding_all rfl) | decide +kernel)
  (case z_1 => first | k_is | rfl | (with_unfolding_all rfl) | decide +kernel)
  (case z_2 => first | k_is | rfl | (with_unfolding_all rfl) | decide +kernel)
  (case z_3 => first | k_is | rfl | (with_unfolding_all rfl) | decide +kernel)
  (case z_4 => first | k_is | rfl | (with_unfolding_all rfl) | decide +kernel)
  (case z_5 => first | k_is | rfl | (with_unfolding_all rfl) | decide +kernel)
  (case z_6 => first | k_is | rfl | (with_unfolding_all rfl) | decide +kernel)
#print axioms PySem.Challenge.cw_caseways_k49_whole_rows_texts_spoilt_holds
