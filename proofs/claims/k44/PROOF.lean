import PyProof.Rows.All
import Wide.All
import OpenK.AllK
import Wide.FinOn
import Lean
import PyProof.EqAt
import PyProof.EqKinds
import PyProof.TupleCall
import PySem.Challenge.RW_caseways_k44_rows_counted_and_weighed
set_option Elab.async false
set_option linter.all false
set_option maxRecDepth 100000
namespace L2
open PySem PySem.Spec PyProof.Rows
abbrev Key := Sum Int Str
def keyIs : Key → Value → Bool
  | .inl k, v => Value.isInt k v
  | .inr x, v => Value.isStrOf x v
def keyH (w : World) : Key → Int
  | .inl k => hashInt k
  | .inr x => hashStr w x
theorem keyIs_shape : ∀ {k : Key} {v : Value}, keyIs k v = true → (∃ i t, k = Sum.inl i ∧ v = Value.int i t) ∨ (∃ x t, k = Sum.inr x ∧ v = Value.str x t)
  | .inl i, v, h => by
    obtain ⟨t, e⟩ := Value.isInt_shape (k := i) (v := v) h
    exact .inl ⟨i, t, rfl, e⟩
  | .inr x, v, h => by
    obtain ⟨t, e⟩ := Value.isStrOf_shape (x := x) (v := v) h
    exact .inr ⟨x, t, rfl, e⟩
theorem keyIs_int (i : Int) (t : Tok) : keyIs (.inl i) (.int i t) = true := by simp [keyIs, Value.isInt]
theorem keyIs_str (x : Str) (t : Tok) : keyIs (.inr x) (.str x t) = true := by simp [keyIs, Value.isStrOf]
theorem key_ll (a b : Int) : decide ((Sum.inl a : Key) = Sum.inl b) = (a == b) := by
  by_cases e : a = b
  · subst e; simp
  · have h : ¬ (Sum.inl a : Key) = Sum.inl b := fun q => e (Sum.inl.inj q)
    rw [decide_eq_false h]
    exact (beq_eq_false_iff_ne.mpr e).symm
theorem key_rr (a b : Str) : decide ((Sum.inr a : Key) = Sum.inr b) = decide (a = b) := by
  by_cases e : a = b
  · subst e; simp
  · have h : ¬ (Sum.inr a : Key) = Sum.inr b := fun q => e (Sum.inr.inj q)
    rw [decide_eq_false h, decide_eq_false e]
theorem key_lr (a : Int) (b : Str) : decide ((Sum.inl a : Key) = Sum.inr b) = false := decide_eq_false (fun q => nomatch q)
theorem key_rl (a : Str) (b : Int) : decide ((Sum.inr a : Key) = Sum.inl b) = false := decide_eq_false (fun q => nomatch q)
def mixKind (prog : Program) (w : World) : PySem.KeyKind prog w Key where
  is := keyIs
  hash := keyH w
  inj := fun v a b ha hb => by
    rcases keyIs_shape ha with ⟨i, t, rfl, rfl⟩ | ⟨x, t, rfl, rfl⟩
    · rcases keyIs_shape hb with ⟨j, u, rfl, e⟩ | ⟨y, u, rfl, e⟩
      · injection e with e1 _; rw [e1]
      · exact nomatch e
    · rcases keyIs_shape hb with ⟨j, u, rfl, e⟩ | ⟨y, u, rfl, e⟩
      · exact nomatch e
      · injection e with e1 _; rw [e1]
  byValue := fun k v h => by
    rcases keyIs_shape h with ⟨i, t, rfl, rfl⟩ | ⟨x, t, rfl, rfl⟩ <;> rfl
  pyHash := fun hv h => by
    rcases keyIs_shape hv with ⟨i, t, rfl, rfl⟩ | ⟨x, t, rfl, rfl⟩
    · exact wpAny_pyHash_int h
    · exact wpAny_pyHash_str h
  eqBool := fun hu hv h => by
    rcases keyIs_shape hu with ⟨i, t, rfl, rfl⟩ | ⟨x, t, rfl, rfl⟩
    · rcases keyIs_shape hv with ⟨j, u, rfl, rfl⟩ | ⟨y, u, rfl, rfl⟩
      · rw [key_ll] at h; exact wpAny_eqBool_int h
      · rw [key_lr] at h; exact SeqAt.EqAt.int_str i t y u _ _ _ _ h
    · rcases keyIs_shape hv with ⟨j, u, rfl, rfl⟩ | ⟨y, u, rfl, rfl⟩
      · rw [key_rl] at h; exact SeqAt.EqAt.str_int x t j u _ _ _ _ h
      · rw [key_rr] at h; exact wpAny_eqBool_str h
  «strs» := fun k x t v h => by
    rcases keyIs_shape h with ⟨i, u, rfl, e⟩ | ⟨y, u, rfl, e⟩
    · exact nomatch e
    · injection e with e1 _
      subst e1
      cases v <;> rfl
theorem mixKind_int (prog : Program) (w : World) (i : Int) (t : Tok) : (mixKind prog w).is (.inl i) (.int i t) = true := keyIs_int i t
theorem mixKind_str (prog : Program) (w : World) (x : Str) (t : Tok) : (mixKind prog w).is (.inr x) (.str x t) = true := keyIs_str x t
end L2
namespace L2
open PySem PySem.Spec PyProof.Rows
inductive V where
  | non | bl (b : Bool) | int (i : Int) | str (x : Str) | byt (b : Array UInt8) | flt (b : UInt64) | ref (a : Addr) | ty (n : String)
  deriving DecidableEq
def RelV : V → Value → Prop
  | .non, u => u = Value.none
  | .bl b, u => u = Value.bool b
  | .int i, u => ∃ t, u = Value.int i t
  | .str x, u => ∃ t, u = Value.str x t
  | .byt b, u => ∃ t, u = Value.bytes b t
  | .flt b, u => ∃ t, u = Value.float b t
  | .ref a, u => u = Value.ref a
  | .ty n, u => u = Value.type n
abbrev Vals : List V → List Value → Prop := Paired RelV
theorem Vals.length {xs : List V} {us : List Value} (r : Vals xs us) : xs.length = us.length := Paired.length r
theorem Vals.get : ∀ {xs : List V} {us : List Value} {i : Nat} {x : V}, Vals xs us → xs[i]? = some x → ∃ u, us[i]? = some u ∧ RelV x u
  | _, _, _, _, .nil, e => by simp at e
  | _, _, 0, _, .cons r _, e => by simp at e; subst e; exact ⟨_, rfl, r⟩
  | _, _, i + 1, x, .cons _ t, e => by
    obtain ⟨u, h1, h2⟩ := Vals.get (i := i) (x := x) t (by simpa using e)
    exact ⟨u, by simpa using h1, h2⟩
theorem Vals.set {x : V} {u : Value} (r : RelV x u) : ∀ {xs : List V} {us : List Value} (i : Nat), Vals xs us → Vals (xs.set i x) (us.set i u)
  | _, _, _, .nil => .nil
  | _, _, 0, .cons _ t => .cons r t
  | _, _, i + 1, .cons q t => .cons q (Vals.set r i t)
theorem Vals.append : ∀ {xs ys : List V} {us ws : List Value}, Vals xs us → Vals ys ws → Vals (xs ++ ys) (us ++ ws)
  | _, _, _, _, .nil, s => s
  | _, _, _, _, .cons r t, s => .cons r (Vals.append t s)
theorem Vals.take : ∀ {xs : List V} {us : List Value} (n : Nat), Vals xs us → Vals (xs.take n) (us.take n)
  | _, _, 0, _ => .nil
  | _, _, _ + 1, .nil => .nil
  | _, _, n + 1, .cons r t => .cons r (Vals.take n t)
theorem Vals.drop : ∀ {xs : List V} {us : List Value} (n : Nat), Vals xs us → Vals (xs.drop n) (us.drop n)
  | _, _, 0, r => r
  | _, _, _ + 1, .nil => .nil
  | _, _, n + 1, .cons _ t => Vals.drop n t
theorem Vals.none_of : ∀ {xs : List V} {us : List Value} {i : Nat}, Vals xs us → xs[i]? = none → us[i]? = none := fun {xs us i} r e => by
  have h1 := r.length
  have h2 : xs.length ≤ i := List.getElem?_eq_none_iff.mp e
  exact List.getElem?_eq_none_iff.mpr (by omega)
def RelO : Option V → Option Value → Prop
  | some v, some u => RelV v u
  | none, none => True
  | _, _ => False
def KV {κ : Type} : List (κ × V) → List (κ × Value) → Prop := Paired fun (p : κ × V) (q : κ × Value) => p.1 = q.1 ∧ RelV p.2 q.2
def kV : Key → V
  | .inl i => .int i
  | .inr x => .str x
inductive HO where
  /-- a list -/
  | lst (xs : List V)
  /-- a tuple (never changes) -/
  | tup (xs : List V)
  /-- a dict whose keys are ints and texts; one whose keys are tuples of ints and texts (the empty one is both) -/
  | dK (kvs : List (Key × V)) | dT (kvs : List (List Key × V))
  /-- a set of ints: its members, its size -/
  | set (S : Int → Bool) (n : Nat)
  /-- an instance of the class at C, its dict at dx, its attributes -/
  | ins (C dx : Addr) (fs : List (Str × V))
  /-- the dict of the instance at x -/
  | own (x : Addr)
  /-- the dict of an exception -/
  | xd (fs : List (Str × V))
  /-- a bound method, f of x -/
  | met (f x : Addr)
  /-- a range object lo, lo + 1, .. below hi -/
  | rng (lo hi : Int)
  /-- a thing that is known to the object (the script; a dict while a loop walks it): read, never written while it is so -/
  | frz (o : Obj) (u : HO)
  /-- a code object's table -/
  | tbl (ps : Array Value)
  /-- any other thing, by what is true of its one object (a def of one's own: SetO a S n := HO.ext fun h => ..) -/
  | ext (φ : Heap → Prop)
abbrev Hp := Addr → Option HO
def upd (H : Hp) (a : Addr) (o : HO) : Hp := fun b => if b = a then some o else H b
theorem upd_same {H : Hp} {a : Addr} {o : HO} : upd H a o a = some o := by unfold upd; rw [if_pos rfl]
theorem upd_ne {H : Hp} {a b : Addr} {o : HO} (h : b ≠ a) : upd H a o b = H b := by unfold upd; rw [if_neg h]
theorem ne_of_none {H : Hp} {a b : Addr} {o : HO} (h : H a = some o) (h' : H b = none) : a ≠ b := by
  intro e; subst e; rw [h] at h'; cases h'
section
variable (P : Program) (w : World)
def ObjOk (H : Hp) (h : Heap) (a : Addr) : HO → Prop
  | .lst xs => xs.length ≤ sizeLine ∧ ∃ (its : List Value) (n : Nat), Vals xs its ∧ h.get? a = some { cls := .type "list", data := .seq its.toArray n }
  | .tup xs => xs.length ≤ sizeLine ∧ ∃ its : List Value, Vals xs its ∧ IsTup h a its.toArray
  | .dK kvs => kvs.length ≤ sizeLine ∧ (a == sysModules) = false ∧ ∃ vs, KV kvs vs ∧ h.DictOf (mixKind P w) a vs
  | .dT kvs => kvs.length ≤ sizeLine ∧ (a == sysModules) = false ∧ ∃ xs : List (List Key × Addr × Value),
      Paired (fun (p : List Key × V) (q : List Key × Addr × Value) => p.1 = q.1 ∧ H q.2.1 = some (.tup (p.1.map kV)) ∧ RelV p.2 q.2.2) kvs xs ∧
      ∃ o es ep, h.get? a = some o ∧ o.ExactDict ∧ o.data = .dict es ep ∧ es.toList = xs.map (entryOfKey (tupleKind (mixKind P w))) ∧ (xs.map (·.1)).Nodup
  | .set S n => h.SetOf (intKind P w) a S n
  | .ins C dx fs => H dx = some (.own a) ∧ fs.length ≤ 1000 ∧ dx ≠ a ∧ h.get? a = some (PySem.W.instObj C dx) ∧
      ∃ mA, h.Ns1 dx mA ∧ (∀ f, RelO (fs.lookup f) (mA f)) ∧ PySem.Within mA (fs.map (·.1))
  | .own _ => ∃ o, h.get? a = some o
  | .xd fs => ∃ mA, h.Ns1 a mA ∧ ∀ f, RelO (fs.lookup f) (mA f)
  | .rng lo hi => ∃ t u v, h.get? a = some { cls := .type "range", data := .fields #[.int lo t, .int hi u, .int 1 v] }
  | .frz o u => h.get? a = some o ∧ ObjOk H h a u
  | .tbl ps => h.get? a = some { cls := .none, data := .fields ps }
  | .met f x => h.get? a = some (PySem.W.methodObj (.ref f) (.ref x))
  | .ext φ => φ h ∧ (∃ o, h.get? a = some o) ∧ ∀ h1 h2 : Heap, φ h1 → (∀ o, h1.get? a = some o → h2.get? a = some o) → φ h2
def HOk (H : Hp) (h : Heap) : Prop := ∀ a o, H a = some o → ObjOk P w H h a o
end
section
variable {P : Program} {w : World} {H H' : Hp} {h h' : Heap} {a : Addr} {o : HO}
theorem ObjOk.lt (x : ObjOk P w H h a o) : a < h.objs.size := by
  cases o with
  | lst xs => obtain ⟨_, _, _, _, e⟩ := x; exact Heap.lt_size e
  | tup xs => obtain ⟨_, _, _, p⟩ := x; exact p.lt
  | dK kvs => obtain ⟨_, _, _, _, o, _, _, e, _⟩ := x; exact Heap.lt_size e
  | dT kvs => obtain ⟨_, _, _, _, o, _, _, e, _⟩ := x; exact Heap.lt_size e
  | set S n => obtain ⟨o, _, _, _, e, _⟩ := x; exact Heap.lt_size e
  | ins C dx fs => obtain ⟨_, _, _, e, _⟩ := x; exact Heap.lt_size e
  | own y => obtain ⟨_, e⟩ := x; exact Heap.lt_size e
  | xd fs => obtain ⟨_, ⟨_, _, _, e, _⟩, _⟩ := x; exact Heap.lt_size e
  | rng lo hi => obtain ⟨_, _, _, e⟩ := x; exact Heap.lt_size e
  | frz ob u => obtain ⟨e, _⟩ := x; exact Heap.lt_size e
  | tbl ps => exact Heap.lt_size (show h.get? a = some _ from x)
  | met f y => exact Heap.lt_size (show h.get? a = some _ from x)
  | ext φ => obtain ⟨_, ⟨_, e⟩, _⟩ := x; exact Heap.lt_size e
theorem Paired.mapP {α β : Type} {F G : α → β → Prop} : ∀ {l₁ : List α} {l₂ : List β}, Paired F l₁ l₂ → (∀ a b, F a b → G a b) → Paired G l₁ l₂
  | _, _, .nil, _ => .nil
  | _, _, .cons r t, f => .cons (f _ _ r) (Paired.mapP t f)
theorem ObjOk.stay (x : ObjOk P w H h a o) (k : ∀ b u, (b = a ∨ H b = some (.own a)) → h.get? b = some u → h'.get? b = some u)
    (ho : ∀ b, H b = some (.own a) → H' b = some (.own a)) (ht : ∀ b xs, H b = some (.tup xs) → H' b = some (.tup xs)) : ObjOk P w H' h' a o := by
  induction o with
  | lst xs => obtain ⟨z, its, n, r, e⟩ := x; exact ⟨z, its, n, r, k _ _ (.inl rfl) e⟩
  | tup xs => obtain ⟨z, its, r, ob, e, c⟩ := x; exact ⟨z, its, r, ob, k _ _ (.inl rfl) e, c⟩
  | dK kvs => obtain ⟨z, y, vs, r, ob, es, ep, e, c⟩ := x; exact ⟨z, y, vs, r, ob, es, ep, k _ _ (.inl rfl) e, c⟩
  | dT kvs =>
    obtain ⟨z, y, xs, r, ob, es, ep, e, c⟩ := x
    exact ⟨z, y, xs, Paired.mapP r fun p q z => ⟨z.1, ht _ _ z.2.1, z.2.2⟩, ob, es, ep, k _ _ (.inl rfl) e, c⟩
  | set S n => obtain ⟨ob, es, ep, t, e, c⟩ := x; exact ⟨ob, es, ep, t, k _ _ (.inl rfl) e, c⟩
  | ins C dx fs =>
    obtain ⟨d, z, ne, e, mA, ⟨od, es, ep, e2, c⟩, r⟩ := x
    exact ⟨ho _ d, z, ne, k _ _ (.inl rfl) e, mA, ⟨od, es, ep, k _ _ (.inr d) e2, c⟩, r⟩
  | own y => obtain ⟨ob, e⟩ := x; exact ⟨ob, k _ _ (.inl rfl) e⟩
  | xd fs => obtain ⟨mA, ⟨od, es, ep, e, c⟩, r⟩ := x; exact ⟨mA, ⟨od, es, ep, k _ _ (.inl rfl) e, c⟩, r⟩
  | rng lo hi => obtain ⟨t, u, v, e⟩ := x; exact ⟨t, u, v, k _ _ (.inl rfl) e⟩
  | frz ob u ih => obtain ⟨e, q⟩ := x; exact ⟨k _ _ (.inl rfl) e, ih q⟩
  | tbl ps =>
    have e : h.get? a = some { cls := .none, data := .fields ps } := x
    show h'.get? a = some { cls := .none, data := .fields ps }
    exact k a _ (.inl rfl) e
  | met f y =>
    have e : h.get? a = some (PySem.W.methodObj (.ref f) (.ref y)) := x
    show h'.get? a = some (PySem.W.methodObj (.ref f) (.ref y))
    exact k a _ (.inl rfl) e
  | ext φ => obtain ⟨p, ⟨o, e⟩, st⟩ := x; exact ⟨st _ _ p fun o q => k _ _ (.inl rfl) q, ⟨o, k _ _ (.inl rfl) e⟩, st⟩
theorem HOk.lt (x : HOk P w H h) (e : H a = some o) : a < h.objs.size := (x a o e).lt
theorem HOk.fresh (x : HOk P w H h) (e : h.objs.size ≤ a) : H a = none := by
  cases q : H a with
  | none => rfl
  | some u => exact absurd (Nat.lt_of_lt_of_le (x.lt q) e) (Nat.lt_irrefl _)
theorem HOk.kept (x : HOk P w H h) (k : ∀ b u, h.get? b = some u → h'.get? b = some u) : HOk P w H h' := fun a o e =>
  (x a o e).stay (fun b u _ q => k b u q) (fun _ q => q) fun _ _ q => q
theorem HOk.laid (x : HOk P w H h) (k : ∀ b u, h.get? b = some u → h'.get? b = some u) (hp : h.objs.size ≤ a) (new : ObjOk P w (upd H a o) h' a o) : HOk P w (upd H a o) h' := fun b u e => by
  have hn := x.fresh hp
  by_cases hb : b = a
  · subst hb; rw [upd_same] at e; cases e; exact new
  · rw [upd_ne hb] at e
    exact (x b u e).stay (fun c v _ q => k c v q) (fun c q => by rw [upd_ne (ne_of_none q hn)]; exact q) fun c xs q => by rw [upd_ne (ne_of_none q hn)]; exact q
end
def Rd (H : Hp) (a : Addr) (u : HO) : Prop := H a = some u ∨ ∃ o, H a = some (.frz o u)
theorem Rd.ok {P : Program} {w : World} {H : Hp} {h : Heap} {a : Addr} {u : HO} (r : Rd H a u) (x : HOk P w H h) : ObjOk P w H h a u := by
  rcases r with r | ⟨o, r⟩
  · exact x a u r
  · obtain ⟨_, q⟩ := x a _ r
    exact q
def Mut : Option HO → Prop
  | some (.lst _) => True
  | some (.dK _) => True
  | some (.dT _) => True
  | some (.set _ _) => True
  | some (.ins _ _ _) => True
  | some (.ext _) => True
  | _ => False
section
variable {P : Program} {w : World} {H : Hp} {h h' : Heap} {x e : Addr} {o' : HO}
theorem HOk.write (ok : HOk P w H h) (mu : Mut (H x)) (he : e = x ∨ H e = some (.own x)) (k : ∀ b u, b ≠ e → h.get? b = some u → h'.get? b = some u) (heo : ∃ u, h'.get? e = some u)
    (new : ObjOk P w (upd H x o') h' x o') : HOk P w (upd H x o') h' := fun b u q => by
  have nown : ∀ c y, H c = some (.own y) → c ≠ x := fun c y r z => by subst z; rw [r] at mu; exact mu
  have ntup : ∀ c xs, H c = some (.tup xs) → c ≠ x := fun c xs r z => by subst z; rw [r] at mu; exact mu
  by_cases hb : b = x
  · subst hb; rw [upd_same] at q; cases q; exact new
  · rw [upd_ne hb] at q
    by_cases hbe : b = e
    · have q' : H b = some (.own x) := by
        rcases he with z | z
        · exact absurd (hbe.trans z) hb
        · rw [hbe]; exact z
      rw [q] at q'; cases q'
      obtain ⟨v, hv⟩ := heo
      exact ⟨v, by rw [hbe]; exact hv⟩
    · refine (ok b u q).stay (fun c v hc r => k c v ?_ r) (fun c r => by rw [upd_ne (nown c b r)]; exact r) fun c xs r => by rw [upd_ne (ntup c xs r)]; exact r
      rcases hc with rfl | hc
      · exact hbe
      · rintro rfl
        rcases he with z | z
        · exact nown c b hc z
        · rw [hc] at z; cases z; exact hb rfl
end
structure Un (fs ex : List Addr) (H H' : Hp) (h h' : Heap) : Prop where
  keep : ∀ b o, h.get? b = some o → H b = none → b ∉ fs → b ∉ ex → h'.get? b = some o
  slot : ∀ b o, h.get? b = some o → H b = none → b ∈ fs → b ∉ ex → ∃ sl, h'.get? b = some { o with slots := sl }
  free : ∀ b o, h.get? b = some o → H b = none → b ∉ ex → H' b = none
  there : ∀ b o, h.get? b = some o → b ∉ ex → ∃ o', h'.get? b = some o'
  tups : ∀ b xs, H b = some (.tup xs) → H' b = some (.tup xs)
  frzs : ∀ b o u, H b = some (.frz o u) → H' b = some (.frz o u)
  tbls : ∀ b ps, H b = some (.tbl ps) → ∃ more, H' b = some (.tbl (ps ++ more))
section
variable {fs fs' ex ex' : List Addr} {H H1 H2 : Hp} {h h1 h2 h' : Heap} {a x e : Addr} {o : HO}
theorem Un.any (u : Un fs ex H H1 h h1) {b : Addr} {ob : Obj} (q : h.get? b = some ob) (n : H b = none) (hx : b ∉ ex) : ∃ sl, h1.get? b = some { ob with slots := sl } := by
  by_cases hb : b ∈ fs
  · exact u.slot b ob q n hb hx
  · exact ⟨ob.slots, u.keep b ob q n hb hx⟩
theorem Un.kept (k : ∀ b u, h.get? b = some u → h'.get? b = some u) : Un fs ex H H h h' :=
  ⟨fun b ob q _ _ _ => k b ob q, fun b ob q _ _ _ => ⟨ob.slots, k b ob q⟩, fun _ _ _ n _ => n, fun b ob q _ => ⟨ob, k b ob q⟩, fun _ _ q => q, fun _ _ _ q => q, fun _ ps q => ⟨#[], by rw [q]; simp⟩⟩
theorem Un.refl : Un fs ex H H h h := Un.kept fun _ _ q => q
theorem Un.laid (k : ∀ b u, h.get? b = some u → h'.get? b = some u) (hp : h.objs.size ≤ a) (hn : H a = none) : Un fs ex H (upd H a o) h h' where
  keep := fun b u q _ _ _ => k b u q
  slot := fun b u q _ _ _ => ⟨u.slots, k b u q⟩
  free := fun b u q n _ => by rw [upd_ne (Nat.ne_of_lt (Nat.lt_of_lt_of_le (Heap.lt_size q) hp))]; exact n
  there := fun b u q _ => ⟨u, k b u q⟩
  tups := fun b xs q => by rw [upd_ne (ne_of_none q hn)]; exact q
  frzs := fun b u xs q => by rw [upd_ne (ne_of_none q hn)]; exact q
  tbls := fun b ps q => ⟨#[], by rw [upd_ne (ne_of_none q hn), q]; simp⟩
theorem Un.write (mu : Mut (H x)) (he : e = x ∨ H e = some (.own x)) (k : ∀ b u, b ≠ e → h.get? b = some u → h'.get? b = some u) (heo : ∃ u, h'.get? e = some u) : Un fs ex H (upd H x o) h h' := by
  have hx : ∀ b, H b = none → b ≠ x := fun b n z => by subst z; rw [n] at mu; exact mu
  have hb : ∀ b, H b = none → b ≠ e := fun b n z => by
    subst z
    rcases he with r | r
    · exact hx b n r
    · rw [n] at r; cases r
  have hm : ∀ b u, H b = some u → ¬ Mut (some u) → b ≠ x := fun b u q nm z => by subst z; rw [q] at mu; exact nm mu
  refine ⟨fun b u q n _ _ => k b u (hb b n) q, fun b u q n _ _ => ⟨u.slots, k b u (hb b n) q⟩, fun b u q n _ => by rw [upd_ne (hx b n)]; exact n, fun b u q _ => ?_,
    fun b xs q => by rw [upd_ne (hm b _ q fun z => z)]; exact q, fun b u xs q => by rw [upd_ne (hm b _ q fun z => z)]; exact q, fun b ps q => ⟨#[], by rw [upd_ne (hm b _ q fun z => z), q]; simp⟩⟩
  by_cases hbe : b = e
  · subst hbe; exact heo
  · exact ⟨u, k b u hbe q⟩
end
def trk (h : Heap) (H : Hp) : List Addr := (List.range h.objs.size).filter fun a => (H a).isSome
def hidT (h : Heap) (H : Hp) : Heap := PySem.W.hideAll h (trk h H)
theorem hidT_size (h : Heap) (H : Hp) : (hidT h H).objs.size = h.objs.size := PySem.W.hideAll_size _ _
theorem hidT_get {h : Heap} {H : Hp} {b : Addr} {o : Obj} (e : h.get? b = some o) (n : H b = none) : (hidT h H).get? b = some o :=
  PySem.W.hideAll_get _ e fun hm => by
    have q : (H b).isSome = true := (List.mem_filter.mp hm).2
    rw [n] at q; simp at q
theorem of_hidT {h : Heap} {H : Hp} {b : Addr} {o : Obj} (e : (hidT h H).get? b = some o) : h.get? b = some o ∧ H b = none := by
  have e' : h.get? b = some o := PySem.W.of_hideAll (trk h H) e
  refine ⟨e', ?_⟩
  cases q : H b with
  | none => rfl
  | some x =>
    have hm : b ∈ trk h H := List.mem_filter.mpr ⟨List.mem_range.mpr (Heap.lt_size e'), by simp [q]⟩
    have z : (hidT h H).get? b = none := PySem.W.hideAll_none (trk h H) hm
    rw [z] at e; cases e
end L2
namespace L2
open PySem PySem.Spec PyProof.Rows
structure Mod (K : PySem.W.Frag) (mg : Str → Option Value) (base : Heap) : Prop where
  kin : K.In base
  glob : base.Ns mainGlobals mg
  blt : ∃ mb, base.Ns builtinsNs mb ∧ ∀ x : Str, x ≠ "__name__" → mb x = bootBuiltins x
  nolimit : base.NoLimit
structure Cx where
  prog : Program
  w : World
  K : PySem.W.Frag
  mg : Str → Option Value
  base : Heap
  A : Around
  N : List Str
  s₀ : Shared
  H₀ : Hp
  env : Env
  outer : List Env
  stack : List Env
  ex : List Addr
  fn : Str → Bool
  calm : Bool
  pn : List (Addr × Obj)
  xe : Value → Shared → Prop
def frs (l : List Env) : List Addr := l.filterMap (·.frame)
abbrev Cx.fs (X : Cx) : List Addr := frs X.outer
def Vis (sc : Scope) (x : Str) : Prop := sc.names.lookup x = some .local ∨ sc.names.lookup x = some .cell ∨ sc.names.lookup x = some .free
def Loc (sc : Scope) (x : Str) : Prop := sc.names.lookup x = some .local ∨ sc.names.lookup x = some .cell
def Look (env : Env) (h : Heap) (m : Str → Option Value) (x : Str) (u : Value) : Prop :=
  (env.kindOf x = some .local ∧ m x = some u) ∨ ((env.kindOf x = some .cell ∨ env.kindOf x = some .free) ∧ ∃ c, env.cells.lookup x = some c ∧ h.IsCell c (some u))
structure Cx.Ok (X : Cx) : Prop where
  mod : Mod X.K X.mg X.base
  kind : X.env.scope.kind = .function
  glob : X.env.globals = mainGlobals
  blt : X.env.builtins = builtinsNs
  above : X.s₀.heap.objs.size ≤ X.env.locals
  inj : ∀ x y c, X.env.cells.lookup x = some c → X.env.cells.lookup y = some c → x = y
  has : ∀ x, (X.env.kindOf x = some .cell ∨ X.env.kindOf x = some .free) → ∃ c, X.env.cells.lookup x = some c
  cab : ∀ x c, X.fn x = true → X.env.cells.lookup x = some c → X.s₀.heap.objs.size ≤ c
  hd : X.calm = true → X.A.handled = none
  frames : X.A.frames = some X.stack
  stk : X.stack = X.outer ∨ (X.stack = X.env :: X.outer ∧ X.env.frame = some X.env.locals)
  exf : ∀ b ∈ X.ex, b ≠ X.env.locals ∧ ∀ x c, X.env.cells.lookup x = some c → c ≠ b
  bs : ∀ b o, X.base.get? b = some o → X.s₀.heap.get? b = some o ∧ X.H₀ b = none
  bsz : X.base.objs.size ≤ X.s₀.heap.objs.size
  noex : ∀ b o, X.base.get? b = some o → b ∉ X.ex
  exfs : ∀ b ∈ X.ex, b ∉ X.fs
  funs : X.s₀.heap.FunFrames X.base X.outer
  frf : ∀ b ∈ X.fs, X.H₀ b = none
structure Inv (X : Cx) (pins : List (Addr × Obj)) (σ : List (Option V)) (H : Hp) (s : Shared) : Prop where
  ok : X.Ok
  os : s.os = X.s₀.os
  bare : AllBare s.gens
  base : Un X.fs X.ex X.H₀ H X.s₀.heap s.heap
  loc : ∃ m, s.heap.Ns X.env.locals m ∧ ∀ (i : Nat) (x : Str) (v : V), X.N[i]? = some x → σ[i]? = some (some v) → Vis X.env.scope x → ∃ u, RelV v u ∧ Look X.env s.heap m x u
  cell : ∀ x c, X.env.cells.lookup x = some c → ∃ v, s.heap.IsCell c v
  free : H X.env.locals = none
  freeC : ∀ x c, X.env.cells.lookup x = some c → H c = none
  pin : ∀ p ∈ X.pn ++ pins, s.heap.get? p.1 = some p.2 ∧ H p.1 = none ∧ p.1 ≠ X.env.locals ∧ p.1 ∉ X.fs ∧ ∀ v, p.2.data ≠ .cell v
  hok : HOk X.prog X.w H s.heap
  len : σ.length = X.N.length
section
variable {X : Cx} {pins : List (Addr × Obj)} {σ : List (Option V)} {H H' : Hp} {s : Shared} {h' : Heap}
theorem Cx.Ok.nofr (ok : X.Ok) {b : Addr} {o : Obj} (e : X.base.get? b = some o) : b ∉ X.fs := fun hb => by
  have := (ok.funs.mem hb).1
  rw [e] at this; cases this
theorem Inv.bs (I : Inv X pins σ H s) : ∀ b o, X.base.get? b = some o → s.heap.get? b = some o ∧ H b = none := fun b o e =>
  ⟨I.base.keep b o (I.ok.bs b o e).1 (I.ok.bs b o e).2 (I.ok.nofr e) (I.ok.noex b o e), I.base.free b o (I.ok.bs b o e).1 (I.ok.bs b o e).2 (I.ok.noex b o e)⟩
theorem Inv.bk (I : Inv X pins σ H s) : ∀ b o, X.base.get? b = some o → s.heap.get? b = some o := fun b o e => (I.bs b o e).1
theorem Inv.mod (I : Inv X pins σ H s) : Mod X.K X.mg X.base := I.ok.mod
theorem Inv.kIn (I : Inv X pins σ H s) : X.K.In s.heap := I.ok.mod.kin.keeps I.bk
theorem Inv.nolimit (I : Inv X pins σ H s) : s.heap.NoLimit := I.ok.mod.nolimit.keeps I.bk
theorem Inv.fr (I : Inv X pins σ H s) : ∃ m, Fr X.base X.env.locals s.heap m :=
  let ⟨m, hn, _⟩ := I.loc
  ⟨m, hn, I.bk, Nat.le_trans I.ok.bsz I.ok.above⟩
theorem Inv.lt (I : Inv X pins σ H s) : X.env.locals < s.heap.objs.size := let ⟨_, hn, _⟩ := I.loc; hn.lt
theorem Inv.sz (I : Inv X pins σ H s) : X.s₀.heap.objs.size ≤ s.heap.objs.size := Nat.le_trans I.ok.above (Nat.le_of_lt I.lt)
theorem Inv.nofs (I : Inv X pins σ H s) {a : Addr} (h : s.heap.objs.size ≤ a) : a ∉ X.fs := fun hb => by
  obtain ⟨_, o, ho, _⟩ := I.ok.funs.mem hb
  exact absurd (Nat.lt_of_lt_of_le (Heap.lt_size ho) (Nat.le_trans I.sz h)) (Nat.lt_irrefl _)
theorem Inv.cne (I : Inv X pins σ H s) : ∀ x c, X.env.cells.lookup x = some c → c ≠ X.env.locals := fun x c e z => by
  obtain ⟨v, o, ho, hd⟩ := I.cell x c e
  obtain ⟨m, ⟨o', es, ep, ho', hd', _⟩, _⟩ := I.loc
  rw [z, ho'] at ho; cases ho; rw [hd'] at hd; cases hd
theorem Inv.funs (I : Inv X pins σ H s) : s.heap.FunFrames X.base X.outer := by
  have all : ∀ (l : List Env), (∀ b ∈ frs l, b ∈ X.fs) → X.s₀.heap.FunFrames X.base l → s.heap.FunFrames X.base l := by
    intro l
    induction l with
    | nil => intro _ _; trivial
    | cons env r ih =>
      intro hs hl
      obtain ⟨hk, ⟨L, o, hf, hn, ho, hd⟩, hr⟩ := hl
      have hL : L ∈ X.fs := hs L (by unfold frs; rw [List.filterMap_cons, hf]; exact List.mem_cons_self)
      obtain ⟨sl, e⟩ := I.base.slot L o ho (I.ok.frf L hL) hL fun z => I.ok.exfs L z hL
      exact ⟨hk, ⟨L, _, hf, hn, e, hd⟩, ih (fun b hb => hs b (by unfold frs; rw [List.filterMap_cons, hf]; exact List.mem_cons_of_mem _ hb)) hr⟩
  exact all X.outer (fun _ hb => hb) I.ok.funs
theorem Inv.stack (I : Inv X pins σ H s) : s.heap.FunFrames X.base X.stack := by
  rcases I.ok.stk with e | ⟨e, hf⟩
  · rw [e]; exact I.funs
  · rw [e]
    obtain ⟨m, hn, _⟩ := I.loc
    refine .cons (by rw [I.ok.kind]; decide) hf hn ?_ I.funs
    exact Heap.get?_none_of_le (Nat.le_trans I.ok.bsz I.ok.above)
theorem Inv.stkSub (I : Inv X pins σ H s) : ∀ b ∈ frs X.stack, b ∈ X.env.locals :: X.fs := fun b hb => by
  rcases I.ok.stk with e | ⟨e, hf⟩
  · rw [e] at hb; exact List.mem_cons_of_mem _ hb
  · rw [e] at hb
    unfold frs at hb
    rw [List.filterMap_cons, hf] at hb
    exact hb
theorem Inv.stkFree (I : Inv X pins σ H s) : ∀ b ∈ frs X.stack, H b = none := fun b hb => by
  rcases List.mem_cons.mp (I.stkSub b hb) with e | hb
  · rw [e]; exact I.free
  · obtain ⟨_, o, ho, _⟩ := I.ok.funs.mem hb
    exact I.base.free b o ho (I.ok.frf b hb) fun z => I.ok.exfs b z hb
theorem Inv.step {g' : Array GenState} {t' : Nat} {d' : Drawn} {ch : List Addr} (I : Inv X pins σ H s)
    (hch : ∀ b ∈ ch, (b ∈ X.ex ∨ X.s₀.heap.objs.size ≤ b) ∧ b ≠ X.env.locals ∧ (∀ x c, X.env.cells.lookup x = some c → c ≠ b) ∧ ∀ p ∈ X.pn ++ pins, p.1 ≠ b)
    (keep : ∀ b o, b ≠ X.env.locals → b ∉ X.fs → b ∉ ch → s.heap.get? b = some o → H b = none → h'.get? b = some o)
    (slot : ∀ b o, b ≠ X.env.locals → b ∈ X.fs → b ∉ ch → s.heap.get? b = some o → H b = none → ∃ sl, h'.get? b = some { o with slots := sl }) (free : ∀ b o, b ∉ ch → s.heap.get? b = some o → H b = none → H' b = none)
    (there : ∀ b o, b ∉ ch → s.heap.get? b = some o → ∃ o', h'.get? b = some o')
    (tups : ∀ b xs, H b = some (.tup xs) → H' b = some (.tup xs)) (frzs : ∀ b o u, H b = some (.frz o u) → H' b = some (.frz o u)) (tbls : ∀ b ps, H b = some (.tbl ps) → ∃ more, H' b = some (.tbl (ps ++ more)))
    (ns : ∀ m, s.heap.Ns X.env.locals m → h'.Ns X.env.locals m) (hok : HOk X.prog X.w H' h') (hg : AllBare g') :
    Inv X pins σ H' { s with heap := h', gens := g', drawn := d', toks := t' } := by
  have neL : ∀ b o, X.s₀.heap.get? b = some o → b ≠ X.env.locals := fun b o e => Nat.ne_of_lt (Nat.lt_of_lt_of_le (Heap.lt_size e) I.ok.above)
  have neC : ∀ b o, X.s₀.heap.get? b = some o → b ∉ X.ex → b ∉ ch := fun b o e hx hb => by
    rcases (hch b hb).1 with z | z
    · exact hx z
    · exact absurd (Nat.lt_of_lt_of_le (Heap.lt_size e) z) (Nat.lt_irrefl _)
  have cellK : ∀ x c, X.env.cells.lookup x = some c → ∀ v, s.heap.IsCell c v → h'.IsCell c v := fun x c e v ⟨o, ho, hd⟩ => by
    have nch : c ∉ ch := fun z => (hch c z).2.2.1 x c e rfl
    by_cases hc : c ∈ X.fs
    · obtain ⟨sl, q⟩ := slot c o (I.cne x c e) hc nch ho (I.freeC x c e)
      exact ⟨_, q, hd⟩
    · exact ⟨o, keep c o (I.cne x c e) hc nch ho (I.freeC x c e), hd⟩
  refine ⟨I.ok, I.os, hg, ⟨fun b o e n hb hx => ?_, fun b o e n hb hx => ?_, fun b o e n hx => ?_, fun b o e hx => ?_, fun b xs e => tups b xs (I.base.tups b xs e), fun b o xs e => frzs b o xs (I.base.frzs b o xs e), fun b ps e => ?_⟩, ?_, fun x c e => ?_, ?_, fun x c e => ?_, fun p hp => ?_, hok, I.len⟩
  · exact keep b o (neL b o e) hb (neC b o e hx) (I.base.keep b o e n hb hx) (I.base.free b o e n hx)
  · obtain ⟨sl, e1⟩ := I.base.slot b o e n hb hx
    obtain ⟨sl', e2⟩ := slot b _ (neL b o e) hb (neC b o e hx) e1 (I.base.free b o e n hx)
    exact ⟨sl', e2⟩
  · obtain ⟨o', e1⟩ := I.base.there b o e hx
    exact free b o' (neC b o e hx) e1 (I.base.free b o e n hx)
  · obtain ⟨o', e1⟩ := I.base.there b o e hx
    exact there b o' (neC b o e hx) e1
  · obtain ⟨m1, e1⟩ := I.base.tbls b ps e
    obtain ⟨m2, e2⟩ := tbls b _ e1
    exact ⟨m1 ++ m2, by rw [e2, Array.append_assoc]⟩
  · obtain ⟨m, hn, hl⟩ := I.loc
    refine ⟨m, ns m hn, fun i x v e1 e2 e3 => ?_⟩
    obtain ⟨u, r, l⟩ := hl i x v e1 e2 e3
    refine ⟨u, r, ?_⟩
    rcases l with l | ⟨k, c, e, z⟩
    · exact .inl l
    · exact .inr ⟨k, c, e, cellK x c e _ z⟩
  · obtain ⟨v, z⟩ := I.cell x c e
    exact ⟨v, cellK x c e v z⟩
  · obtain ⟨m, ⟨o, _, _, ho, _⟩, _⟩ := I.loc
    exact free _ o (fun z => (hch _ z).2.1 rfl) ho I.free
  · obtain ⟨v, o, ho, hd⟩ := I.cell x c e
    exact free c o (fun z => (hch c z).2.2.1 x c e rfl) ho (I.freeC x c e)
  · obtain ⟨e, n, ne, nf, d⟩ := I.pin p hp
    have nch : p.1 ∉ ch := fun z => (hch p.1 z).2.2.2 p hp rfl
    exact ⟨keep p.1 p.2 ne nf nch e n, free p.1 p.2 nch e n, ne, nf, d⟩
theorem Inv.un {t' : Nat} (I : Inv X pins σ H s) (u : Un X.fs [] H H' s.heap h') (hok : HOk X.prog X.w H' h') : Inv X pins σ H' { s with heap := h', toks := t' } := by
  obtain ⟨m, ⟨o, es, ep, ho, r⟩, _⟩ := id I.loc
  obtain ⟨sl, hL⟩ := u.any ho I.free (by simp)
  exact I.step (g' := s.gens) (d' := s.drawn) (ch := []) (fun _ z => nomatch z) (fun b o _ hb _ e n => u.keep b o e n hb (by simp)) (fun b o _ hb _ e n => u.slot b o e n hb (by simp)) (fun b o _ e n => u.free b o e n (by simp)) (fun b o _ e => u.there b o e (by simp)) u.tups u.frzs u.tbls (fun m' hm => by
    obtain ⟨o', es', ep', ho', r'⟩ := hm
    rw [ho] at ho'; cases ho'
    exact ⟨_, es', ep', hL, r'⟩) hok I.bare
theorem Inv.call {g' : Array GenState} {t' : Nat} {d' : Drawn} {ch : List Addr} (I : Inv X pins σ H s) (u : Un (frs X.stack) ch H H' s.heap h') (hok : HOk X.prog X.w H' h') (hg : AllBare g')
    (hch : ∀ b ∈ ch, (b ∈ X.ex ∨ X.s₀.heap.objs.size ≤ b) ∧ b ≠ X.env.locals ∧ (∀ x c, X.env.cells.lookup x = some c → c ≠ b) ∧ ∀ p ∈ X.pn ++ pins, p.1 ≠ b) :
    Inv X pins σ H' { s with heap := h', gens := g', drawn := d', toks := t' } := by
  obtain ⟨m, ⟨o, es, ep, ho, r⟩, _⟩ := id I.loc
  obtain ⟨sl, hL⟩ := u.any ho I.free fun z => (hch _ z).2.1 rfl
  exact I.step (ch := ch) hch (fun b o hL hb hc e n => u.keep b o e n (fun z => (List.mem_cons.mp (I.stkSub b z)).elim hL hb) hc) (fun b o _ _ hc e n => u.any e n hc) (fun b o hc e n => u.free b o e n hc) (fun b o hc e => u.there b o e hc) u.tups u.frzs u.tbls (fun m' hm => by
    obtain ⟨o', es', ep', ho', r'⟩ := hm
    rw [ho] at ho'; cases ho'
    exact ⟨_, es', ep', hL, r'⟩) hok hg
theorem Inv.turned {t' : Nat} {it : Addr} (I : Inv X pins σ H s) (k : ∀ b o, b ≠ it → s.heap.get? b = some o → h'.get? b = some o) (hn : H it = none) (hL : it ≠ X.env.locals)
    (h1 : it ∈ X.ex ∨ X.s₀.heap.objs.size ≤ it) (h2 : ∀ x c, X.env.cells.lookup x = some c → c ≠ it) (h3 : ∀ p ∈ X.pn ++ pins, p.1 ≠ it) : Inv X pins σ H { s with heap := h', toks := t' } := by
  have nit : ∀ b u, H b = some u → b ≠ it := fun b u e z => by rw [z, hn] at e; cases e
  refine I.step (g' := s.gens) (d' := s.drawn) (ch := [it]) (fun b hb => ?_) (fun b o _ _ hc e _ => k b o (fun z => hc (by simp [z])) e) (fun b o _ _ hc e _ => ⟨o.slots, k b o (fun z => hc (by simp [z])) e⟩) (fun _ _ _ _ n => n)
    (fun b o hc e => ⟨o, k b o (fun z => hc (by simp [z])) e⟩) (fun _ _ e => e) (fun _ _ _ e => e) (fun b ps e => ⟨#[], by rw [e]; simp⟩) (fun m hm => ?_) (fun b u e => ?_) I.bare
  · have e : b = it := by simpa using hb
    subst e
    exact ⟨h1, hL, h2, h3⟩
  · obtain ⟨o, es, ep, ho, r⟩ := hm
    exact ⟨o, es, ep, k _ o (Ne.symm hL) ho, r⟩
  · refine (I.hok b u e).stay (fun c v hc q => k c v ?_ q) (fun _ q => q) fun _ _ q => q
    rcases hc with z | z
    · rw [z]; exact nit b u e
    · exact nit c _ z
theorem Inv.tok (I : Inv X pins σ H s) (t : Nat) : Inv X pins σ H { s with toks := t } := I.un (h' := s.heap) (t' := t) Un.refl I.hok
theorem Inv.kept {t' : Nat} (I : Inv X pins σ H s) (k : ∀ b u, s.heap.get? b = some u → h'.get? b = some u) : Inv X pins σ H { s with heap := h', toks := t' } := I.un (Un.kept k) (I.hok.kept k)
theorem Inv.laid {a : Addr} {o : HO} {t' : Nat} (I : Inv X pins σ H s) (k : ∀ b u, s.heap.get? b = some u → h'.get? b = some u) (hp : s.heap.objs.size ≤ a) (new : ObjOk X.prog X.w (upd H a o) h' a o) :
    Inv X pins σ (upd H a o) { s with heap := h', toks := t' } := I.un (Un.laid k hp (I.hok.fresh hp)) (I.hok.laid k hp new)
theorem Inv.write {x e : Addr} {o : HO} {t' : Nat} (I : Inv X pins σ H s) (mu : Mut (H x)) (he : e = x ∨ H e = some (.own x)) (k : ∀ b u, b ≠ e → s.heap.get? b = some u → h'.get? b = some u) (heo : ∃ u, h'.get? e = some u)
    (new : ObjOk X.prog X.w (upd H x o) h' x o) : Inv X pins σ (upd H x o) { s with heap := h', toks := t' } := I.un (Un.write mu he k heo) (I.hok.write mu he k heo new)
theorem Inv.pins_of {pins' : List (Addr × Obj)} (I : Inv X pins σ H s) (h : ∀ p ∈ pins', s.heap.get? p.1 = some p.2 ∧ H p.1 = none ∧ p.1 ≠ X.env.locals ∧ p.1 ∉ X.fs ∧ ∀ v, p.2.data ≠ .cell v) : Inv X pins' σ H s :=
  ⟨I.ok, I.os, I.bare, I.base, I.loc, I.cell, I.free, I.freeC, fun p hp => (List.mem_append.mp hp).elim (fun z => I.pin p (List.mem_append_left _ z)) (h p), I.hok, I.len⟩
theorem nodup_ix {N : List Str} (hN : N.Nodup) {i j : Nat} {x : Str} (a : N[i]? = some x) (b : N[j]? = some x) : i = j := by
  obtain ⟨h1, e1⟩ := List.getElem?_eq_some_iff.mp a
  obtain ⟨h2, e2⟩ := List.getElem?_eq_some_iff.mp b
  exact (List.getElem_inj hN).mp (e1.trans e2.symm)
theorem store_ok2 {M : Model} {A : Around} {E : Value → Shared → Prop} {i : Nat} {x : Str} {v : V} {u : Value} {Q : Unit → Shared → Prop} (I : Inv X pins σ H s) (hN : X.N.Nodup) (hi : X.N[i]? = some x) (hx : Loc X.env.scope x) (r : RelV v u)
    (h : ∀ s', Inv X pins (σ.set i (some v)) H s' → (∃ a, Heap.SameBut a s.heap s'.heap ∧ (a = X.env.locals ∨ X.env.cells.lookup x = some a)) → Q () s') (hf : X.fn x = true ∨ X.env.scope.names.lookup x = some .local := by first | exact .inl rfl | exact .inr rfl | assumption) : wpAny M A (storeName X.env x u) Q E s := by
  obtain ⟨m, hn, hl⟩ := id I.loc
  have hcls : (X.env.scope.kind == .class || (X.env.scope.kind == .module && X.env.locals != X.env.globals)) = false := by rw [I.ok.kind]; rfl
  have hiσ : i < σ.length := by rw [I.len]; exact (List.getElem?_eq_some_iff.mp hi).1
  have cne := I.cne
  have tracked : ∀ {a : Addr} {h' : Heap}, (∃ o, s.heap.get? a = some o ∧ H a = none) → Heap.SameBut a s.heap h' → HOk X.prog X.w H h' := fun {a h'} ha hs b ob e => by
    obtain ⟨_, _, hfree⟩ := ha
    refine (I.hok b ob e).stay (fun c w' hc q => (hs.2 c ?_).trans q) (fun _ q => q) fun _ _ q => q
    rintro rfl
    rcases hc with rfl | hc
    · rw [hfree] at e; cases e
    · rw [hfree] at hc; cases hc
  rcases hx with hk | hk
  · refine wpAny_storeName_local hk hn (fun h' hn' hs => ?_) hcls
    obtain ⟨oL, _, _, hoL, _⟩ := id hn
    refine h _ ⟨I.ok, I.os, I.bare, ⟨fun b o e n hb hx => ?_, fun b o e n hb hx => ?_, I.base.free, fun b o e hx => ?_, I.base.tups, I.base.frzs, I.base.tbls⟩, ⟨_, hn', fun j y v' e1 e2 e3 => ?_⟩, fun y c e => ?_, I.free, I.freeC, fun p hp => ?_, tracked ⟨oL, hoL, I.free⟩ hs, by simpa using I.len⟩ ⟨_, hs, .inl rfl⟩
    · exact (hs.2 b (Nat.ne_of_lt (Nat.lt_of_lt_of_le (Heap.lt_size e) I.ok.above))).trans (I.base.keep b o e n hb hx)
    · obtain ⟨sl, e1⟩ := I.base.slot b o e n hb hx
      exact ⟨sl, (hs.2 b (Nat.ne_of_lt (Nat.lt_of_lt_of_le (Heap.lt_size e) I.ok.above))).trans e1⟩
    · obtain ⟨o', e1⟩ := I.base.there b o e hx
      exact ⟨o', (hs.2 b (Nat.ne_of_lt (Nat.lt_of_lt_of_le (Heap.lt_size e) I.ok.above))).trans e1⟩
    · by_cases hj : j = i
      · subst hj
        rw [hi] at e1; cases e1
        rw [List.getElem?_set_self hiσ] at e2
        cases e2
        exact ⟨u, r, .inl ⟨hk, by simp⟩⟩
      · rw [List.getElem?_set_ne (Ne.symm hj)] at e2
        obtain ⟨u', r', q⟩ := hl j y v' e1 e2 e3
        refine ⟨u', r', ?_⟩
        rcases q with ⟨k, e⟩ | ⟨k, c, e, z⟩
        · refine .inl ⟨k, ?_⟩
          have : y ≠ x := fun e => hj (nodup_ix hN e1 (e ▸ hi))
          simp [this, e]
        · exact .inr ⟨k, c, e, z.sameBut hs (cne y c e)⟩
    · obtain ⟨w', z⟩ := I.cell y c e
      exact ⟨w', z.sameBut hs (cne y c e)⟩
    · obtain ⟨e, n, ne, nf, d⟩ := I.pin p hp
      exact ⟨(hs.2 p.1 ne).trans e, n, ne, nf, d⟩
  · have hfn : X.fn x = true := by
      rcases hf with z | z
      · exact z
      · rw [z] at hk; cases hk
    obtain ⟨c, hc⟩ := I.ok.has x (.inl hk)
    obtain ⟨w', z⟩ := I.cell x c hc
    refine wpAny_storeName_cell I.ok.kind hk hc z (fun h' hc' hs => ?_)
    obtain ⟨oc, hoc, hocd⟩ := id z
    refine h { s with heap := h' } ⟨I.ok, I.os, I.bare, ⟨fun b o e n hb hx => ?_, fun b o e n hb hx => ?_, I.base.free, fun b o e hx => ?_, I.base.tups, I.base.frzs, I.base.tbls⟩, ⟨m, hn.sameBut hs (Ne.symm (cne x c hc)), fun j y v' e1 e2 e3 => ?_⟩, fun y c' e => ?_, I.free, I.freeC, fun p hp => ?_, tracked ⟨oc, hoc, I.freeC x c hc⟩ hs, by simpa using I.len⟩ ⟨c, hs, .inr hc⟩
    · exact (hs.2 b (Nat.ne_of_lt (Nat.lt_of_lt_of_le (Heap.lt_size e) (I.ok.cab x c hfn hc)))).trans (I.base.keep b o e n hb hx)
    · obtain ⟨sl, e1⟩ := I.base.slot b o e n hb hx
      exact ⟨sl, (hs.2 b (Nat.ne_of_lt (Nat.lt_of_lt_of_le (Heap.lt_size e) (I.ok.cab x c hfn hc)))).trans e1⟩
    · obtain ⟨o', e1⟩ := I.base.there b o e hx
      exact ⟨o', (hs.2 b (Nat.ne_of_lt (Nat.lt_of_lt_of_le (Heap.lt_size e) (I.ok.cab x c hfn hc)))).trans e1⟩
    · by_cases hj : j = i
      · subst hj
        rw [hi] at e1; cases e1
        rw [List.getElem?_set_self hiσ] at e2
        cases e2
        exact ⟨u, r, .inr ⟨.inl hk, c, hc, hc'⟩⟩
      · rw [List.getElem?_set_ne (Ne.symm hj)] at e2
        obtain ⟨u', r', q⟩ := hl j y v' e1 e2 e3
        refine ⟨u', r', ?_⟩
        rcases q with q | ⟨k, c', e, z'⟩
        · exact .inl q
        · refine .inr ⟨k, c', e, z'.sameBut hs ?_⟩
          rintro rfl
          exact hj (nodup_ix hN e1 (I.ok.inj _ _ _ e hc ▸ hi))
    · by_cases hcc : c' = c
      · subst hcc; exact ⟨_, hc'⟩
      · obtain ⟨w2, z2⟩ := I.cell y c' e
        exact ⟨w2, z2.sameBut hs hcc⟩
    · obtain ⟨e, n, ne, nf, d⟩ := I.pin p hp
      refine ⟨(hs.2 p.1 ?_).trans e, n, ne, nf, d⟩
      intro q
      rw [q, hoc] at e
      have q' : oc = p.2 := Option.some.inj e
      exact d w' (by rw [← q']; exact hocd)
theorem store_ok {M : Model} {A : Around} {E : Value → Shared → Prop} {i : Nat} {x : Str} {v : V} {u : Value} {Q : Unit → Shared → Prop} (I : Inv X pins σ H s) (hN : X.N.Nodup) (hi : X.N[i]? = some x) (hx : Loc X.env.scope x) (r : RelV v u)
    (h : ∀ s', Inv X pins (σ.set i (some v)) H s' → Q () s') (hf : X.fn x = true ∨ X.env.scope.names.lookup x = some .local := by first | exact .inl rfl | exact .inr rfl | assumption) : wpAny M A (storeName X.env x u) Q E s :=
  store_ok2 I hN hi hx r (fun s' I' _ => h s' I') hf
theorem Inv.call' {s' : Shared} {ch : List Addr} (I : Inv X pins σ H s) (ho : s'.os = s.os) (u : Un (frs X.stack) ch H H' s.heap s'.heap) (hok : HOk X.prog X.w H' s'.heap) (hg : AllBare s'.gens)
    (hch : ∀ b ∈ ch, (b ∈ X.ex ∨ X.s₀.heap.objs.size ≤ b) ∧ b ≠ X.env.locals ∧ (∀ x c, X.env.cells.lookup x = some c → c ≠ b) ∧ ∀ p ∈ X.pn ++ pins, p.1 ≠ b) : Inv X pins σ H' s' := by
  obtain ⟨h', g', d', t', o'⟩ := s'
  have e : o' = s.os := ho
  subst e
  exact I.call (g' := g') (t' := t') (d' := d') u hok hg hch
end
abbrev XK := Value → Option Addr → Hp → Prop
abbrev St := List (Option V)
abbrev VK := V → Hp → Prop
abbrev TE := St → Hp → VK → Prop
abbrev TT := St → Hp → (Bool → Hp → Prop) → Prop
abbrev TA := St → Hp → (List V → Hp → Prop) → Prop
structure Ends where
  nx : St → Hp → Prop
  rt : VK
  bk : St → Hp → Prop := fun _ _ => False
  ct : St → Hp → Prop := fun _ _ => False
abbrev TS := Ends → St → Hp → Prop
def EP (X : Cx) (pins : List (Addr × Obj)) (σ : St) (Q : VK) (u : Value) (s' : Shared) : Prop := ∃ v H', Inv X pins σ H' s' ∧ RelV v u ∧ Q v H'
def TP (X : Cx) (pins : List (Addr × Obj)) (σ : St) (Q : Bool → Hp → Prop) (b : Bool) (s' : Shared) : Prop := ∃ H', Inv X pins σ H' s' ∧ Q b H'
def AP (X : Cx) (pins : List (Addr × Obj)) (σ : St) (Q : List V → Hp → Prop) (us : List Value) (s' : Shared) : Prop := ∃ vs H', Inv X pins σ H' s' ∧ Vals vs us ∧ Q vs H'
def SP (X : Cx) (pins : List (Addr × Obj)) (D : Ends) (f : Flow) (s' : Shared) : Prop :=
  match f with
  | .next => ∃ σ' H', Inv X pins σ' H' s' ∧ D.nx σ' H'
  | .brk => ∃ σ' H', Inv X pins σ' H' s' ∧ D.bk σ' H'
  | .cont => ∃ σ' H', Inv X pins σ' H' s' ∧ D.ct σ' H'
  | .ret u => ∃ v σ' H', Inv X pins σ' H' s' ∧ RelV v u ∧ D.rt v H'
def PE (X : Cx) (e : Expr) (t : TE) : Prop :=
  ∀ (pins : List (Addr × Obj)) (s : Shared) (σ : St) (H : Hp) (Q : VK), Inv X pins σ H s → t σ H Q → wpAny (model X.prog X.w) X.A (eval e X.env) (EP X pins σ Q) X.xe s
def PT (X : Cx) (e : Expr) (t : TT) : Prop :=
  ∀ (pins : List (Addr × Obj)) (s : Shared) (σ : St) (H : Hp) (Q : Bool → Hp → Prop), Inv X pins σ H s → t σ H Q → wpAny (model X.prog X.w) X.A (isTrue e X.env (eval e X.env)) (TP X pins σ Q) X.xe s
def PW (X : Cx) (e : Expr) (t : TT) : Prop :=
  ∀ (whole : Sem Value) (pins : List (Addr × Obj)) (s : Shared) (σ : St) (H : Hp) (Q : Bool → Hp → Prop), Inv X pins σ H s → t σ H Q → wpAny (model X.prog X.w) X.A (isTrue e X.env whole) (TP X pins σ Q) X.xe s
theorem PW.pt {X : Cx} {e : Expr} {t : TT} (h : PW X e t) : PT X e t := h _
def PA (X : Cx) (es : List Expr) (t : TA) : Prop :=
  ∀ (pos : Pos) (pins : List (Addr × Obj)) (s : Shared) (σ : St) (H : Hp) (Q : List V → Hp → Prop), Inv X pins σ H s → t σ H Q → wpAny (model X.prog X.w) X.A (spliced (backTo pos (starEach es X.env))) (AP X pins σ Q) X.xe s
def PS (X : Cx) (st : Stmt) (t : TS) : Prop :=
  ∀ (pins : List (Addr × Obj)) (s : Shared) (σ : St) (H : Hp) (D : Ends), Inv X pins σ H s → t D σ H → wpAny (model X.prog X.w) X.A (exec st X.env) (SP X pins D) X.xe s
def PSs (X : Cx) (st : List Stmt) (t : TS) : Prop :=
  ∀ (pins : List (Addr × Obj)) (s : Shared) (σ : St) (H : Hp) (D : Ends), Inv X pins σ H s → t D σ H → wpAny (model X.prog X.w) X.A (execs st X.env) (SP X pins D) X.xe s
theorem thn {α : Type} {t : Sem α} {Q Q' : α → Shared → Prop} {M : Model} {A : Around} {E : Value → Shared → Prop} {s : Shared} (h : wpAny M A t Q E s) (hQ : ∀ a s, Q a s → Q' a s) : wpAny M A t Q' E s := wpAny_mono h hQ fun _ _ x => x
end L2
namespace L2
open PySem PySem.Spec PyProof.Rows
section
variable {X : Cx}
def tVar (i : Nat) : TE := fun σ H Q => ∃ v, σ[i]? = some (some v) ∧ Q v H
def tC (v : V) : TE := fun _ H Q => Q v H
theorem pe_var {i : Nat} {x : Str} {pos : Pos} (hN : X.N[i]? = some x) (hv : Vis X.env.scope x) (hd : (x == ("__debug__" : Str)) = false := by decide) (hcd : (x == ("__classdict__" : Str)) = false := by decide) : PE X (.Name x pos) (tVar i) := by
  intro pins s σ H Q I h
  obtain ⟨v, e, h⟩ := h
  obtain ⟨m, hn, hl⟩ := I.loc
  obtain ⟨u, r, l⟩ := hl i x v hN e hv
  have fin : EP X pins σ Q u s := ⟨v, H, I, r, h⟩
  rcases l with ⟨hk, hm⟩ | ⟨hk, c, hc, hcell⟩
  · exact wpAny_Name (wpAny_loadName_local I.ok.kind hk hn hm fin) hd
  · rcases hk with hk | hk
    · exact wpAny_Name (wpAny_loadName_cell I.ok.kind hk hc hcell fin) hd
    · exact wpAny_Name (wpAny_loadName_free I.ok.kind hk hc hcell fin hcd) hd
theorem pe_int {i j pos} : PE X (.Constant (.int i) j pos) (tC (.int i)) := fun _ _ _ H _ I h => wpAny_Constant_int ⟨.int i, H, I.tok _, ⟨_, rfl⟩, h⟩
theorem pe_bl {b j pos} : PE X (.Constant (.bool b) j pos) (tC (.bl b)) := fun _ _ _ H _ I h => Constant_bool ⟨.bl b, H, I, rfl, h⟩
theorem pe_non {j pos} : PE X (.Constant .none j pos) (tC .non) := fun _ _ _ H _ I h => Constant_none ⟨.non, H, I, rfl, h⟩
theorem pe_str {x j pos} : PE X (.Constant (.str x) j pos) (tC (.str x)) := fun _ _ _ H _ I h => Calls.Constant_str ⟨.str x, H, I.tok _, ⟨_, rfl⟩, h⟩
def Gl (X : Cx) (x : Str) : Prop := X.env.kindOf x = some .globalImplicit
theorem ld_glob {E : Value → Shared → Prop} {pins : List (Addr × Obj)} {s : Shared} {σ : St} {H : Hp} {x : Str} {u : Value} {pos : Pos} {Q : Value → Shared → Prop} (I : Inv X pins σ H s) (hg : Gl X x) (hm : X.mg x = some u) (h : Q u s)
    (hd : (x == ("__debug__" : Str)) = false := by decide) : wpAny (model X.prog X.w) X.A (eval (.Name x pos) X.env) Q E s :=
  Calls.Name_function_global I.ok.kind hg (Calls.loadGlobal_global (by rw [I.ok.glob]; exact I.mod.glob.keeps I.bk) hm h) hd
theorem ld_blt {E : Value → Shared → Prop} {pins : List (Addr × Obj)} {s : Shared} {σ : St} {H : Hp} {x : Str} {u : Value} {pos : Pos} {Q : Value → Shared → Prop} (I : Inv X pins σ H s) (hg : Gl X x) (hm : X.mg x = none) (hv : bootBuiltins x = some u) (h : Q u s)
    (hn : x ≠ "__name__" := by decide) (hd : (x == ("__debug__" : Str)) = false := by decide) : wpAny (model X.prog X.w) X.A (eval (.Name x pos) X.env) Q E s := by
  obtain ⟨mb, h1, h2⟩ := I.mod.blt
  exact Calls.Name_function_global I.ok.kind hg (Calls.loadGlobal_builtin (by rw [I.ok.glob]; exact I.mod.glob.keeps I.bk) hm (by rw [I.ok.blt]; exact h1.keeps I.bk) ((h2 x hn).trans hv) h) hd
theorem pe_glob {x : Str} {v : V} {u : Value} {pos : Pos} (hg : Gl X x) (hm : X.mg x = some u) (r : RelV v u) (hd : (x == ("__debug__" : Str)) = false := by decide) : PE X (.Name x pos) (tC v) :=
  fun _ _ _ H _ I h => ld_glob I hg hm ⟨v, H, I, r, h⟩ hd
theorem pe_bltn {x : Str} {v : V} {u : Value} {pos : Pos} (hg : Gl X x) (hm : X.mg x = none) (hv : bootBuiltins x = some u) (r : RelV v u) (hn : x ≠ "__name__" := by decide) (hd : (x == ("__debug__" : Str)) = false := by decide) : PE X (.Name x pos) (tC v) :=
  fun _ _ _ H _ I h => ld_blt I hg hm hv ⟨v, H, I, r, h⟩ hn hd
variable {a b : Expr} {ta tb : TE} {pos : Pos}
def tB (t : TE) : TT := fun σ H Q => t σ H fun x H1 => ∃ c, x = .bl c ∧ Q c H1
theorem pt_val {e : Expr} {t : TE} (h : PE X e t) (he : ∀ whole, isTrue e X.env whole = (do let v ← whole; standAt e.pos; holding [v] (truthy v)) := by intro _; rfl) : PT X e (tB t) := by
  intro pins s σ H Q I hw
  refine isTrue_plain (thn (h pins s σ H _ I hw) fun v s1 ⟨x, H1, I1, r1, q1⟩ => ?_) (he _)
  obtain ⟨d, rfl, q⟩ := q1
  cases r1
  exact wpAny_truthy_bool ⟨H1, I1, q⟩
variable {tA tB' : TT} {rest : List Expr}
def tAnd (t u : TT) : TT := fun σ H Q => t σ H fun c H1 => if c = true then u σ H1 Q else Q false H1
def tOr (t u : TT) : TT := fun σ H Q => t σ H fun c H1 => if c = true then Q true H1 else u σ H1 Q
def tNot (t : TT) : TT := fun σ H Q => t σ H fun c H1 => Q (!c) H1
theorem pw_and1 (ha : PT X a tA) : PW X (.BoolOp .And [a] pos) tA := by
  intro wh pins s σ H Q I h
  refine isTrue_and (thn (ha pins s σ H Q I h) fun c s1 e => ?_)
  cases c with
  | true => exact isTrue_and_nil e
  | false => exact e
theorem pw_or1 (ha : PT X a tA) : PW X (.BoolOp .Or [a] pos) tA := by
  intro wh pins s σ H Q I h
  refine isTrue_or (thn (ha pins s σ H Q I h) fun c s1 e => ?_)
  cases c with
  | false => exact isTrue_or_nil e
  | true => exact e
theorem pw_and (ha : PT X a tA) (hb : PW X (.BoolOp .And (b :: rest) pos) tB') : PW X (.BoolOp .And (a :: b :: rest) pos) (tAnd tA tB') := by
  intro wh pins s σ H Q I h
  refine isTrue_and (thn (ha pins s σ H _ I h) fun c s1 ⟨H1, I1, q1⟩ => ?_)
  cases c with
  | true => exact hb wh pins s1 σ H1 Q I1 q1
  | false => exact ⟨H1, I1, q1⟩
theorem pw_or (ha : PT X a tA) (hb : PW X (.BoolOp .Or (b :: rest) pos) tB') : PW X (.BoolOp .Or (a :: b :: rest) pos) (tOr tA tB') := by
  intro wh pins s σ H Q I h
  refine isTrue_or (thn (ha pins s σ H _ I h) fun c s1 ⟨H1, I1, q1⟩ => ?_)
  cases c with
  | true => exact ⟨H1, I1, q1⟩
  | false => exact hb wh pins s1 σ H1 Q I1 q1
theorem pt_not (ha : PT X a tA) : PT X (.UnaryOp .Not a pos) (tNot tA) := by
  intro pins s σ H Q I h
  exact isTrue_not (ha pins s σ H (fun c H1 => Q (!c) H1) I h)
def tAndV (ta tb : TE) : TE := fun σ H Q => ta σ H fun x H1 => ∃ c, x = .bl c ∧ if c = true then tb σ H1 Q else Q (.bl false) H1
def tOrV (ta tb : TE) : TE := fun σ H Q => ta σ H fun x H1 => ∃ c, x = .bl c ∧ if c = true then Q (.bl true) H1 else tb σ H1 Q
def tNotV (ta : TE) : TE := fun σ H Q => ta σ H fun x H1 => ∃ c, x = .bl c ∧ Q (.bl (!c)) H1
theorem pe_one {op} {t : TE} (h : PE X a t) : PE X (.BoolOp op [a] pos) t := fun pins s σ H Q I hw => BoolOp_one (h pins s σ H Q I hw)
theorem pe_and (ha : PE X a ta) (hb : PE X (.BoolOp .And (b :: rest) pos) tb) : PE X (.BoolOp .And (a :: b :: rest) pos) (tAndV ta tb) := by
  intro pins s σ H Q I h
  refine BoolOp_and (thn (ha pins s σ H _ I h) fun v s1 ⟨x, H1, I1, r1, q1⟩ => ?_)
  obtain ⟨c, rfl, q1⟩ := q1
  cases r1
  refine wpAny_truthy_bool ?_
  cases c with
  | true => exact hb pins s1 σ H1 Q I1 q1
  | false => exact ⟨.bl false, H1, I1, rfl, q1⟩
theorem pe_not (ha : PE X a ta) : PE X (.UnaryOp .Not a pos) (tNotV ta) := by
  intro pins s σ H Q I h
  refine UnaryOp_ (thn (ha pins s σ H _ I h) fun v s1 ⟨x, H1, I1, r1, q1⟩ => ?_)
  obtain ⟨c, rfl, q1⟩ := q1
  cases r1
  exact not_of (wpAny_truthy_bool ⟨.bl (!c), H1, I1, rfl, q1⟩)
def tIf (t : TT) (ta tb : TE) : TE := fun σ H Q => t σ H fun c H1 => if c = true then ta σ H1 Q else tb σ H1 Q
theorem pe_ifExp {c : Expr} (hc : PT X c tA) (ha : PE X a ta) (hb : PE X b tb) : PE X (.IfExp c a b pos) (tIf tA ta tb) := by
  intro pins s σ H Q I h
  refine wpAny_IfExp (thn (hc pins s σ H _ I h) fun d s1 ⟨H1, I1, q1⟩ => ?_)
  cases d with
  | true => exact ha pins s1 σ H1 Q I1 q1
  | false => exact hb pins s1 σ H1 Q I1 q1
end
end L2
namespace L2
open PySem PySem.Spec PyProof.Rows
def SqL (K : PySem.W.Frag) (H : Hp) (a : Addr) (xs : List V) : Prop :=
  Rd H a (.lst xs) ∨
    ∃ (o : Obj) (its : Array Value) (n : Nat), K.lookup a = some o ∧ o.cls = .type "list" ∧ o.dict = none ∧ o.data = .seq its n ∧ its.size ≤ sizeLine ∧ Vals xs its.toList
def SqT (K : PySem.W.Frag) (H : Hp) (a : Addr) (xs : List V) : Prop :=
  Rd H a (.tup xs) ∨
    ∃ (o : Obj) (its : Array Value) (n : Nat), K.lookup a = some o ∧ o.cls = .type "tuple" ∧ o.data = .seq its n ∧ its.size ≤ sizeLine ∧ Vals xs its.toList
def absV : Value → Option V
  | .none => some .non
  | .bool b => some (.bl b)
  | .int i _ => some (.int i)
  | .str x _ => some (.str x)
  | .bytes b _ => some (.byt b)
  | .float b _ => some (.flt b)
  | .ref a => some (.ref a)
  | .type n => some (.ty n)
  | _ => none
theorem RelV.abs {x : V} {u : Value} (r : RelV x u) : absV u = some x := by
  cases x with
  | non => cases r; rfl
  | bl _ => cases r; rfl
  | int _ => obtain ⟨t, rfl⟩ := r; rfl
  | str _ => obtain ⟨t, rfl⟩ := r; rfl
  | byt _ => obtain ⟨t, rfl⟩ := r; rfl
  | flt _ => obtain ⟨t, rfl⟩ := r; rfl
  | ref _ => cases r; rfl
  | ty _ => cases r; rfl
theorem RelV.inj {x y : V} {u : Value} (r : RelV x u) (q : RelV y u) : x = y := Option.some.inj (r.abs.symm.trans q.abs)
theorem Vals.inj : ∀ {xs ys : List V} {us : List Value}, Vals xs us → Vals ys us → xs = ys
  | _, _, _, .nil, .nil => rfl
  | _, _, _, .cons r t, .cons r' t' => by rw [r.inj r', Vals.inj t t']
section
variable {X : Cx} {pins : List (Addr × Obj)} {σ : St} {H : Hp} {s : Shared} {a : Addr} {xs ys : List V}
theorem SqL.of {K : PySem.W.Frag} (h : H a = some (.lst xs)) : SqL K H a xs := .inl (.inl h)
theorem SqT.of {K : PySem.W.Frag} (h : H a = some (.tup xs)) : SqT K H a xs := .inl (.inl h)
theorem Inv.list (I : Inv X pins σ H s) (h : SqL X.K H a xs) : ∃ its : List Value, Vals xs its ∧ PlainL s.heap a its.toArray ∧ xs.length ≤ sizeLine := by
  rcases h with h | ⟨o, its, n, hk, hc, hd, hs, hz, r⟩
  · obtain ⟨z, its, n, r, e⟩ := h.ok I.hok
    exact ⟨its, r, ⟨_, n, e, rfl, rfl, rfl⟩, z⟩
  · refine ⟨its.toList, r, ⟨o, n, I.kIn a o hk, hc, hd, by simpa using hs⟩, ?_⟩
    have e := r.length
    simp only [Array.length_toList] at e
    omega
theorem Inv.tuple (I : Inv X pins σ H s) (h : SqT X.K H a xs) : ∃ its : List Value, Vals xs its ∧ IsTup s.heap a its.toArray ∧ xs.length ≤ sizeLine := by
  rcases h with h | ⟨o, its, n, hk, hc, hs, hz, r⟩
  · obtain ⟨z, its, r, p⟩ := h.ok I.hok
    exact ⟨its, r, p, z⟩
  · refine ⟨its.toList, r, ⟨o, I.kIn a o hk, hc, n, by simpa using hs⟩, ?_⟩
    have e := r.length
    simp only [Array.length_toList] at e
    omega
theorem Inv.list_inj (I : Inv X pins σ H s) (h : SqL X.K H a xs) (h' : SqL X.K H a ys) : xs = ys := by
  obtain ⟨its, r, ⟨o, n, e, _, _, d⟩, _⟩ := I.list h
  obtain ⟨its', r', ⟨o', n', e', _, _, d'⟩, _⟩ := I.list h'
  rw [e] at e'; cases e'
  rw [d] at d'
  injection d' with d1 _
  have : its = its' := by simpa using congrArg Array.toList d1
  subst this
  exact r.inj r'
theorem Inv.tuple_inj (I : Inv X pins σ H s) (h : SqT X.K H a xs) (h' : SqT X.K H a ys) : xs = ys := by
  obtain ⟨its, r, ⟨o, e, _, n, d⟩, _⟩ := I.tuple h
  obtain ⟨its', r', ⟨o', e', _, n', d'⟩, _⟩ := I.tuple h'
  rw [e] at e'; cases e'
  rw [d] at d'
  injection d' with d1 _
  have : its = its' := by simpa using congrArg Array.toList d1
  subst this
  exact r.inj r'
end
abbrev Cx.wish (X : Cx) (E : Value → Shared → Prop) : Cx := { X with xe := E }
abbrev Cx.nox (X : Cx) : Cx := X.wish fun _ _ => False
theorem Cx.Ok.wish {X : Cx} (ok : X.Ok) (E : Value → Shared → Prop) : (X.wish E).Ok :=
  ⟨ok.mod, ok.kind, ok.glob, ok.blt, ok.above, ok.inj, ok.has, ok.cab, ok.hd, ok.frames, ok.stk, ok.exf, ok.bs, ok.bsz, ok.noex, ok.exfs, ok.funs, ok.frf⟩
theorem Cx.Ok.unwish {X : Cx} {E : Value → Shared → Prop} (ok : (X.wish E).Ok) : X.Ok :=
  ⟨ok.mod, ok.kind, ok.glob, ok.blt, ok.above, ok.inj, ok.has, ok.cab, ok.hd, ok.frames, ok.stk, ok.exf, ok.bs, ok.bsz, ok.noex, ok.exfs, ok.funs, ok.frf⟩
section
variable {X : Cx} {pins : List (Addr × Obj)} {σ : St} {H : Hp} {s : Shared} {E : Value → Shared → Prop}
theorem Inv.wish (I : Inv X pins σ H s) (E : Value → Shared → Prop) : Inv (X.wish E) pins σ H s := ⟨I.ok.wish E, I.os, I.bare, I.base, I.loc, I.cell, I.free, I.freeC, I.pin, I.hok, I.len⟩
theorem Inv.unwish (I : Inv (X.wish E) pins σ H s) : Inv X pins σ H s := ⟨I.ok.unwish, I.os, I.bare, I.base, I.loc, I.cell, I.free, I.freeC, I.pin, I.hok, I.len⟩
theorem SP.unwish {D : Ends} {f : Flow} {s' : Shared} (h : SP (X.wish E) pins D f s') : SP X pins D f s' := by
  cases f with
  | next => obtain ⟨σ', H', I, q⟩ := h; exact ⟨σ', H', I.unwish, q⟩
  | brk => obtain ⟨σ', H', I, q⟩ := h; exact ⟨σ', H', I.unwish, q⟩
  | cont => obtain ⟨σ', H', I, q⟩ := h; exact ⟨σ', H', I.unwish, q⟩
  | ret u => obtain ⟨v, σ', H', I, r, q⟩ := h; exact ⟨v, σ', H', I.unwish, r, q⟩
theorem PSs.nox {st : List Stmt} {t : TS} (h : PSs X.nox st t) : PSs X st t := fun pins s σ H D I hw =>
  wpAny_mono (h pins s σ H D (I.wish _) hw) (fun _ _ q => q.unwish) fun _ _ z => False.elim z
end
section
variable {X : Cx} {st : Stmt} {rest : List Stmt} {t u : TS} {e : Expr} {te : TE} {pos : Pos}
def tNext : TS := fun D σ H => D.nx σ H
def tSeq (t u : TS) : TS := fun D σ H => t { D with nx := u D } σ H
theorem pss_nil : PSs X [] tNext := fun _ _ σ H _ I h => wpAny_execs_nil ⟨σ, H, I, h⟩
theorem pss_cons (h1 : PS X st t) (h2 : PSs X rest u) : PSs X (st :: rest) (tSeq t u) := by
  intro pins s σ H D I h
  refine wpAny_execs_cons (thn (h1 pins s σ H { D with nx := u D } I h) fun f s1 q => ?_)
  cases f with
  | next =>
    obtain ⟨σ', H', I', q⟩ := q
    exact h2 pins s1 σ' H' D I' q
  | ret v => exact q
  | brk => exact q
  | cont => exact q
theorem pss_one (h1 : PS X st t) : PSs X [st] t := by
  intro pins s σ H D I h
  refine wpAny_execs_cons (thn (h1 pins s σ H D I h) fun f s1 q => ?_)
  cases f with
  | next => exact wpAny_execs_nil q
  | ret v => exact q
  | brk => exact q
  | cont => exact q
theorem Inv.quiet {pins : List (Addr × Obj)} {σ : St} {H : Hp} {s : Shared} (I : Inv X pins σ H s) : interactive X.env = false := by simp [interactive, I.ok.kind]
def tDrop (te : TE) : TS := fun D σ H => te σ H fun _ H1 => D.nx σ H1
theorem ps_expr (he : PE X e te) (hs : swapsWith e none pos.line X.env = pure false := by rfl) : PS X (.Expr e pos) (tDrop te) := by
  intro pins s σ H D I h
  exact wpAny_Expr_any (thn (he pins s σ H _ I h) fun v s1 ⟨x, H1, I1, r1, q1⟩ => ⟨σ, H1, I1, q1⟩) I.quiet hs
def tRet (te : TE) : TS := fun D σ H => te σ H D.rt
theorem ps_ret (he : PE X e te) : PS X (.Return (some e) pos) (tRet te) := by
  intro pins s σ H D I h
  exact wpAny_Return_some (thn (he pins s σ H _ I h) fun v s1 ⟨x, H1, I1, r1, q1⟩ => ⟨x, σ, H1, I1, r1, q1⟩)
def tRetN : TS := fun D _ H => D.rt .non H
def tIfS (c : TT) (t u : TS) : TS := fun D σ H => c σ H fun b H1 => if b = true then t D σ H1 else u D σ H1
theorem ps_if {c : Expr} {a b : List Stmt} {tc : TT} (hc : PT X c tc) (ha : PSs X a t) (hb : PSs X b u) : PS X (.If c a b pos) (tIfS tc t u) := by
  intro pins s σ H D I h
  refine wpAny_If (thn (hc pins s σ H _ I h) fun d s1 ⟨H1, I1, q1⟩ => ?_)
  cases d with
  | true => exact ha pins s1 σ H1 D I1 q1
  | false => exact hb pins s1 σ H1 D I1 q1
end
abbrev TG := V → St → Hp → (St → Hp → Prop) → Prop
abbrev TGs := List V → St → Hp → (St → Hp → Prop) → Prop
def PG (X : Cx) (target : Expr) (t : TG) : Prop :=
  ∀ (pins : List (Addr × Obj)) (s : Shared) (σ : St) (H : Hp) (v : V) (u : Value) (Q : St → Hp → Prop), Inv X pins σ H s → RelV v u → t v σ H Q →
    wpAny (model X.prog X.w) X.A (assign target X.env u) (fun _ s' => ∃ σ' H', Inv X pins σ' H' s' ∧ Q σ' H') X.xe s
def PGs (X : Cx) (ts : List Expr) (t : TGs) : Prop :=
  ∀ (pins : List (Addr × Obj)) (s : Shared) (σ : St) (H : Hp) (vs : List V) (us : List Value) (Q : St → Hp → Prop), Inv X pins σ H s → Vals vs us → t vs σ H Q →
    wpAny (model X.prog X.w) X.A (assignInOrder ((assignEach ts X.env).map (·.2)) us) (fun _ s' => ∃ σ' H', Inv X pins σ' H' s' ∧ Q σ' H') X.xe s
abbrev TSet := V → V → V → Hp → (Hp → Prop) → Prop
def PSet (X : Cx) (t : TSet) : Prop :=
  ∀ (pins : List (Addr × Obj)) (s : Shared) (σ : St) (H : Hp) (o i v : V) (ov iv u : Value) (Q : Hp → Prop), Inv X pins σ H s → RelV o ov → RelV i iv → RelV v u → t o i v H Q →
    wpAny (model X.prog X.w) X.A (setItem ov iv u) (fun _ s' => ∃ H', Inv X pins σ H' s' ∧ Q H') X.xe s
abbrev TIp := V → V → Hp → VK → Prop
def PIp (X : Cx) (op : Operator) (t : TIp) : Prop :=
  ∀ (pins : List (Addr × Obj)) (s : Shared) (σ : St) (H : Hp) (x y : V) (v u : Value) (Q : VK), Inv X pins σ H s → RelV x v → RelV y u → t x y H Q →
    wpAny (model X.prog X.w) X.A (inplaceOp op v u) (EP X pins σ Q) X.xe s
section
variable {X : Cx} {pos : Pos}
def gName (i : Nat) : TG := fun v σ H Q => Q (σ.set i (some v)) H
theorem pg_name {i : Nat} {x : Str} (hN : X.N.Nodup) (hi : X.N[i]? = some x) (hx : Loc X.env.scope x) (hf : X.fn x = true ∨ X.env.scope.names.lookup x = some .local := by first | exact .inl rfl | exact .inr rfl | assumption) : PG X (.Name x pos) (gName i) := by
  intro pins s σ H v u Q I r h
  exact wpAny_assign_Name (store_ok I hN hi hx r (fun s' I' => ⟨_, H, I', h⟩) hf)
def gNil : TGs := fun vs σ H Q => vs = [] ∧ Q σ H
def gCons (t : TG) (u : TGs) : TGs := fun vs σ H Q => ∃ v r, vs = v :: r ∧ t v σ H fun σ' H' => u r σ' H' Q
theorem pgs_nil : PGs X [] gNil := by
  intro pins s σ H vs us Q I r h
  obtain ⟨e, h⟩ := h
  subst e
  cases r
  exact assignInOrder_nil ⟨σ, H, I, h⟩
theorem pgs_cons {e : Expr} {es : List Expr} {t : TG} {u : TGs} (h1 : PG X e t) (h2 : PGs X es u)
    (hs : (assignEach (e :: es) X.env).map (·.2) = assign e X.env :: (assignEach es X.env).map (·.2) := by rfl) : PGs X (e :: es) (gCons t u) := by
  intro pins s σ H vs us Q I r h
  obtain ⟨v, vr, e1, h⟩ := h
  subst e1
  cases r with
  | cons r rr =>
    rw [hs]
    refine assignInOrder_cons (thn (h1 pins s σ H _ _ _ I r h) fun _ s1 ⟨σ1, H1, I1, q1⟩ => ?_)
    exact h2 pins s1 σ1 H1 _ _ Q I1 rr q1
def gTup (K : PySem.W.Frag) (n : Nat) (t : TGs) : TG := fun v σ H Q => ∃ a xs, v = .ref a ∧ SqT K H a xs ∧ xs.length = n ∧ t xs σ H Q
theorem pg_tup {es : List Expr} {k : Nat} {t : TGs} {n : Nat} (hc : X.calm = true) (h : PGs X es t)
    (hn : (assignEach es X.env).length = n := by rfl) (hst : (assignEach es X.env).findIdx? (·.1) = none := by rfl) : PG X (.Tuple es k pos) (gTup X.K n t) := by
  intro pins s σ H v u Q I r hw
  obtain ⟨a, xs, e1, hq, hl, hw⟩ := hw
  subst e1
  cases r
  obtain ⟨its, rv, ht, hz⟩ := I.tuple hq
  refine assign_Tuple_tuple (I.ok.hd hc) ht (by simp [hn, ← hl, rv.length]) hst fun h' hx => ?_
  have I1 : Inv X pins σ H { s with heap := h' } := I.kept (t' := s.toks) fun b o e => hx b o (Nat.ne_of_lt (Heap.lt_size e)) e
  exact h pins _ σ H xs _ Q I1 (by simpa using rv) hw
def gSub (to ti : TE) (t : TSet) : TG := fun v σ H Q => to σ H fun o H1 => ti σ H1 fun i H2 => t o i v H2 fun H3 => Q σ H3
theorem pg_sub {o i : Expr} {to ti : TE} {t : TSet} (ho : PE X o to) (hi : PE X i ti) (hs : PSet X t)
    (ha : ∀ v, assign (.Subscript o i pos) X.env v = (do
      let ov ← holding [v] (eval o X.env)
      let iv ← holding [v, ov] (eval i X.env)
      standAt pos
      holding [v, ov, iv] (setItem ov iv v)
      release [v, ov, iv] []) := by intro _; rfl) : PG X (.Subscript o i pos) (gSub to ti t) := by
  intro pins s σ H v u Q I r h
  rw [ha]
  refine wpAny_bind (wpAny_holding (thn (ho pins s σ H _ I h) fun ov s1 ⟨x, H1, I1, r1, q1⟩ => ?_))
  refine wpAny_bind (wpAny_holding (thn (hi pins s1 σ H1 _ I1 q1) fun iv s2 ⟨y, H2, I2, r2, q2⟩ => ?_))
  refine wpAny_bind (wpAny_standAt (wpAny_bind (wpAny_holding (thn (hs pins s2 σ H2 x y v ov iv u _ I2 r1 r2 r q2) fun _ s3 ⟨H3, I3, q3⟩ => ?_))))
  exact wpAny_release ⟨σ, H3, I3, q3⟩
def tAsg (te : TE) (g : TG) : TS := fun D σ H => te σ H fun x H1 => g x σ H1 D.nx
theorem ps_asg {tg e : Expr} {te : TE} {g : TG} (he : PE X e te) (hg : PG X tg g) (hs : swapsWithSole [tg] e pos.line X.env = pure false := by rfl) (hw : swappedStores [tg] e X.env = pure none := by rfl)
    (h1 : (assignEach [tg] X.env).map (·.2) = [assign tg X.env] := by rfl) : PS X (.Assign [tg] e pos) (tAsg te g) := by
  intro pins s σ H D I h
  refine wpAny_Assign_stores (thn (he pins s σ H _ I h) fun v s1 ⟨x, H1, I1, r1, q1⟩ => ?_) hs hw
  rw [h1]
  exact thn (hg pins s1 σ H1 x v _ I1 r1 q1) fun _ s2 q => q
theorem ps_set {i : Nat} {x : Str} {e : Expr} {te : TE} {pos' : Pos} (hN : X.N.Nodup) (hi : X.N[i]? = some x) (hx : Loc X.env.scope x) (he : PE X e te) (hs : swapsWith e (some (.Name x pos')) pos.line X.env = pure false := by rfl) (hf : X.fn x = true ∨ X.env.scope.names.lookup x = some .local := by first | exact .inl rfl | exact .inr rfl | assumption) :
    PS X (.Assign [.Name x pos'] e pos) (tAsg te (gName i)) := by
  intro pins s σ H D I h
  refine wpAny_Assign_Name (thn (he pins s σ H _ I h) fun v s1 ⟨y, H1, I1, r1, q1⟩ => ?_) hs
  exact store_ok I1 hN hi hx r1 (fun s2 I2 => ⟨_, H1, I2, q1⟩) hf
def tPar (i j : Nat) (ta : TA) : TS := fun D σ H => ta σ H fun vs H1 => ∃ v w, vs = [v, w] ∧ D.nx ((σ.set i (some v)).set j (some w)) H1
theorem ps_par {i j : Nat} {x y : Str} {a b : Expr} {ta : TA} {px py pt : Pos} {kt k2 pt2} (hc : X.calm = true) (hN : X.N.Nodup) (hi : X.N[i]? = some x) (hj : X.N[j]? = some y) (hij : i ≠ j)
    (hx : X.env.scope.names.lookup x = some .local) (hy : X.env.scope.names.lookup y = some .local) (ha : PA X [a, b] ta)
    (hw : swappedStores [.Tuple [.Name x px, .Name y py] kt pt] (.Tuple [a, b] k2 pt2) X.env = pure (some [x, y]))
    (hs : swapsWithSole [.Tuple [.Name x px, .Name y py] kt pt] (.Tuple [a, b] k2 pt2) pos.line X.env = pure false := by rfl) :
    PS X (.Assign [.Tuple [.Name x px, .Name y py] kt pt] (.Tuple [a, b] k2 pt2) pos) (tPar i j ta) := by
  intro pins s σ H D I h
  rw [exec_Assign_arm]
  refine wpAny_bind (wpAny_standAt ?_)
  rw [hs]
  refine wpAny_bind (wpAny_pure ?_)
  rw [if_neg (by decide)]
  refine wpAny_bind (Tuple_ (thn (ha _ pins s σ H _ I h) fun us s1 ⟨vs, H1, I1, r1, q1⟩ => ?_))
  obtain ⟨v, w, e1, q1⟩ := q1
  subst e1
  obtain ⟨u1, u2, rfl, rv, rw'⟩ : ∃ u1 u2, us = [u1, u2] ∧ RelV v u1 ∧ RelV w u2 := by
    cases r1 with
    | cons p q =>
      cases q with
      | cons p' q' =>
        cases q'
        exact ⟨_, _, rfl, p, p'⟩
  refine wpAny_newObj_type ?_ (by show 2 ≤ sizeLine; decide)
  have I2 : Inv X pins σ H1 { s1 with heap := s1.heap.push { cls := .type "tuple", data := .seq [u1, u2].toArray } } := I1.kept (t' := s1.toks) fun b o e => Heap.get?_push_of_some _ e
  rw [hw]
  refine wpAny_bind (wpAny_pure ?_)
  show wpAny (model X.prog X.w) X.A (do rule "assign.swapped-stores"; let items ← unpackItems (.ref s1.heap.objs.size) 2 none; assignInOrder [fun v => bindName X.env y v, fun v => bindName X.env x v] items.reverse; pure Flow.next) _ _ _
  refine wpAny_bind (wpAny_rule (wpAny_bind (unpackItems_tuple (items := #[u1, u2]) (I.ok.hd hc) (IsTup.new s1.heap _) fun h' hx' => ?_)))
  have I3 := I2.kept (h' := h') (t' := s1.toks) fun b o e => hx' b o (Nat.ne_of_lt (Heap.lt_size e)) e
  show wpAny _ _ (assignInOrder [fun v => bindName X.env y v, fun v => bindName X.env x v] [u2, u1] >>= fun _ => pure Flow.next) _ _ _
  refine wpAny_bind (assignInOrder_cons (wpAny_bindName (store_ok I3 hN hj (.inl hy) rw' (fun s2 I4 => ?_) (.inr hy))))
  refine assignInOrder_cons (wpAny_bindName (store_ok I4 hN hi (.inl hx) rv (fun s3 I5 => assignInOrder_nil (wpAny_pure ?_)) (.inr hx)))
  rw [List.set_comm _ _ (Ne.symm hij)] at I5
  exact ⟨_, H1, I5, q1⟩
def tAug (i : Nat) (te : TE) (ti : TIp) : TS := fun D σ H => ∃ x, σ[i]? = some (some x) ∧ te σ H fun y H1 => ti x y H1 fun z H2 => D.nx (σ.set i (some z)) H2
def tAugS (to ti te : TE) (tget : V → V → Hp → VK → Prop) (tip : TIp) (tset : TSet) : TS := fun D σ H => to σ H fun o H1 => ti σ H1 fun i H2 => tget o i H2 fun x H3 => te σ H3 fun y H4 => tip x y H4 fun z H5 => tset o i z H5 fun H6 => D.nx σ H6
def PGet (X : Cx) (t : V → V → Hp → VK → Prop) : Prop :=
  ∀ (pins : List (Addr × Obj)) (s : Shared) (σ : St) (H : Hp) (o i : V) (ov iv : Value) (Q : VK), Inv X pins σ H s → RelV o ov → RelV i iv → t o i H Q →
    wpAny (model X.prog X.w) X.A (getItem ov iv) (EP X pins σ Q) X.xe s
theorem ps_augS {o i e : Expr} {to ti te : TE} {tget : V → V → Hp → VK → Prop} {tip : TIp} {tset : TSet} {op : Operator} {tpos : Pos} (ho : PE X o to) (hi : PE X i ti) (hg : PGet X tget) (he : PE X e te) (hp : PIp X op tip) (hs : PSet X tset)
    (ha : ∀ ov iv new, augStore i ov iv new = (do holding [new, ov, iv] (setItem ov iv new); release [new, ov, iv] []; pure .next) := by intros; rfl) : PS X (.AugAssign (.Subscript o i tpos) op e pos) (tAugS to ti te tget tip tset) := by
  intro pins s σ H D I h
  refine wpAny_AugAssign_SubscriptAny (thn (ho pins s σ H _ I h) fun ov s1 ⟨x1, H1, I1, r1, q1⟩ => ?_) ha
  refine thn (hi pins s1 σ H1 _ I1 q1) fun iv s2 ⟨x2, H2, I2, r2, q2⟩ => ?_
  refine thn (hg pins s2 σ H2 x1 x2 ov iv _ I2 r1 r2 q2) fun old s3 ⟨x3, H3, I3, r3, q3⟩ => ?_
  refine thn (he pins s3 σ H3 _ I3 q3) fun v s4 ⟨x4, H4, I4, r4, q4⟩ => ?_
  refine thn (hp pins s4 σ H4 x3 x4 old v _ I4 r3 r4 q4) fun new s5 ⟨x5, H5, I5, r5, q5⟩ => ?_
  exact thn (hs pins s5 σ H5 x1 x2 x5 ov iv new _ I5 r1 r2 r5 q5) fun _ s6 ⟨H6, I6, q6⟩ => ⟨σ, H6, I6, q6⟩
def ipI (f : Int → Int → Int) : TIp := fun x y H Q => ∃ i j, x = .int i ∧ y = .int j ∧ Q (.int (f i j)) H
theorem ip_add : PIp X .Add (ipI fun i j => i + j) := by
  intro pins s σ H x y v u Q I r1 r2 h
  obtain ⟨i, j, e1, e2, q⟩ := h
  subst e1; subst e2
  obtain ⟨t, rfl⟩ := r1
  obtain ⟨t', rfl⟩ := r2
  exact iadd_int ⟨.int _, H, I.tok _, ⟨_, rfl⟩, q⟩
end
section
variable {X : Cx} {pos : Pos}
def tWhile (c : TT) (tb : TS) : TS := fun D σ H => ∃ W : Nat → St → Hp → Prop, (∃ m, W m σ H) ∧ ∀ m σ H, W m σ H →
  c σ H fun b H1 => if b = true then ∃ N : St → Hp → Prop, (∀ σ' H', N σ' H' → ∃ m', m' < m ∧ W m' σ' H') ∧ tb { D with nx := N, ct := N, bk := D.nx } σ H1 else D.nx σ H1
theorem ps_while {c : Expr} {body : List Stmt} {tc : TT} {tb : TS} (hp : PassesOwn (model X.prog X.w) X.A X.env X.xe) (hc : PT X c tc) (hb : PSs X body tb) : PS X (.While c body [] pos) (tWhile tc tb) := by
  intro pins s σ H D I h
  obtain ⟨W, ⟨m0, w0⟩, turn⟩ := h
  refine wpAny_While (codeAny_whileLoop (fun n s' => ∃ σ' H', Inv X pins σ' H' s' ∧ W n σ' H') ?_ m0 ⟨σ, H, I, w0⟩)
  rintro n s1 ⟨σ1, H1, I1, w1⟩
  refine wpAny_passesOwn hp (thn (hc pins s1 σ1 H1 _ I1 (turn n σ1 H1 w1)) fun b s2 ⟨H2, I2, q2⟩ => ?_)
  cases b with
  | true =>
    obtain ⟨N, hN, q2⟩ := q2
    rw [if_pos rfl]
    refine wpAny_passesOwn hp (thn (hb pins s2 σ1 H2 _ I2 q2) fun f s3 q3 => ?_)
    cases f with
    | next =>
      obtain ⟨σ3, H3, I3, n3⟩ := q3
      obtain ⟨m', hm, w3⟩ := hN σ3 H3 n3
      exact ⟨m', hm, σ3, H3, I3, w3⟩
    | cont =>
      obtain ⟨σ3, H3, I3, n3⟩ := q3
      obtain ⟨m', hm, w3⟩ := hN σ3 H3 n3
      exact ⟨m', hm, σ3, H3, I3, w3⟩
    | brk => exact q3
    | ret v => exact q3
  | false =>
    rw [if_neg Bool.false_ne_true]
    exact wpAny_execs_nil ⟨σ1, H2, I2, q2⟩
end
structure It where
  go : Nat → Hp → Prop
  yld : Nat → Hp → V → Hp → Prop
  stop : Nat → Hp → Prop
def FpOk (X : Cx) (pins : List (Addr × Obj)) (H : Hp) (b : Addr) : Prop :=
  H b = none ∧ b ≠ X.env.locals ∧ b ∉ X.fs ∧ (b ∈ X.ex ∨ X.s₀.heap.objs.size ≤ b) ∧ (∀ x c, X.env.cells.lookup x = some c → c ≠ b) ∧ ∀ p ∈ X.pn ++ pins, p.1 ≠ b
theorem Inv.fpOk {X : Cx} {pins : List (Addr × Obj)} {σ : St} {H H' : Hp} {s : Shared} {b : Addr} (I : Inv X pins σ H s) (hb : s.heap.objs.size ≤ b) (hn : H' b = none) : FpOk X pins H' b := by
  refine ⟨hn, Nat.ne_of_gt (Nat.lt_of_lt_of_le I.lt hb), I.nofs hb, .inr (Nat.le_trans I.sz hb), fun x c e z => ?_, fun p hp z => ?_⟩
  · obtain ⟨v, q⟩ := I.cell x c e
    exact absurd (Nat.lt_of_lt_of_le q.lt (by rw [z]; exact hb)) (Nat.lt_irrefl _)
  · exact absurd (Nat.lt_of_lt_of_le (Heap.lt_size (I.pin p hp).1) (by rw [z]; exact hb)) (Nat.lt_irrefl _)
structure Turn (P : Program) (w : World) (K : PySem.W.Frag) (tg : Expr) (J : It) (fp : List Addr) (it : Addr) (tn : Nat → Heap → Prop) : Prop where
  mem : it ∈ fp
  obj : ∀ i h, tn i h → ∀ b ∈ fp, ∃ o, h.get? b = some o ∧ ∀ v, o.data ≠ .cell v
  keep : ∀ i h h', tn i h → (∀ b ∈ fp, ∀ o, h.get? b = some o → h'.get? b = some o) → tn i h'
  item : ∀ (X : Cx), X.prog = P → X.w = w → X.K = K → X.calm = true → ∀ (i : Nat) (pins : List (Addr × Obj)) (s : Shared) (σ : St) (H : Hp) (E : Value → Shared → Prop), Inv X pins σ H s → (∀ b ∈ fp, FpOk X pins H b) → tn i s.heap → J.go i H →
    wpAny (model P w) X.A (pyNext (.ref it)) (fun r s1 => ∃ u, r = some u ∧
      wpAny (model P w) X.A (letOwnedTupleGo tg (.ref it) u) (fun _ s2 => ∃ x H', Inv X pins σ H' s2 ∧ RelV x u ∧ J.yld i H x H' ∧ tn (i + 1) s2.heap ∧ ∀ b ∈ fp, H' b = none) E s1) E s
  done : ∀ (X : Cx), X.prog = P → X.w = w → X.K = K → X.calm = true → ∀ (i : Nat) (pins : List (Addr × Obj)) (s : Shared) (σ : St) (H : Hp) (E : Value → Shared → Prop), Inv X pins σ H s → (∀ b ∈ fp, FpOk X pins H b) → tn i s.heap → J.stop i H →
    wpAny (model P w) X.A (pyNext (.ref it)) (fun r s1 => r = none ∧ Inv X pins σ H s1) E s
  self : ∀ (A : Around) (i : Nat) (s : Shared) (Q : Value → Shared → Prop) (E : Value → Shared → Prop), tn i s.heap → Q (.ref it) s → wpAny (model P w) A (pyIter (.ref it)) Q E s
abbrev TI := St → Hp → (It → Hp → Prop) → Prop
def PIE (X : Cx) (pins : List (Addr × Obj)) (σ : St) (tg : Expr) (R : It → Hp → Prop) (itv : Value) (s2 : Shared) : Prop :=
  ∃ (it : Addr) (fp : List Addr) (tn : Nat → Heap → Prop) (J : It) (H' : Hp), itv = .ref it ∧ Inv X pins σ H' s2 ∧ Turn X.prog X.w X.K tg J fp it tn ∧ tn 0 s2.heap ∧ (∀ b ∈ fp, FpOk X pins H' b) ∧ R J H'
def PI (X : Cx) (tg iter : Expr) (wi : TI) : Prop :=
  ∀ (pins : List (Addr × Obj)) (s : Shared) (σ : St) (H : Hp) (R : It → Hp → Prop), Inv X pins σ H s → wi σ H R →
    wpAny (model X.prog X.w) X.A (eval iter X.env) (fun v s1 => wpAny (model X.prog X.w) X.A (pyIter v) (PIE X pins σ tg R) X.xe s1) X.xe s
theorem go_of {M : Model} {A : Around} {E : Value → Shared → Prop} {s : Shared} {tg : Expr} {it : Addr} {u : Value} {o : Obj} {n : String} {vs : Array Value} {Q : Unit → Shared → Prop} (ho : s.heap.get? it = some o) (hc : o.cls = .type n) (hd : o.data = .fields vs)
    (hn : ["enumerate", "zip", "dict_itemiterator", "dict_reverseitemiterator", "odict_iterator", "itertools.zip_longest", "itertools.pairwise"].contains n = false) (hQ : Q () s) : wpAny M A (letOwnedTupleGo tg (.ref it) u) Q E s := by
  unfold letOwnedTupleGo
  cases tg <;> first
    | exact wpAny_pure hQ
    | (cases u <;> first
        | exact wpAny_pure hQ
        | (refine wpAny_bind (wpAny_load ho ?_)
           rw [hc, hd]
           show wpAny M A (if (["enumerate", "zip", "dict_itemiterator", "dict_reverseitemiterator", "odict_iterator", "itertools.zip_longest", "itertools.pairwise"].contains n && vs[0]? == some (rawInt _)) = true then _ else _) Q E s
           rw [if_neg (by intro h; rw [hn, Bool.false_and] at h; cases h)]
           exact wpAny_pure hQ))
def Itl (K : PySem.W.Frag) (a : Addr) : It :=
  ⟨fun i H => ∃ xs x, SqL K H a xs ∧ xs[i]? = some x, fun i H x H' => H' = H ∧ ∀ xs, SqL K H a xs → xs[i]? = some x, fun i H => ∃ xs, SqL K H a xs ∧ xs.length ≤ i⟩
def Itt (K : PySem.W.Frag) (a : Addr) : It :=
  ⟨fun i H => ∃ xs x, SqT K H a xs ∧ xs[i]? = some x, fun i H x H' => H' = H ∧ ∀ xs, SqT K H a xs → xs[i]? = some x, fun i H => ∃ xs, SqT K H a xs ∧ xs.length ≤ i⟩
def Itr (lo : Int) (n : Nat) : It := ⟨fun i _ => i < n, fun i H x H' => H' = H ∧ x = .int (lo + i), fun i _ => n ≤ i⟩
theorem turn_list {P : Program} {w : World} {K : PySem.W.Frag} {tg : Expr} (a it : Addr) : Turn P w K tg (Itl K a) [it] it (fun i h => h.IsListIter it a i) where
  mem := by simp
  obj := fun i h st b hb => by
    have e : b = it := by simpa using hb
    subst e
    obtain ⟨o, e, c, d⟩ := st
    exact ⟨o, e, fun v z => by rw [d] at z; cases z⟩
  keep := fun i h h' st k => st.at fun o e => k it (by simp) o e
  item := by
    intro X hP hw hK hc i pins s σ H E I hf st hg
    subst hP hw hK
    obtain ⟨xs, x, hq, hx⟩ := hg
    obtain ⟨its, rv, p, hz⟩ := I.list hq
    obtain ⟨u, hu, ru⟩ := rv.get hx
    obtain ⟨f0, f1, f2, f3, f4, f5⟩ := hf it (by simp)
    refine wpAny_pyNext_list_item st p.isList (x := u) (by simpa using hu) fun h' st' sb => ?_
    have I1 : Inv X pins σ H { s with heap := h' } := I.turned (t' := s.toks) (fun b o hb e => (sb.2 b hb).trans e) f0 f1 f3 f4 f5
    obtain ⟨o, e, c, d⟩ := id st'
    exact ⟨u, rfl, go_of (s := { s with heap := h' }) e c d (by decide) ⟨x, H, I1, ru, ⟨rfl, fun ys hy => by rw [I.list_inj hy hq]; exact hx⟩, st', fun b hb => (hf b hb).1⟩⟩
  done := by
    intro X hP hw hK hc i pins s σ H E I hf st hg
    subst hP hw hK
    obtain ⟨xs, hq, hx⟩ := hg
    obtain ⟨its, rv, p, hz⟩ := I.list hq
    obtain ⟨f0, f1, f2, f3, f4, f5⟩ := hf it (by simp)
    have hl := rv.length
    exact wpAny_pyNext_list_end (I.ok.hd hc) st p.isList (by simp; omega) fun h' eb => ⟨rfl, I.turned (t' := s.toks) (fun b o hb e => eb b o hb e) f0 f1 f3 f4 f5⟩
  self := fun _ _ _ _ _ st h => wpAny_pyIter_listiter st h
theorem turn_tuple {P : Program} {w : World} {K : PySem.W.Frag} {tg : Expr} (a it : Addr) : Turn P w K tg (Itt K a) [it] it (fun i h => h.IsTupleIter it a i) where
  mem := by simp
  obj := fun i h st b hb => by
    have e : b = it := by simpa using hb
    subst e
    obtain ⟨o, e, c, d⟩ := st
    exact ⟨o, e, fun v z => by rw [d] at z; cases z⟩
  keep := fun i h h' st k => st.at fun o e => k it (by simp) o e
  item := by
    intro X hP hw hK hc i pins s σ H E I hf st hg
    subst hP hw hK
    obtain ⟨xs, x, hq, hx⟩ := hg
    obtain ⟨its, rv, p, hz⟩ := I.tuple hq
    obtain ⟨u, hu, ru⟩ := rv.get hx
    obtain ⟨f0, f1, f2, f3, f4, f5⟩ := hf it (by simp)
    refine wpAny_pyNext_tuple_item st (show s.heap.IsTuple a its.toArray from p) (x := u) (by simpa using hu) fun h' st' sb => ?_
    have I1 : Inv X pins σ H { s with heap := h' } := I.turned (t' := s.toks) (fun b o hb e => (sb.2 b hb).trans e) f0 f1 f3 f4 f5
    obtain ⟨o, e, c, d⟩ := id st'
    exact ⟨u, rfl, go_of (s := { s with heap := h' }) e c d (by decide) ⟨x, H, I1, ru, ⟨rfl, fun ys hy => by rw [I.tuple_inj hy hq]; exact hx⟩, st', fun b hb => (hf b hb).1⟩⟩
  done := by
    intro X hP hw hK hc i pins s σ H E I hf st hg
    subst hP hw hK
    obtain ⟨xs, hq, hx⟩ := hg
    obtain ⟨its, rv, p, hz⟩ := I.tuple hq
    obtain ⟨f0, f1, f2, f3, f4, f5⟩ := hf it (by simp)
    have hl := rv.length
    exact wpAny_pyNext_tuple_end (I.ok.hd hc) st (show s.heap.IsTuple a its.toArray from p) (by simp; omega) fun h' eb => ⟨rfl, I.turned (t' := s.toks) (fun b o hb e => eb b o hb e) f0 f1 f3 f4 f5⟩
  self := fun _ _ _ _ _ st h => wpAny_pyIter_tupleiter st h
theorem turn_range {P : Program} {w : World} {K : PySem.W.Frag} {tg : Expr} (it : Addr) (lo : Int) (n : Nat) : Turn P w K tg (Itr lo n) [it] it (fun i h => IsRangeIter h it (lo + (i : Nat) * 1) ((n : Int) - (i : Nat)) 1) where
  mem := by simp
  obj := fun i h st b hb => by
    have e : b = it := by simpa using hb
    subst e
    exact ⟨_, st, fun v z => by
      have z' : Data.fields _ = Data.cell v := z
      cases z'⟩
  keep := fun i h h' st k => k it (by simp) _ st
  item := by
    intro X hP hw hK hc i pins s σ H E I hf st hg
    subst hP hw hK
    obtain ⟨f0, f1, f2, f3, f4, f5⟩ := hf it (by simp)
    have W := Walks.range (prog := X.prog) (w := X.w) (I.ok.hd hc) it lo 1 n
    refine W.item i s _ _ hg st fun v h' tk hv st' kk => ?_
    obtain ⟨t, rfl⟩ := hv
    have I1 : Inv X pins σ H { s with heap := h', toks := tk } := I.turned (fun b o hb e => kk b o (by simpa using hb) e) f0 f1 f3 f4 f5
    refine ⟨_, rfl, go_of (s := { s with heap := h', toks := tk }) (n := "range_iterator") st' rfl rfl (by decide) ⟨.int (lo + i), H, I1, ⟨t, ?_⟩, ⟨rfl, rfl⟩, st', fun b hb => (hf b hb).1⟩⟩
    rw [Int.mul_one]
  done := by
    intro X hP hw hK hc i pins s σ H E I hf st hg
    subst hP hw hK
    obtain ⟨f0, f1, f2, f3, f4, f5⟩ := hf it (by simp)
    exact wpAny_pyNext_range_end (I.ok.hd hc) st (by have : n ≤ i := hg; omega) fun h' eb => ⟨rfl, I.turned (t' := s.toks) (fun b o hb e => eb b o hb e) f0 f1 f3 f4 f5⟩
  self := fun _ _ _ _ _ st h => wpAny_pyIter_rangeiter st h
end L2
namespace L2
open PySem PySem.Spec PyProof.Rows
section
variable {X : Cx} {tg : Expr}
theorem range_it {pins : List (Addr × Obj)} {σ : St} {H : Hp} {s : Shared} {R : It → Hp → Prop} {E : Value → Shared → Prop} {lo hi : Int} {t u v : Tok} {tk : Nat} (I : Inv X pins σ H s) (h1 : -(2 ^ 62) ≤ lo) (h2 : lo < 2 ^ 62) (h3 : -(2 ^ 62) ≤ hi) (h4 : hi < 2 ^ 62)
    (q : R (Itr lo (hi - lo).toNat) H) : wpAny (model X.prog X.w) X.A (pyIter (.ref s.heap.objs.size)) (PIE X pins σ tg R) E { s with heap := s.heap.push { cls := .type "range", data := .fields #[.int lo t, .int hi u, .int 1 v] }, toks := tk } := by
  refine wpAny_pyIter_range (IsRange.new ..) (small_one h1 h2 h3 h4) ?_
  have I1 : Inv X pins σ H { s with heap := s.heap.push { cls := .type "range", data := .fields #[.int lo t, .int hi u, .int 1 v] }, toks := tk } := I.kept fun b o e => Heap.get?_push_of_some _ e
  refine ⟨(s.heap.push { cls := .type "range", data := .fields #[.int lo t, .int hi u, .int 1 v] }).objs.size, [(s.heap.push { cls := .type "range", data := .fields #[.int lo t, .int hi u, .int 1 v] }).objs.size], _, _, H, rfl,
    I1.kept (t' := tk) fun b o e => Heap.get?_push_of_some _ e, turn_range _ lo (hi - lo).toNat, ?_, fun b hb => ?_, q⟩
  · have e1 : lo + ((0 : Nat) : Int) * 1 = lo := by simp
    have e2 : (((hi - lo).toNat : Nat) : Int) - ((0 : Nat) : Int) = Builtin.Range.rangeSize lo hi 1 := by rw [rangeSize_one]; split <;> omega
    show IsRangeIter _ _ (lo + ((0 : Nat) : Int) * 1) ((((hi - lo).toNat : Nat) : Int) - ((0 : Nat) : Int)) 1
    rw [e1, e2]
    exact Heap.get?_push_size _ rfl
  · have e : b = (s.heap.push { cls := .type "range", data := .fields #[.int lo t, .int hi u, .int 1 v] }).objs.size := by simpa using hb
    subst e
    exact I1.fpOk (Nat.le_refl _) (I1.hok.fresh (Nat.le_refl _))
def iRng1 (ta : TA) : TI := fun σ H R => ta σ H fun vs H1 => ∃ j : Int, vs = [.int j] ∧ -(2 ^ 62) ≤ j ∧ j < 2 ^ 62 ∧ R (Itr 0 j.toNat) H1
theorem pi_range1 {a : Expr} {ta : TA} {p pos : Pos} (hg : Gl X "range") (hm : X.mg "range" = none) (ha : PA X [a] ta) (hs : starEach [a] X.env = [(false, eval a X.env)] := by rfl) : PI X tg (.Call (.Name "range" p) [a] [] pos) (iRng1 ta) := by
  intro pins s σ H R I h
  refine Call_ (ld_blt I hg hm boot_range (PyProof.Rows.callWith_type1 (thn (ha pos pins s σ H _ I h) fun us s1 ⟨vs, H1, I1, r1, q1⟩ => ?_) hs rfl))
  obtain ⟨j, e, q1, q2, q⟩ := q1
  subst e
  cases r1 with
  | cons r rr =>
    cases rr
    obtain ⟨t, rfl⟩ := r
    exact call_range_1 (range_it I1 (by omega) (by omega) q1 q2 (by simpa using q))
def tFor (wi : TI) (g : TG) (tb : TS) : TS := fun D σ H => wi σ H fun J H1 => ∃ W : Nat → Nat → St → Hp → Prop, (∃ m, W 0 m σ H1) ∧ ∀ i m σ H, W i m σ H →
  (J.stop i H ∧ D.nx σ H) ∨ (J.go i H ∧ ∃ N : St → Hp → Prop, (∀ σ' H', N σ' H' → ∃ m', m' < m ∧ W (i + 1) m' σ' H') ∧ ∀ x H', J.yld i H x H' → g x σ H' fun σ2 H2 => tb { D with nx := N, ct := N, bk := D.nx } σ2 H2)
def pinsAt (fp : List Addr) (h : Heap) : List (Addr × Obj) := fp.filterMap fun b => (h.get? b).map fun o => (b, o)
theorem mem_pinsAt {fp : List Addr} {h : Heap} {b : Addr} {o : Obj} (hb : b ∈ fp) (e : h.get? b = some o) : (b, o) ∈ pinsAt fp h := List.mem_filterMap.mpr ⟨b, hb, by rw [e]; rfl⟩
theorem of_pinsAt {fp : List Addr} {h : Heap} {p : Addr × Obj} (hp : p ∈ pinsAt fp h) : p.1 ∈ fp ∧ h.get? p.1 = some p.2 := by
  obtain ⟨b, hb, e⟩ := List.mem_filterMap.mp hp
  cases q : h.get? b with
  | none => rw [q] at e; cases e
  | some o =>
    rw [q] at e
    have e' : (b, o) = p := Option.some.inj e
    subst e'
    exact ⟨hb, q⟩
theorem Inv.pinned {pins : List (Addr × Obj)} {σ : St} {H : Hp} {s : Shared} {fp : List Addr} (I : Inv X pins σ H s) (hf : ∀ b ∈ fp, FpOk X pins H b) (ho : ∀ b ∈ fp, ∃ o, s.heap.get? b = some o ∧ ∀ v, o.data ≠ .cell v) : Inv X (pins ++ pinsAt fp s.heap) σ H s :=
  I.pins_of fun p hp => (List.mem_append.mp hp).elim (fun z => I.pin p (List.mem_append_right _ z)) fun z => by
    obtain ⟨hb, e⟩ := of_pinsAt z
    obtain ⟨f0, f1, f2, _⟩ := hf p.1 hb
    obtain ⟨o, e', d⟩ := ho p.1 hb
    rw [e] at e'; cases e'
    exact ⟨e, f0, f1, f2, d⟩
theorem Inv.unpinned {pins pl : List (Addr × Obj)} {σ : St} {H : Hp} {s : Shared} (I : Inv X (pins ++ pl) σ H s) : Inv X pins σ H s := I.pins_of fun p hp => I.pin p (List.mem_append_right _ (List.mem_append_left _ hp))
theorem ps_for {iter : Expr} {body : List Stmt} {wi : TI} {g : TG} {tb : TS} {pos : Pos} (hp : PassesOwn (model X.prog X.w) X.A X.env X.xe) (hc : X.calm = true) (hi : PI X tg iter wi) (hg : PG X tg g) (hb : PSs X body tb)
    (hs : ∀ x, foldedSetIterable iter X.env x = pure x := by intro _; rfl) : PS X (.For tg iter body [] pos) (tFor wi g tb) := by
  intro pins s σ H D I h
  refine wpAny_For (thn (hi pins s σ H _ I h) fun v s1 h1 => thn h1 fun itv s2 h2 => ?_) hs
  obtain ⟨it, fp, tn, J, H2, e, I2, T, st2, f2, W, ⟨m0, w0⟩, turn⟩ := h2
  subst e
  -- what stays true of the iterator's objects through the loop
  have stat : ∀ {H' : Hp}, (∀ b ∈ fp, H' b = none) → ∀ b ∈ fp, FpOk X pins H' b := fun hn b hb => ⟨hn b hb, (f2 b hb).2⟩
  refine codeAny_forLoop_any (fun n s' => ∃ i σ' H', Inv X pins σ' H' s' ∧ tn i s'.heap ∧ (∀ b ∈ fp, H' b = none) ∧ W i n σ' H') ?_ m0 ⟨0, σ, H2, I2, st2, fun b hb => (f2 b hb).1, w0⟩
  rintro n s3 ⟨i, σ3, H3, I3, st3, fr3, w3⟩
  rcases turn i n σ3 H3 w3 with ⟨stop, qn⟩ | ⟨go, N, hN, step⟩
  · refine wpAny_passesOwn hp (thn (T.done X rfl rfl rfl hc i pins s3 σ3 H3 X.xe I3 (stat fr3) st3 stop) fun r s4 ⟨hr, I4⟩ => ?_)
    subst hr
    exact wpAny_execs_nil ⟨σ3, H3, I4, qn⟩
  · refine wpAny_passesOwn hp (thn (T.item X rfl rfl rfl hc i pins s3 σ3 H3 X.xe I3 (stat fr3) st3 go) fun r s4 ⟨u, hr, h4⟩ => ?_)
    subst hr
    refine wpAny_passesOwn hp (thn h4 fun _ s5 ⟨x, H5, I5, r5, y5, st5, fr5⟩ => ?_)
    have I5' := I5.pinned (stat fr5) (T.obj _ _ st5)
    refine wpAny_passesOwn hp (thn (hg _ s5 σ3 H5 x u _ I5' r5 (step x H5 y5)) fun _ s6 ⟨σ6, H6, I6, q6⟩ => ?_)
    refine wpAny_passesOwn hp (thn (hb _ s6 σ6 H6 _ I6 q6) fun f s7 q7 => ?_)
    have again : ∀ {σ7 : St} {H7 : Hp}, Inv X (pins ++ pinsAt fp s5.heap) σ7 H7 s7 → N σ7 H7 → ∃ m, m < n ∧ ∃ i σ' H', Inv X pins σ' H' s7 ∧ tn i s7.heap ∧ (∀ b ∈ fp, H' b = none) ∧ W i m σ' H' := fun {σ7 H7} I7 n7 => by
      obtain ⟨m', hm, w7⟩ := hN σ7 H7 n7
      refine ⟨m', hm, i + 1, σ7, H7, I7.unpinned, T.keep _ _ _ st5 fun b hb o e => (I7.pin (b, o) (List.mem_append_right _ (List.mem_append_right _ (mem_pinsAt hb e)))).1, fun b hb => ?_, w7⟩
      obtain ⟨o, e, d⟩ := T.obj _ _ st5 b hb
      exact (I7.pin (b, o) (List.mem_append_right _ (List.mem_append_right _ (mem_pinsAt hb e)))).2.1
    cases f with
    | next => obtain ⟨σ7, H7, I7, n7⟩ := q7; exact again I7 n7
    | cont => obtain ⟨σ7, H7, I7, n7⟩ := q7; exact again I7 n7
    | brk => obtain ⟨σ7, H7, I7, q7⟩ := q7; exact ⟨σ7, H7, I7.unpinned, q7⟩
    | ret v => obtain ⟨x7, σ7, H7, I7, r7, q7⟩ := q7; exact ⟨x7, σ7, H7, I7.unpinned, r7, q7⟩
end
theorem for_list {K : PySem.W.Frag} {a : Addr} {xs : List V} {g : TG} {tb : TS} {D : Ends} {σ : St} {H : Hp} (Pv : Nat → St → Hp → Prop) (h0 : Pv 0 σ H) (hl : ∀ i σ H, i ≤ xs.length → Pv i σ H → SqL K H a xs)
    (hs : ∀ i x σ H, xs[i]? = some x → Pv i σ H → g x σ H fun σ2 H2 => tb { D with nx := Pv (i + 1), ct := Pv (i + 1), bk := D.nx } σ2 H2) (hd : ∀ σ H, Pv xs.length σ H → D.nx σ H) :
    ∃ W : Nat → Nat → St → Hp → Prop, (∃ m, W 0 m σ H) ∧ ∀ i m σ H, W i m σ H →
      ((Itl K a).stop i H ∧ D.nx σ H) ∨ ((Itl K a).go i H ∧ ∃ N : St → Hp → Prop, (∀ σ' H', N σ' H' → ∃ m', m' < m ∧ W (i + 1) m' σ' H') ∧ ∀ x H', (Itl K a).yld i H x H' → g x σ H' fun σ2 H2 => tb { D with nx := N, ct := N, bk := D.nx } σ2 H2) := by
  refine ⟨fun i m σ H => m = xs.length - i ∧ i ≤ xs.length ∧ Pv i σ H, ⟨xs.length, by simp, Nat.zero_le _, h0⟩, ?_⟩
  rintro i m σ H ⟨rfl, hi, p⟩
  have q := hl i σ H hi p
  by_cases hlt : i < xs.length
  · refine .inr ⟨⟨xs, xs[i], q, by simp [hlt]⟩, Pv (i + 1), fun σ' H' p' => ⟨xs.length - (i + 1), by omega, rfl, hlt, p'⟩, fun x H' y => ?_⟩
    obtain ⟨e, y⟩ := y
    subst e
    exact hs i x σ _ (y xs q) p
  · have e : i = xs.length := by omega
    subst e
    exact .inl ⟨⟨xs, q, Nat.le_refl _⟩, hd σ H p⟩
theorem for_range {lo : Int} {n : Nat} {g : TG} {tb : TS} {D : Ends} {σ : St} {H : Hp} (Pv : Nat → St → Hp → Prop) (h0 : Pv 0 σ H)
    (hs : ∀ i σ H, i < n → Pv i σ H → g (.int (lo + i)) σ H fun σ2 H2 => tb { D with nx := Pv (i + 1), ct := Pv (i + 1), bk := D.nx } σ2 H2) (hd : ∀ σ H, Pv n σ H → D.nx σ H) :
    ∃ W : Nat → Nat → St → Hp → Prop, (∃ m, W 0 m σ H) ∧ ∀ i m σ H, W i m σ H →
      ((Itr lo n).stop i H ∧ D.nx σ H) ∨ ((Itr lo n).go i H ∧ ∃ N : St → Hp → Prop, (∀ σ' H', N σ' H' → ∃ m', m' < m ∧ W (i + 1) m' σ' H') ∧ ∀ x H', (Itr lo n).yld i H x H' → g x σ H' fun σ2 H2 => tb { D with nx := N, ct := N, bk := D.nx } σ2 H2) := by
  refine ⟨fun i m σ H => m = n - i ∧ i ≤ n ∧ Pv i σ H, ⟨n, by simp, Nat.zero_le _, h0⟩, ?_⟩
  rintro i m σ H ⟨rfl, hi, p⟩
  by_cases hlt : i < n
  · refine .inr ⟨hlt, Pv (i + 1), fun σ' H' p' => ⟨n - (i + 1), by omega, rfl, hlt, p'⟩, fun x H' y => ?_⟩
    obtain ⟨e, y⟩ := y
    subst e y
    exact hs i σ _ hlt p
  · have e : i = n := by omega
    subst e
    exact .inl ⟨Nat.le_refl _, hd σ H p⟩
end L2
namespace L2
open PySem PySem.Spec PyProof.Rows
abbrev R2 := V → V → Hp → VK → Prop
def OpR (X : Cx) (f : Value → Value → Sem Value) (r : R2) : Prop :=
  ∀ (pins : List (Addr × Obj)) (s : Shared) (σ : St) (H : Hp) (x y : V) (v u : Value) (Q : VK), Inv X pins σ H s → RelV x v → RelV y u → r x y H Q →
    wpAny (model X.prog X.w) X.A (f v u) (EP X pins σ Q) X.xe s
def UnR (X : Cx) (f : Value → Sem Value) (r : V → Hp → VK → Prop) : Prop :=
  ∀ (pins : List (Addr × Obj)) (s : Shared) (σ : St) (H : Hp) (x : V) (v : Value) (Q : VK), Inv X pins σ H s → RelV x v → r x H Q →
    wpAny (model X.prog X.w) X.A (f v) (EP X pins σ Q) X.xe s
def CallR (X : Cx) (f : Value) (r : List V → Hp → VK → Prop) : Prop :=
  ∀ (pins : List (Addr × Obj)) (s : Shared) (σ : St) (H : Hp) (xs : List V) (us : List Value) (Q : VK), Inv X pins σ H s → Vals xs us → r xs H Q →
    wpAny (model X.prog X.w) X.A (call f us) (EP X pins σ Q) X.xe s
def tOp (r : R2) (ta tb : TE) : TE := fun σ H Q => ta σ H fun x H1 => tb σ H1 fun y H2 => r x y H2 Q
def tUn (r : V → Hp → VK → Prop) (ta : TE) : TE := fun σ H Q => ta σ H fun x H1 => r x H1 Q
def rI (C : Int → Int → Prop) (g : Int → Int → V) : R2 := fun x y H Q => ∃ i j, x = .int i ∧ y = .int j ∧ C i j ∧ Q (g i j) H
def rI0 (g : Int → Int → V) : R2 := fun x y H Q => ∃ i j, x = .int i ∧ y = .int j ∧ Q (g i j) H
def rU (g : Int → V) : V → Hp → VK → Prop := fun x H Q => ∃ i, x = .int i ∧ Q (g i) H
section
variable {X : Cx} {a b c : Expr} {ta tb tc : TE} {pos : Pos}
theorem binT (ha : PE X a ta) (hb : PE X b tb) {pins : List (Addr × Obj)} {s : Shared} {σ : St} {H : Hp} {R : V → V → Hp → Prop} (I : Inv X pins σ H s)
    (h : ta σ H fun x H1 => tb σ H1 fun y H2 => R x y H2) {Q : Value → Shared → Prop} {f : Value → Value → Sem Value}
    (hf : ∀ v u s2 x y H2, Inv X pins σ H2 s2 → RelV x v → RelV y u → R x y H2 → wpAny (model X.prog X.w) X.A (f v u) Q X.xe s2) :
    wpAny (model X.prog X.w) X.A (eval a X.env) (fun v s₁ => wpAny (model X.prog X.w) X.A (eval b X.env) (fun u s₂ => wpAny (model X.prog X.w) X.A (f v u) Q X.xe s₂) X.xe s₁) X.xe s := by
  refine thn (ha pins s σ H _ I h) fun v s1 ⟨x, H1, I1, r1, q1⟩ => ?_
  refine thn (hb pins s1 σ H1 _ I1 q1) fun u s2 ⟨y, H2, I2, r2, q2⟩ => ?_
  exact hf v u s2 x y H2 I2 r1 r2 q2
theorem pe_op {op : Operator} {r : R2} (ho : OpR X (binaryOp op) r) (ha : PE X a ta) (hb : PE X b tb) : PE X (.BinOp a op b pos) (tOp r ta tb) := by
  intro pins s σ H Q I h
  exact wpAny_BinOp (binT ha hb I h fun v u s2 x y H2 I2 rx ry q => ho pins s2 σ H2 x y v u Q I2 rx ry q)
theorem pe_un {op : UnaryOp} {r : V → Hp → VK → Prop} (ho : UnR X (unaryOp op) r) (ha : PE X a ta) : PE X (.UnaryOp op a pos) (tUn r ta) := by
  intro pins s σ H Q I h
  exact UnaryOp_ (thn (ha pins s σ H _ I h) fun v s1 ⟨x, H1, I1, r1, q1⟩ => ho pins s1 σ H1 x v Q I1 r1 q1)
theorem opI {f : Value → Value → Sem Value} {C : Int → Int → Prop} {g : Int → Int → Int}
    (rule : ∀ (i j : Int) (t u : Tok) (s : Shared) (Q : Value → Shared → Prop) (E : Value → Shared → Prop), C i j → Q (.int (g i j) s.toks) { s with toks := s.toks + 1 } → wpAny (model X.prog X.w) X.A (f (.int i t) (.int j u)) Q E s) :
    OpR X f (rI C fun i j => .int (g i j)) := by
  intro pins s σ H x y v u Q I rx ry h
  obtain ⟨i, j, rfl, rfl, hc, q⟩ := h
  obtain ⟨t, rfl⟩ := rx
  obtain ⟨t', rfl⟩ := ry
  exact rule i j t t' s _ _ hc ⟨.int (g i j), H, I.tok _, ⟨_, rfl⟩, q⟩
theorem opI0 {f : Value → Value → Sem Value} {g : Int → Int → Int}
    (rule : ∀ (i j : Int) (t u : Tok) (s : Shared) (Q : Value → Shared → Prop) (E : Value → Shared → Prop), Q (.int (g i j) s.toks) { s with toks := s.toks + 1 } → wpAny (model X.prog X.w) X.A (f (.int i t) (.int j u)) Q E s) :
    OpR X f (rI0 fun i j => .int (g i j)) := by
  intro pins s σ H x y v u Q I rx ry h
  obtain ⟨i, j, rfl, rfl, q⟩ := h
  obtain ⟨t, rfl⟩ := rx
  obtain ⟨t', rfl⟩ := ry
  exact rule i j t t' s _ _ ⟨.int (g i j), H, I.tok _, ⟨_, rfl⟩, q⟩
theorem opB0 {f : Value → Value → Sem Value} {g : Int → Int → Bool}
    (rule : ∀ (i j : Int) (t u : Tok) (s : Shared) (Q : Value → Shared → Prop) (E : Value → Shared → Prop), Q (.bool (g i j)) s → wpAny (model X.prog X.w) X.A (f (.int i t) (.int j u)) Q E s) :
    OpR X f (rI0 fun i j => .bl (g i j)) := by
  intro pins s σ H x y v u Q I rx ry h
  obtain ⟨i, j, rfl, rfl, q⟩ := h
  obtain ⟨t, rfl⟩ := rx
  obtain ⟨t', rfl⟩ := ry
  exact rule i j t t' s _ _ ⟨.bl (g i j), H, I, rfl, q⟩
def CPow (i j : Int) : Prop := 0 ≤ j ∧ j ≤ 1000000 ∧ i.natAbs < 2 ^ 64
def CMul (i j : Int) : Prop := (-(2 ^ 64) < i ∧ i < 2 ^ 64) ∨ (-(2 ^ 64) < j ∧ j < 2 ^ 64)
theorem CMul.ok {i j : Int} (h : CMul i j) : IntMulOk i j := by
  rcases h with ⟨h1, h2⟩ | ⟨h1, h2⟩
  · exact .of_left (intBits_le_64 h1 h2)
  · exact .of_right (intBits_le_64 h1 h2)
theorem two_pow_nn (k : Nat) : (0 : Int) ≤ 2 ^ k := by
  rw [two_pow_cast]
  exact Int.natCast_nonneg _
theorem op_add : OpR X (binaryOp .Add) (rI0 fun i j => .int (i + j)) := opI0 fun _ _ _ _ _ _ _ q => add_int q
theorem op_sub : OpR X (binaryOp .Sub) (rI0 fun i j => .int (i - j)) := opI0 fun _ _ _ _ _ _ _ q => sub_int q
theorem op_mul : OpR X (binaryOp .Mult) (rI CMul fun i j => .int (i * j)) := opI fun _ _ _ _ _ _ _ hc q => mul_int q hc.ok
theorem op_mod : OpR X (binaryOp .Mod) (rI (fun _ j => 0 < j) fun i j => .int (i % j)) := opI fun i j _ _ _ _ _ hc q => by
  have h1 : (0 : Int) < j := hc
  exact mod_int' (by omega) (by rw [Int.fmod_eq_emod_of_nonneg i (by omega)]; exact q)
theorem op_pow : OpR X (binaryOp .Pow) (rI CPow fun i j => .int (i ^ j.toNat)) := opI fun _ _ _ _ _ _ _ hc q => pow_int_small hc.1 hc.2.1 hc.2.2 q
theorem op_shl : OpR X (binaryOp .LShift) (rI CPow fun i j => .int (i * 2 ^ j.toNat)) := opI fun _ _ _ _ _ _ _ hc q => lshift_int_small hc.1 hc.2.1 hc.2.2 q
theorem op_shr : OpR X (binaryOp .RShift) (rI (fun _ j => 0 ≤ j) fun i j => .int (i / 2 ^ j.toNat)) := opI fun i j _ _ _ _ _ hc q =>
  rshift_int hc (by rw [Int.fdiv_eq_ediv_of_nonneg i (two_pow_nn _)]; exact q)
theorem op_and : OpR X (binaryOp .BitAnd) (rI0 fun i j => .int (Builtin.bitAnd i j)) := opI0 fun _ _ _ _ _ _ _ q => and_int q
theorem unI {f : Value → Sem Value} {g : Int → Int}
    (rule : ∀ (i : Int) (t : Tok) (s : Shared) (Q : Value → Shared → Prop) (E : Value → Shared → Prop), Q (.int (g i) s.toks) { s with toks := s.toks + 1 } → wpAny (model X.prog X.w) X.A (f (.int i t)) Q E s) :
    UnR X f (rU fun i => .int (g i)) := by
  intro pins s σ H x v Q I rx h
  obtain ⟨i, rfl, q⟩ := h
  obtain ⟨t, rfl⟩ := rx
  exact rule i t s _ _ ⟨.int (g i), H, I.tok _, ⟨_, rfl⟩, q⟩
theorem un_neg : UnR X (unaryOp .USub) (rU fun i => .int (-i)) := unI fun _ _ _ _ _ q => neg_int q
end
def scal : V → V → Bool
  | .non, .non => true | .non, .int _ => true | .int _, .non => true | .non, .bl _ => true | .bl _, .non => true | .non, .str _ => true | .str _, .non => true
  | .int _, .int _ => true | .bl _, .bl _ => true | .str _, .str _ => true | .byt _, .byt _ => true
  | .int _, .str _ => true | .str _, .int _ => true | .bl _, .str _ => true | .str _, .bl _ => true
  | _, _ => false
def rEq : R2 := fun x y H Q => scal x y = true ∧ Q (.bl (decide (x = y))) H
def rNe : R2 := fun x y H Q => scal x y = true ∧ Q (.bl (!decide (x = y))) H
theorem dec_int {i j : Int} : decide (V.int i = V.int j) = (i == j) := by
  rw [Bool.eq_iff_iff]
  simp
theorem dec_bl {i j : Bool} : decide (V.bl i = V.bl j) = (i == j) := by
  rw [Bool.eq_iff_iff]
  simp
theorem dec_str {i j : Str} : decide (V.str i = V.str j) = (i == j) := by
  rw [Bool.eq_iff_iff]
  simp
theorem dec_byt {i j : Array UInt8} : decide (V.byt i = V.byt j) = (i.toList == j.toList) := by
  rw [Bool.eq_iff_iff]
  cases i
  cases j
  simp
section
variable {X : Cx} {a b c : Expr} {ta tb tc : TE} {pos : Pos}
theorem fin_bl {pins : List (Addr × Obj)} {σ : St} {H : Hp} {s : Shared} {Q : VK} {k k' : Bool} (I : Inv X pins σ H s) (q : Q (.bl k) H) (e : k = k') : EP X pins σ Q (.bool k') s := by
  subst e
  exact ⟨.bl k, H, I, rfl, q⟩
theorem op_eq : OpR X (compareOp .Eq) rEq := by
  intro pins s σ H x y v u Q I rx ry h
  obtain ⟨hs, q⟩ := h
  cases x with
  | non =>
    cases rx
    cases y with
    | non => cases ry; exact PySem.EqNone.eq_none_none (fin_bl I q (by simp))
    | bl j => cases ry; exact PySem.EqNone.eq_none_bool (fin_bl I q (by simp))
    | int j => obtain ⟨t', rfl⟩ := ry; exact PySem.EqNone.eq_none_int (fin_bl I q (by simp))
    | str j => obtain ⟨t', rfl⟩ := ry; exact PySem.EqNone.eq_none_str (fin_bl I q (by simp))
    | _ => exact absurd (show false = true from hs) Bool.false_ne_true
  | bl i =>
    cases rx
    cases y with
    | non => cases ry; exact PySem.EqNone.eq_bool_none (fin_bl I q (by simp))
    | bl j => cases ry; exact eq_bool (fin_bl I q dec_bl)
    | str j => obtain ⟨t', rfl⟩ := ry; exact PySem.EqMixed.eq_bool_str (fin_bl I q (by simp))
    | _ => exact absurd (show false = true from hs) Bool.false_ne_true
  | int i =>
    obtain ⟨t, rfl⟩ := rx
    cases y with
    | non => cases ry; exact PySem.EqNone.eq_int_none (fin_bl I q (by simp))
    | int j => obtain ⟨t', rfl⟩ := ry; exact eq_int (fin_bl I q dec_int)
    | str j => obtain ⟨t', rfl⟩ := ry; exact PySem.EqMixed.eq_int_str (fin_bl I q (by simp))
    | _ => exact absurd (show false = true from hs) Bool.false_ne_true
  | str i =>
    obtain ⟨t, rfl⟩ := rx
    cases y with
    | non => cases ry; exact PySem.EqNone.eq_str_none (fin_bl I q (by simp))
    | bl j => cases ry; exact PySem.EqMixed.eq_str_bool (fin_bl I q (by simp))
    | int j => obtain ⟨t', rfl⟩ := ry; exact PySem.EqMixed.eq_str_int (fin_bl I q (by simp))
    | str j => obtain ⟨t', rfl⟩ := ry; exact eq_str (fin_bl I q dec_str)
    | _ => exact absurd (show false = true from hs) Bool.false_ne_true
  | byt i =>
    obtain ⟨t, rfl⟩ := rx
    cases y with
    | byt j => obtain ⟨t', rfl⟩ := ry; exact PySem.W.eq_bytes (fin_bl I q dec_byt)
    | _ => exact absurd (show false = true from hs) Bool.false_ne_true
  | _ => cases y <;> exact absurd (show false = true from hs) Bool.false_ne_true
theorem op_ne : OpR X (compareOp .NotEq) rNe := by
  intro pins s σ H x y v u Q I rx ry h
  obtain ⟨hs, q⟩ := h
  cases x with
  | non =>
    cases rx
    cases y with
    | non => cases ry; exact PySem.EqNone.ne_none_none (fin_bl I q (by simp))
    | bl j => cases ry; exact PySem.EqNone.ne_none_bool (fin_bl I q (by simp))
    | int j => obtain ⟨t', rfl⟩ := ry; exact PySem.EqNone.ne_none_int (fin_bl I q (by simp))
    | str j => obtain ⟨t', rfl⟩ := ry; exact PySem.EqNone.ne_none_str (fin_bl I q (by simp))
    | _ => exact absurd (show false = true from hs) Bool.false_ne_true
  | bl i =>
    cases rx
    cases y with
    | non => cases ry; exact PySem.EqNone.ne_bool_none (fin_bl I q (by simp))
    | bl j => cases ry; exact ne_bool (fin_bl I q (congrArg not dec_bl))
    | str j => obtain ⟨t', rfl⟩ := ry; exact PySem.EqMixed.ne_bool_str (fin_bl I q (by simp))
    | _ => exact absurd (show false = true from hs) Bool.false_ne_true
  | int i =>
    obtain ⟨t, rfl⟩ := rx
    cases y with
    | non => cases ry; exact PySem.EqNone.ne_int_none (fin_bl I q (by simp))
    | int j => obtain ⟨t', rfl⟩ := ry; exact ne_int (fin_bl I q (congrArg not dec_int))
    | str j => obtain ⟨t', rfl⟩ := ry; exact PySem.EqMixed.ne_int_str (fin_bl I q (by simp))
    | _ => exact absurd (show false = true from hs) Bool.false_ne_true
  | str i =>
    obtain ⟨t, rfl⟩ := rx
    cases y with
    | non => cases ry; exact PySem.EqNone.ne_str_none (fin_bl I q (by simp))
    | bl j => cases ry; exact PySem.EqMixed.ne_str_bool (fin_bl I q (by simp))
    | int j => obtain ⟨t', rfl⟩ := ry; exact PySem.EqMixed.ne_str_int (fin_bl I q (by simp))
    | str j => obtain ⟨t', rfl⟩ := ry; exact ne_str (fin_bl I q (congrArg not dec_str))
    | _ => exact absurd (show false = true from hs) Bool.false_ne_true
  | byt i =>
    obtain ⟨t, rfl⟩ := rx
    cases y with
    | byt j => obtain ⟨t', rfl⟩ := ry; exact PySem.W.ne_bytes (fin_bl I q (congrArg not dec_byt))
    | _ => exact absurd (show false = true from hs) Bool.false_ne_true
  | _ => cases y <;> exact absurd (show false = true from hs) Bool.false_ne_true
theorem op_lt : OpR X (compareOp .Lt) (rI0 fun i j => .bl (decide (i < j))) := opB0 fun _ _ _ _ _ _ _ q => lt_int q
theorem op_le : OpR X (compareOp .LtE) (rI0 fun i j => .bl (decide (i ≤ j))) := opB0 fun _ _ _ _ _ _ _ q => le_int q
theorem op_gt : OpR X (compareOp .Gt) (rI0 fun i j => .bl (decide (j < i))) := opB0 fun _ _ _ _ _ _ _ q => gt_int q
theorem op_ge : OpR X (compareOp .GtE) (rI0 fun i j => .bl (decide (j ≤ i))) := opB0 fun _ _ _ _ _ _ _ q => ge_int q
theorem op_isN : OpR X (compareOp .Is) (fun x y H Q => y = .non ∧ Q (.bl (decide (x = .non))) H) := by
  intro pins s σ H x y v u Q I rx ry h
  obtain ⟨rfl, q⟩ := h
  cases ry
  refine is_none_gen (fin_bl I q ?_)
  cases x <;> first
    | (cases rx; rfl)
    | (obtain ⟨t, rfl⟩ := rx; rfl)
theorem op_notN : OpR X (compareOp .IsNot) (fun x y H Q => y = .non ∧ Q (.bl (!decide (x = .non))) H) := by
  intro pins s σ H x y v u Q I rx ry h
  obtain ⟨rfl, q⟩ := h
  cases ry
  refine isnot_none_gen (fin_bl I q ?_)
  cases x <;> first
    | (cases rx; rfl)
    | (obtain ⟨t, rfl⟩ := rx; rfl)
theorem nomark (b : Expr) {op : CmpOp} (h : op ≠ .In := by decide) (h2 : op ≠ .NotIn := by decide) : behindInMarks op b = false := by
  have e1 : (op == CmpOp.In) = false := by cases op <;> first | rfl | exact absurd rfl h
  have e2 : (op == CmpOp.NotIn) = false := by cases op <;> first | rfl | exact absurd rfl h2
  cases b <;> simp [behindInMarks, e1, e2]
theorem pe_cmpR {op : CmpOp} {r : R2} (ho : OpR X (compareOp op) r) (ha : PE X a ta) (hb : PE X b tb) (hm : behindInMarks op b = false) : PE X (.Compare a [op] [b] pos) (tOp r ta tb) := by
  intro pins s σ H Q I h
  exact wpAny_Compare1 (binT ha hb I h fun v u s2 x y H2 I2 rx ry q => ho pins s2 σ H2 x y v u Q I2 rx ry q) hm
def tTest (t : TE) : TT := fun σ H Q => t σ H fun x H' => ∃ k, x = .bl k ∧ Q k H'
theorem pt_cmpR {op : CmpOp} {r : R2} (ho : OpR X (compareOp op) r) (ha : PE X a ta) (hb : PE X b tb) (hm : behindInMarks op b = false) : PT X (.Compare a [op] [b] pos) (tTest (tOp r ta tb)) := by
  intro pins s σ H Q I h
  refine wpAny_isTrue_Compare1 (thn (ha pins s σ H _ I h) fun v s1 ⟨x, H1, I1, r1, q1⟩ => thn (hb pins s1 σ H1 _ I1 q1) fun u s2 ⟨y, H2, I2, r2, q2⟩ =>
    thn (ho pins s2 σ H2 x y v u _ I2 r1 r2 q2) fun c s3 ⟨z, H3, I3, r3, k, e, q3⟩ => ?_) hm
  subst e
  cases r3
  exact wpAny_truthy_bool ⟨H3, I3, q3⟩
def tChain (r r' : R2) (ta tb tc : TE) : TE := fun σ H Q => ta σ H fun x H1 => tb σ H1 fun y H2 => r x y H2 fun z H3 => ∃ k, z = .bl k ∧
  (if k = true then tc σ H3 fun w' H4 => r' y w' H4 Q else Q (.bl false) H3)
theorem pe_chain {op op' : CmpOp} {r r' : R2} (ho : OpR X (compareOp op) r) (ho' : OpR X (compareOp op') r') (ha : PE X a ta) (hb : PE X b tb) (hc : PE X c tc)
    (hm : lastMarks [op, op'] [b, c] = false := by with_unfolding_all rfl) : PE X (.Compare a [op, op'] [b, c] pos) (tChain r r' ta tb tc) := by
  intro pins s σ H Q I h
  refine Compare_chain (thn (ha pins s σ H _ I h) fun v s1 ⟨x, H1, I1, r1, q1⟩ => chain_link (thn (hb pins s1 σ H1 _ I1 q1) fun u s2 ⟨y, H2, I2, r2, q2⟩ =>
    thn (ho pins s2 σ H2 x y v u _ I2 r1 r2 q2) fun d s3 ⟨z, H3, I3, r3, k, e, q3⟩ => ?_)) hm
  subst e
  cases r3
  refine wpAny_truthy_bool ?_
  cases k with
  | false => exact ite_ff ⟨.bl false, H3, I3, rfl, q3⟩
  | true => exact ite_tt (chain_last (thn (hc pins s3 σ H3 _ I3 q3) fun w' s4 ⟨z', H4, I4, r4, q4⟩ => ho' pins s4 σ H4 y z' u w' Q I4 r2 r4 q4))
theorem pt_chain {op op' : CmpOp} {r r' : R2} (ho : OpR X (compareOp op) r) (ho' : OpR X (compareOp op') r') (ha : PE X a ta) (hb : PE X b tb) (hc : PE X c tc)
    (hm : lastMarks [op, op'] [b, c] = false := by with_unfolding_all rfl) : PT X (.Compare a [op, op'] [b, c] pos) (tTest (tChain r r' ta tb tc)) := by
  intro pins s σ H Q I h
  refine isTrue_chain (thn (ha pins s σ H _ I h) fun v s1 ⟨x, H1, I1, r1, q1⟩ => test_link (thn (hb pins s1 σ H1 _ I1 q1) fun u s2 ⟨y, H2, I2, r2, q2⟩ =>
    thn (ho pins s2 σ H2 x y v u _ I2 r1 r2 q2) fun d s3 ⟨z, H3, I3, r3, k, e, q3⟩ => ?_)) hm
  subst e
  cases r3
  refine wpAny_truthy_bool ?_
  cases k with
  | false =>
    obtain ⟨k', e', q'⟩ := q3
    cases e'
    exact ite_ff ⟨H3, I3, q'⟩
  | true =>
    refine ite_tt (test_last (thn (hc pins s3 σ H3 _ I3 q3) fun w' s4 ⟨z', H4, I4, r4, q4⟩ => thn (ho' pins s4 σ H4 y z' u w' _ I4 r2 r4 q4) fun d' s5 ⟨z2, H5, I5, r5, k2, e2, q5⟩ => ?_))
    subst e2
    cases r5
    exact wpAny_truthy_bool ⟨H5, I5, q5⟩
theorem line63 : (sizeLine : Nat) < 2 ^ 63 := by rw [sizeLine_eq]; decide
theorem vals1 {x : V} {us : List Value} (r : Vals [x] us) : ∃ u, us = [u] ∧ RelV x u := by
  cases r with
  | cons r1 r2 => cases r2; exact ⟨_, rfl, r1⟩
theorem vals2 {x y : V} {us : List Value} (r : Vals [x, y] us) : ∃ u w', us = [u, w'] ∧ RelV x u ∧ RelV y w' := by
  cases r with
  | cons r1 r2 =>
    cases r2 with
    | cons r3 r4 => cases r4; exact ⟨_, _, rfl, r1, r3⟩
theorem call_abs : CallR X (.builtin "abs") (fun xs H Q => ∃ i, xs = [.int i] ∧ Q (.int (if i < 0 then -i else i)) H) := by
  intro pins s σ H xs us Q I r h
  obtain ⟨i, rfl, q⟩ := h
  obtain ⟨u, rfl, t, rfl⟩ := vals1 r
  exact call_abs_int fun u tk => ⟨.int (if i < 0 then -i else i), H, I.tok _, ⟨_, rfl⟩, q⟩
theorem call_min2 (hc : X.calm = true) : CallR X (.builtin "min") (fun xs H Q => ∃ i j, xs = [.int i, .int j] ∧ Q (.int (if j < i then j else i)) H) := by
  intro pins s σ H xs us Q I r h
  obtain ⟨i, j, rfl, q⟩ := h
  obtain ⟨u, w', rfl, ⟨t, rfl⟩, ⟨t', rfl⟩⟩ := vals2 r
  refine min_two_ints (I.ok.hd hc) fun h' tk k => ⟨_, H, I.kept k, ?_, q⟩
  by_cases hj : j < i
  · rw [if_pos hj, if_pos hj]; exact ⟨_, rfl⟩
  · rw [if_neg hj, if_neg hj]; exact ⟨_, rfl⟩
theorem call_int1 : CallR X (.type "int") (fun xs H Q => (∃ i, xs = [.int i] ∧ Q (.int i) H) ∨ ∃ k, xs = [.bl k] ∧ Q (.int (if k then 1 else 0)) H) := by
  intro pins s σ H xs us Q I r h
  rcases h with ⟨i, rfl, q⟩ | ⟨k, rfl, q⟩
  · obtain ⟨u, rfl, t, rfl⟩ := vals1 r
    exact call_int_int ⟨.int i, H, I, ⟨_, rfl⟩, q⟩
  · obtain ⟨u, rfl, r1⟩ := vals1 r
    cases r1
    exact call_int_bool ⟨.int (if k then 1 else 0), H, I.tok _, ⟨_, rfl⟩, q⟩
end
end L2
namespace L2
open PySem PySem.Spec PyProof.Rows
structure ObjM (h : Heap) (x dx C : Addr) (mA : Str → Option Value) : Prop where
  obj : h.get? x = some (PySem.W.instObj C dx)
  ns : h.Ns1 dx mA
  ne : dx ≠ x
theorem lookIn_ns {h : Heap} {dx : Addr} {mA : Str → Option Value} (n : h.Ns1 dx mA) : ∃ od, h.get? dx = some od ∧ ∀ name, PySem.W.lookIn name od = some (mA name) := by
  obtain ⟨o, es, ep, ho, hd, hk, _, hm⟩ := n
  refine ⟨o, ho, fun name => ?_⟩
  have e := hm name
  unfold nsFind findBy at e
  rw [← Array.find?_toList] at e
  unfold PySem.W.lookIn
  rw [hd]
  dsimp only
  split
  · rename_i y q
    rw [q] at e
    exact congrArg some e
  · rename_i q
    rw [q] at e
    have a : es.toList.any (·.refKey) = false := by
      rw [List.any_eq_false]
      intro y hy
      obtain ⟨z, t, hkey⟩ := hk y (Array.mem_toList_iff.mp hy)
      simp [DictEntry.refKey, hkey]
    have a' : ¬ es.toList.any (·.refKey) = true := by rw [a]; exact Bool.false_ne_true
    rw [if_neg a']
    exact congrArg some e
theorem ObjM.look {h : Heap} {x dx C : Addr} {mA : Str → Option Value} (I : ObjM h x dx C mA) : ∃ od, PySem.W.InstAt h x (PySem.W.instObj C dx) C (some od) ∧ ∀ name, PySem.W.lookIn name od = some (mA name) :=
  let ⟨od, ho, hl⟩ := lookIn_ns I.ns
  ⟨od, ⟨I.obj, rfl, rfl, ho⟩, hl⟩
section
variable {prog : Program} {w : World} {A : Around} {E : Value → Shared → Prop} {s : Shared} {K : PySem.W.Frag} {x dx C f : Addr} {mA : Str → Option Value} {name : Str} {v : Value}
end
theorem RelO.some_of {v : V} {o : Option Value} (r : RelO (some v) o) : ∃ u, o = some u ∧ RelV v u := by
  cases o with
  | none => exact (show False from r).elim
  | some u => exact ⟨u, rfl, r⟩
theorem RelO.none_of {o : Option Value} (r : RelO none o) : o = none := by
  cases o with
  | none => rfl
  | some u => exact (show False from r).elim
section
variable {P : Program} {w : World} {H H' : Hp} {h h' : Heap} {a C dx : Addr} {fs fs' : List (Str × V)}
theorem ins_get (hok : HOk P w H h) (e : H a = some (.ins C dx fs)) : ∃ mA, ObjM h a dx C mA ∧ (∀ f, RelO (fs.lookup f) (mA f)) ∧ PySem.Within mA (fs.map (·.1)) ∧ fs.length ≤ 1000 ∧ H dx = some (.own a) := by
  obtain ⟨d, z, ne, ob, mA, n, r, q⟩ := (show ObjOk P w H h a (.ins C dx fs) from hok a _ e)
  exact ⟨mA, ⟨ob, n, ne⟩, r, q, z, d⟩
end
structure Cls (K : PySem.W.Frag) (C : Addr) : Prop where
  pg : PySem.W.plainGet K C Str.empty = true
  hd : PySem.W.hasDictIn K C = true
  po : PySem.W.plainOver K C = true
  sa : PySem.W.findIn K (.ref C) "__setattr__" = some (some (.builtin "object.__setattr__"))
theorem Cls.get {K : PySem.W.Frag} {C : Addr} (c : Cls K C) (f : Str) : PySem.W.plainGet K C f = true := c.pg
section
variable {X : Cx} {pins : List (Addr × Obj)} {σ : St} {H : Hp} {s : Shared} {a C dx : Addr} {fs : List (Str × V)} {f : Str} {v : V} {A : Around} {E : Value → Shared → Prop}
theorem attr_of {prog : Program} {w : World} {env : Env} {e : Expr} {f : Str} {pos : Pos} {s : Shared} {Q : Value → Shared → Prop} (hb : attributeBase e f env (eval e env) = eval e env)
    (h : wpAny (model prog w) A (eval e env) (fun o s₁ => wpAny (model prog w) A (getAttr o f true) Q E s₁) E s) : wpAny (model prog w) A (eval (.Attribute e f pos) env) Q E s :=
  Attribute_any_ h (by rw [arm_eval_Attribute, hb])
end
section
variable {X : Cx} {o e value : Expr} {f : Str} {pos pos' tpos : Pos} {ta tv : TE}
def rAdd : V → V → Hp → VK → Prop := fun x y H Q => ∃ i j, x = .int i ∧ y = .int j ∧ Q (.int (i + j)) H
end
section
variable {X : Cx} {pins : List (Addr × Obj)} {σ : St} {H : Hp} {s : Shared} {A : Around} {E : Value → Shared → Prop} {Q : Value → Shared → Prop} {c : Value} {b : Bool}
inductive TyOf (K : PySem.W.Frag) (H : Hp) : V → Value → Prop where
  | non : TyOf K H .non (.type "NoneType")
  | bl (x : Bool) : TyOf K H (.bl x) (.type "bool")
  | int (i : Int) : TyOf K H (.int i) (.type "int")
  | str (x : Str) : TyOf K H (.str x) (.type "str")
  | flt (x : UInt64) : TyOf K H (.flt x) (.type "float")
  | lst {a : Addr} {xs : List V} (e : H a = some (.lst xs)) : TyOf K H (.ref a) (.type "list")
  | frz {a : Addr} {o : Obj} {xs : List V} (e : H a = some (.frz o (.lst xs))) : TyOf K H (.ref a) (.type "list")
  | tup {a : Addr} {xs : List V} (e : H a = some (.tup xs)) : TyOf K H (.ref a) (.type "tuple")
  | dK {a : Addr} {kvs : List (Key × V)} (e : H a = some (.dK kvs)) : TyOf K H (.ref a) (.type "dict")
  | dT {a : Addr} {kvs : List (List Key × V)} (e : H a = some (.dT kvs)) : TyOf K H (.ref a) (.type "dict")
  | ins {a C dx : Addr} {fs : List (Str × V)} (e : H a = some (.ins C dx fs)) (cl : Cls K C) (ha : PySem.W.findIn K (.ref C) "__class__" = some (some (.builtin "object.__class__")))
      (hn : PySem.W.specialIn K (.builtin "object.__class__") "__get__" = some (some (.builtin "getset_descriptor.__get__"))) (htk : PySem.W.takesIn K (.builtin "object.__class__") = some true)
      (hm : PySem.W.mroIn K C (.type "object") = some true) : TyOf K H (.ref a) (.ref C)
theorem isinst_ok {x : V} {u t : Value} (I : Inv X pins σ H s) (rx : RelV x u) (ty : TyOf X.K H x t) (e : PySem.W.kitOne X.K t c = some b) (h : ∀ tk, Q (.bool b) { s with toks := tk }) :
    wpAny (model X.prog X.w) A (call (.builtin "isinstance") [u, c]) Q E s := by
  cases ty with
  | non => cases (show u = Value.none from rx); exact PySem.W.kia_one PySem.W.kitx_none I.kIn True.intro e (fun z => nomatch z) h
  | bl y => cases (show u = Value.bool y from rx); exact PySem.W.kia_one PySem.W.kitx_bool I.kIn True.intro e (fun z => nomatch z) h
  | int i => obtain ⟨t, q⟩ := (show ∃ t, u = Value.int i t from rx); cases q; exact PySem.W.kia_one PySem.W.kitx_int I.kIn True.intro e (fun z => nomatch z) h
  | str y => obtain ⟨t, q⟩ := (show ∃ t, u = Value.str y t from rx); cases q; exact PySem.W.kia_one PySem.W.kitx_str I.kIn True.intro e (fun z => nomatch z) h
  | flt y => obtain ⟨t, q⟩ := (show ∃ t, u = Value.float y t from rx); cases q; exact PySem.W.kia_one PySem.W.kitx_float I.kIn True.intro e (fun z => nomatch z) h
  | @lst a xs ea =>
    cases (show u = Value.ref a from rx)
    obtain ⟨_, _, n, _, h1⟩ := (show ObjOk X.prog X.w H s.heap a (.lst xs) from I.hok a _ ea)
    exact PySem.W.kia_one PySem.W.kitx_list I.kIn ⟨_, h1, rfl⟩ e (fun z => nomatch z) h
  | @frz a ob xs ea =>
    cases (show u = Value.ref a from rx)
    obtain ⟨_, _, _, n, _, h1⟩ := (show ObjOk X.prog X.w H s.heap a (.frz ob (.lst xs)) from I.hok a _ ea)
    exact PySem.W.kia_one PySem.W.kitx_list I.kIn ⟨_, h1, rfl⟩ e (fun z => nomatch z) h
  | @tup a xs ea =>
    cases (show u = Value.ref a from rx)
    obtain ⟨_, _, _, p⟩ := (show ObjOk X.prog X.w H s.heap a (.tup xs) from I.hok a _ ea)
    obtain ⟨o, h1, h2, _⟩ := p
    exact PySem.W.kia_one PySem.W.kitx_tuple I.kIn ⟨o, h1, h2⟩ e (fun z => nomatch z) h
  | @dK a kvs ea =>
    cases (show u = Value.ref a from rx)
    obtain ⟨_, _, vs, _, p⟩ := (show ObjOk X.prog X.w H s.heap a (.dK kvs) from I.hok a _ ea)
    obtain ⟨o, es, ep, h1, h2, _⟩ := p
    exact PySem.W.kia_one PySem.W.kitx_dict I.kIn ⟨o, h1, h2.1⟩ e (fun z => nomatch z) h
  | @dT a kvs ea =>
    cases (show u = Value.ref a from rx)
    obtain ⟨_, _, xs, _, o, es, ep, h1, h2, _⟩ := (show ObjOk X.prog X.w H s.heap a (.dT kvs) from I.hok a _ ea)
    exact PySem.W.kia_one PySem.W.kitx_dict I.kIn ⟨o, h1, h2.1⟩ e (fun z => nomatch z) h
  | @ins a C dx fs ea cl ha hn htk hm =>
    cases (show u = Value.ref a from rx)
    obtain ⟨mA, O, _⟩ := ins_get I.hok ea
    obtain ⟨od, J, _⟩ := O.look
    exact PySem.W.kia_one (PySem.W.kitx_own (cl.get _) cl.hd ha hn htk hm) I.kIn J e (fun z => nomatch z) h
end
end L2
namespace L2
open PySem PySem.Spec PyProof.Rows
structure Room (k : Nat) (A : Around) : Prop where
  hd : A.handled = none
  dp : A.depth + 3 * k + 5 < recursionLimit
  un : A.units + 16 * k + 200 < cLine
  gd : A.guards = some []
theorem Room.mono {j k : Nat} {A : Around} (r : Room k A) (h : j ≤ k) : Room j A := ⟨r.hd, by have := r.dp; omega, by have := r.un; omega, r.gd⟩
theorem Room.deeper {k : Nat} {A : Around} (r : Room (k + 1) A) (env : Env) : Room k (A.deeper env) :=
  ⟨r.hd, by have := r.dp; show A.depth + 1 + 3 * k + 5 < _; omega, by have := r.un; show A.units + 3 + 16 * k + 200 < _; omega, r.gd⟩
theorem make_depth {A : Around} {C : Addr} {us : List Value} {kw : List (Str × Value)} : (A.under (.builtin "type.__call__" ⟨.ref C :: us, kw⟩)).depth = A.depth + 1 := by
  first | rfl | simp [Around.under, Code.weight, Code.isCreation, Code.isGuard, Code.isCaller, Code.frames, Code.isFrame, guardIds]
theorem make_units {A : Around} {C : Addr} {us : List Value} {kw : List (Str × Value)} : (A.under (.builtin "type.__call__" ⟨.ref C :: us, kw⟩)).units = A.units + 1 := by
  first | rfl | simp [Around.under, Code.cUnits, Code.frames, Code.isFrame]
theorem Room.make {k : Nat} {A : Around} (r : Room (k + 1) A) (C : Addr) (us : List Value) (kw : List (Str × Value)) : Room k (A.under (.builtin "type.__call__" ⟨.ref C :: us, kw⟩)) :=
  ⟨r.hd, by have := r.dp; rw [make_depth]; omega, by have := r.un; rw [make_units]; omega, by have := r.gd; first | exact this | simpa [Around.under, Code.guards, Code.isGuard, pushGuards, guardIds] using this⟩
theorem Room.depth {k : Nat} {A : Around} (r : Room k A) : A.depth < recursionLimit := by have := r.dp; omega
theorem Room.units {k : Nat} {A : Around} (r : Room k A) : A.units + 64 < cLine := by have := r.un; omega
theorem Room.units0 {k : Nat} {A : Around} (r : Room k A) : A.units < cLine := by have := r.un; omega
def tNil : TA := fun _ H Q => Q [] H
def tCons (ta : TE) (tr : TA) : TA := fun σ H Q => ta σ H fun x H1 => tr σ H1 fun xs H2 => Q (x :: xs) H2
section
variable {X : Cx} {e : Expr} {es : List Expr} {te : TE} {t : TA} {pos : Pos}
theorem pa_nil : PA X [] tNil := fun _ _ _ _ H Q I h => Calls.spliced_nil ⟨[], H, I, .nil, h⟩
theorem pa_cons (ha : PE X e te) (hr : PA X es t) (hs : starEach (e :: es) X.env = (false, eval e X.env) :: starEach es X.env := by rfl) : PA X (e :: es) (tCons te t) := by
  intro pos pins s σ H Q I h
  rw [hs]
  show wpAny _ _ (spliced ((false, eval e X.env) :: backTo pos (starEach es X.env))) _ _ s
  refine Calls.spliced_cons (thn (ha pins s σ H _ I h) fun u s1 ⟨x, H1, I1, r1, q1⟩ => ?_)
  exact thn (hr pos pins s1 σ H1 _ I1 q1) fun us s2 ⟨xs, H2, I2, r2, q2⟩ => ⟨x :: xs, H2, I2, .cons r1 r2, q2⟩
def tTup (t : TA) : TE := fun σ H Q => t σ H fun xs H1 => xs.length ≤ sizeLine ∧ ∀ p, H1 p = none → Q (.ref p) (upd H1 p (.tup xs))
def tLst (t : TA) : TE := fun σ H Q => t σ H fun xs H1 => xs.length ≤ sizeLine ∧ ∀ p, H1 p = none → Q (.ref p) (upd H1 p (.lst xs))
theorem pe_tup {x1} (h : PA X es t) : PE X (.Tuple es x1 pos) (tTup t) := by
  intro pins s σ H Q I hq
  refine wpAny_Tuple_spliced (thn (h pos pins s σ H _ I hq) fun us s1 ⟨xs, H1, I1, r, z, q⟩ => ⟨by rw [← r.length]; exact z, ?_⟩)
  have hf : H1 s1.heap.objs.size = none := I1.hok.fresh (Nat.le_refl _)
  refine ⟨.ref s1.heap.objs.size, upd H1 s1.heap.objs.size (.tup xs), I1.laid (t' := s1.toks) (fun b u e => Heap.get?_push_of_some _ e) (Nat.le_refl _) ?_, rfl, q _ hf⟩
  exact ⟨z, us, r, ⟨_, Heap.get?_push_size _ rfl, rfl, _, rfl⟩⟩
theorem pe_lst (h : PA X es t) : PE X (.List es pos) (tLst t) := by
  intro pins s σ H Q I hq
  refine wpAny_List_spliced (thn (h pos pins s σ H _ I hq) fun us s1 ⟨xs, H1, I1, r, z, q⟩ => ⟨by rw [← r.length]; exact z, ?_⟩)
  have hf : H1 s1.heap.objs.size = none := I1.hok.fresh (Nat.le_refl _)
  refine ⟨.ref s1.heap.objs.size, upd H1 s1.heap.objs.size (.lst xs), I1.laid (t' := s1.toks) (fun b u e => Heap.get?_push_of_some _ e) (Nat.le_refl _) ?_, rfl, q _ hf⟩
  exact ⟨z, us, 0, r, Heap.get?_push_size _ rfl⟩
end
abbrev Sp := List V → Hp → VK → XK → Prop
abbrev CXT := List Env → Hp → Shared → XK → Value → Shared → Prop
structure Env0 (P : Program) (w : World) (K : PySem.W.Frag) (mg : Str → Option Value) (base : Heap) (A : Around) (outer : List Env) (s : Shared) (H : Hp) : Prop where
  frames : A.frames = some outer
  mod : Mod K mg base
  bs : ∀ b o, base.get? b = some o → s.heap.get? b = some o ∧ H b = none
  bsz : base.objs.size ≤ s.heap.objs.size
  funs : s.heap.FunFrames base outer
  frf : ∀ b ∈ frs outer, H b = none
  hok : HOk P w H s.heap
  bare : AllBare s.gens
def CE (outer : List Env) (P : Program) (w : World) (H : Hp) (s : Shared) (Q : VK) (u : Value) (s' : Shared) : Prop :=
  ∃ v H', s'.os = s.os ∧ AllBare s'.gens ∧ Un (frs outer) [] H H' s.heap s'.heap ∧ HOk P w H' s'.heap ∧ RelV v u ∧ Q v H'
def CR (CX : CXT) (outer : List Env) (P : Program) (w : World) (H : Hp) (s : Shared) (Q : VK) (E : XK) (r : Result) (s' : Shared) : Prop :=
  match r with
  | .ok (.ret u) => CE outer P w H s Q u s'
  | .ok _ => False
  | .error e => CX outer H s E e s'
structure FnOk (P : Program) (w : World) (K : PySem.W.Frag) (mg : Str → Option Value) (base : Heap) (CX : CXT) (k : Nat) (f : Addr) (fd : FuncData) (ps : List Str) (sp : Sp) : Prop where
  len : ∀ vs H Q E, sp vs H Q E → vs.length = ps.length
  run : ∀ (A : Around) (outer : List Env) (s : Shared) (H : Hp) (args : Args) (us : List Value) (vs : List V) (Q : VK) (E : XK), Room k A → Env0 P w K mg base A outer s H → BindsTo s fd args (ps.zip us) → Vals vs us → sp vs H Q E →
    codeAny (model P w) A (.call (.ref f) args) (CR CX outer P w H s Q E) s
theorem Env0.make {P : Program} {w : World} {K : PySem.W.Frag} {mg : Str → Option Value} {base : Heap} {A : Around} {outer : List Env} {s : Shared} {H : Hp} (e : Env0 P w K mg base A outer s H) (C : Addr) (us : List Value) (kw : List (Str × Value)) :
    Env0 P w K mg base (A.under (.builtin "type.__call__" ⟨.ref C :: us, kw⟩)) outer s H := ⟨by first | exact e.frames | (simpa [Around.under, Code.envs, Code.isFrame, pushEnvs] using e.frames), e.mod, e.bs, e.bsz, e.funs, e.frf, e.hok, e.bare⟩
section
variable {X : Cx} {pins : List (Addr × Obj)} {σ : St} {H : Hp} {s s' : Shared}
theorem Inv.env0 (I : Inv X pins σ H s) : Env0 X.prog X.w X.K X.mg X.base X.A X.stack s H :=
  ⟨I.ok.frames, I.ok.mod, I.bs, Nat.le_trans I.ok.bsz I.sz, I.stack, I.stkFree, I.hok, I.bare⟩
theorem Inv.after {Q : VK} {u : Value} (I : Inv X pins σ H s) (h : CE X.stack X.prog X.w H s Q u s') : EP X pins σ Q u s' := by
  obtain ⟨v, H', os, bare, un, hok, r, q⟩ := h
  obtain ⟨hh, g, d, t, os'⟩ := s'
  obtain rfl : os' = s.os := os
  exact ⟨v, H', I.call (h' := hh) (g' := g) (d' := d) (t' := t) (ch := []) un hok bare (fun b z => absurd z (by simp)), r, q⟩
end
def tCall (sp : Sp) (dvs : List V) (E : XK) (t : TA) : TE := fun σ H Q => t σ H fun vs H1 => sp (vs ++ dvs) H1 Q E
def Binds (K : PySem.W.Frag) (fd : FuncData) (ps : List Str) (ds : List Value) : Prop :=
  ∀ (s : Shared) (us : List Value), K.In s.heap → (us ++ ds).length = ps.length → BindsTo s fd ⟨us, []⟩ (ps.zip (us ++ ds))
theorem Binds.all {K : PySem.W.Frag} {fd : FuncData} {ps : List Str} (h : ∀ us : List Value, us.length = ps.length → bindArgs fd ⟨us, []⟩ = pure (ps.zip us)) : Binds K fd ps [] := fun s us _ hl => by
  rw [List.append_nil] at hl ⊢
  exact .of_eq (h us hl)
def Passes (CX : CXT) (X : Cx) (E : XK) : Prop := ∀ (pins : List (Addr × Obj)) (σ : St) (H : Hp) (s : Shared) (e : Value) (s' : Shared), Inv X pins σ H s → CX X.stack H s E e s' → X.xe e s'
section
variable {X : Cx} {CX : CXT} {k : Nat} {f C : Addr} {fd : FuncData} {ps : List Str} {sp : Sp} {dvs : List V} {ds : List Value} {E : XK} {x m : Str} {p pos apos : Pos} {e o : Expr} {es : List Expr} {ta : TE} {t : TA}
theorem run_fn {pins : List (Addr × Obj)} {σ : St} {H : Hp} {s : Shared} {Q : VK} {us : List Value} {vs : List V} (F : FnOk X.prog X.w X.K X.mg X.base CX k f fd ps sp) (hr : Room k X.A) (hb : Binds X.K fd ps ds) (hd : Vals dvs ds) (hx : Passes CX X E)
    (I : Inv X pins σ H s) (r : Vals vs us) (h : sp (vs ++ dvs) H Q E) : wpAny (model X.prog X.w) X.A (call (.ref f) us) (EP X pins σ Q) X.xe s := by
  have r2 : Vals (vs ++ dvs) (us ++ ds) := r.append hd
  have hl : (us ++ ds).length = ps.length := by rw [← r2.length]; exact F.len _ _ _ _ h
  refine wpAny_call (codeAny_mono (F.run X.A X.stack s H ⟨us, []⟩ (us ++ ds) (vs ++ dvs) Q E hr I.env0 (hb s us I.kIn hl) r2 h) fun r s' hq => ?_)
  cases r with
  | error e => exact hx pins σ H s e s' I hq
  | ok fl =>
    cases fl with
    | ret u => exact I.after hq
    | next => exact False.elim hq
    | brk => exact False.elim hq
    | cont => exact False.elim hq
theorem pe_call (F : FnOk X.prog X.w X.K X.mg X.base CX k f fd ps sp) (hr : Room k X.A) (hg : Gl X x) (hm : X.mg x = some (.ref f)) (hk : PySem.W.keepIn X.K (.ref f) = true) (hb : Binds X.K fd ps ds) (hd : Vals dvs ds) (hx : Passes CX X E)
    (ha : PA X (e :: es) t) (hdb : (x == ("__debug__" : Str)) = false := by decide) (he : starEach (e :: es) X.env = (false, eval e X.env) :: starEach es X.env := by rfl) (hpl : (backTo pos (starEach es X.env)).any (·.1) = false := by rfl) :
    PE X (.Call (.Name x p) (e :: es) [] pos) (tCall sp dvs E t) := by
  intro pins s σ H Q I h
  refine wpAny_Call_Name_kw (ld_glob I hg hm ?_ hdb)
  refine PySem.W.callWith_K (h₀ := X.base) I.ok.mod.kin hk (thn (ha pos pins s σ H _ I h) fun us s1 ⟨vs, H1, I1, r, q⟩ => ⟨I1.kIn, ?_⟩) he hpl
  exact run_fn F hr hb hd hx I1 r q
end
section
variable {X : Cx} {CX : CXT} {k : Nat} {f C : Addr} {fd : FuncData} {ps ks : List Str} {sp : Sp} {E : XK} {x m : Str} {p pos apos kpos : Pos} {e o : Expr} {es : List Expr} {kws : List Keyword} {te ta : TE} {t tk : TA} {nm : Option Str}
variable {g : List Value → List Value → List Value} {gV : List V → List V → List V}
end
structure FnScope (N P : List Str) (sc : Scope) : Prop where
  kind : sc.kind = .function
  co : sc.isCoroutine = false
  gen : sc.isGenerator = false
  nd : N.Nodup
  pre : N.take P.length = P
  par : ∀ x ∈ P, sc.names.lookup x = some .local ∨ sc.names.lookup x = some .cell
  nofree : ∀ y ∈ sc.names, y.2 ≠ .free
theorem bindL_out {kindOf : Str → Option NameKind} {x : Str} : ∀ {binds : List (Str × Value)} {m : Str → Option Value}, (∀ v, (x, v) ∉ binds) → bindL kindOf binds m x = m x
  | [], _, _ => rfl
  | (n, v) :: r, m, h => by
    unfold bindL
    rw [bindL_out fun w hw => h w (List.mem_cons_of_mem _ hw)]
    split
    · have : x ≠ n := by rintro rfl; exact h v List.mem_cons_self
      simp [this]
    · rfl
theorem bindC_out {kindOf : Str → Option NameKind} {x : Str} : ∀ {binds : List (Str × Value)} {m : Str → Option Value}, (∀ v, (x, v) ∉ binds) → bindC kindOf binds m x = m x
  | [], _, _ => rfl
  | (n, v) :: r, m, h => by
    unfold bindC
    rw [bindC_out fun w hw => h w (List.mem_cons_of_mem _ hw)]
    split
    · rfl
    · have : x ≠ n := by rintro rfl; exact h v List.mem_cons_self
      simp [this]
theorem bindL_get {kindOf : Str → Option NameKind} {x : Str} {v : Value} : ∀ {P : List Str} {vs : List Value} {i : Nat} {m : Str → Option Value}, P.Nodup → P[i]? = some x → vs[i]? = some v → kindOf x = some .local →
    bindL kindOf (P.zip vs) m x = some v
  | [], _, _, _, _, h, _, _ => by simp at h
  | _ :: _, [], _, _, _, _, h, _ => by simp at h
  | p :: P, w :: vs, 0, m, nd, h1, h2, hk => by
    simp at h1 h2; subst h1; subst h2
    show bindL kindOf ((p, w) :: P.zip vs) m p = _
    unfold bindL
    rw [bindL_out fun v hv => (List.nodup_cons.mp nd).1 (List.of_mem_zip hv).1, if_pos hk]
    simp
  | p :: P, w :: vs, i + 1, m, nd, h1, h2, hk => by
    show bindL kindOf ((p, w) :: P.zip vs) m x = _
    unfold bindL
    exact bindL_get (i := i) (List.nodup_cons.mp nd).2 (by simpa using h1) (by simpa using h2) hk
theorem bindC_get {kindOf : Str → Option NameKind} {x : Str} {v : Value} : ∀ {P : List Str} {vs : List Value} {i : Nat} {m : Str → Option Value}, P.Nodup → P[i]? = some x → vs[i]? = some v → kindOf x ≠ some .local →
    bindC kindOf (P.zip vs) m x = some v
  | [], _, _, _, _, h, _, _ => by simp at h
  | _ :: _, [], _, _, _, _, h, _ => by simp at h
  | p :: P, w :: vs, 0, m, nd, h1, h2, hk => by
    simp at h1 h2; subst h1; subst h2
    show bindC kindOf ((p, w) :: P.zip vs) m p = _
    unfold bindC
    rw [bindC_out fun v hv => (List.nodup_cons.mp nd).1 (List.of_mem_zip hv).1, if_neg hk]
    simp
  | p :: P, w :: vs, i + 1, m, nd, h1, h2, hk => by
    show bindC kindOf ((p, w) :: P.zip vs) m x = _
    unfold bindC
    exact bindC_get (i := i) (List.nodup_cons.mp nd).2 (by simpa using h1) (by simpa using h2) hk
def start (N : List Str) (vs : List V) : St := vs.map some ++ List.replicate (N.length - vs.length) none
def cxOf (CX : CXT) (P : Program) (w : World) (K : PySem.W.Frag) (mg : Str → Option Value) (base : Heap) (N : List Str) (qual : Str) (scope : Scope) (f : Addr) (cd : Value) (A : Around) (outer : List Env) (s : Shared) (H : Hp) (E : XK) : Cx where
  prog := P
  w := w
  K := K
  mg := mg
  base := base
  A := A.deeper (envOfC qual scope s.heap.objs.size f cd)
  N := N
  s₀ := s
  H₀ := H
  env := envOfC qual scope s.heap.objs.size f cd
  outer := outer
  stack := envOfC qual scope s.heap.objs.size f cd :: outer
  ex := []
  calm := true
  fn := fun _ => true
  pn := []
  xe := fun e s' => wpAny (model P w) (A.deeper (envOfC qual scope s.heap.objs.size f cd)) (leaving (envOfC qual scope s.heap.objs.size f cd) e) (fun _ s'' => CX outer H s E e s'') (fun e' s'' => CX outer H s E e' s'') s'
theorem cell_has {sc : Scope} {n : Nat} {x : Str} (h : sc.names.lookup x = some .cell) : ∃ c, (cellsFrom n sc.names []).lookup x = some c := by
  have q := PySem.W.cellsFrom_some sc.names n [] (.inl h)
  exact Option.isSome_iff_exists.mp q
theorem inv_start {CX : CXT} {P : Program} {w : World} {K : PySem.W.Frag} {mg : Str → Option Value} {base : Heap} {N ps : List Str} {qual : Str} {scope : Scope} {f : Addr} {cd : Value} {A : Around} {outer : List Env} {s s1 : Shared} {H : Hp} {E : XK} {us : List Value} {vs : List V}
    (S : FnScope N ps scope) (hd : A.handled = none) (e0 : Env0 P w K mg base A outer s H) (hl : vs.length = ps.length) (r : Vals vs us)
    (x : InCallC s s.heap.objs.size (bindL (envOfC qual scope s.heap.objs.size f cd).kindOf (ps.zip us) fun _ => none) (cellsFrom (s.heap.objs.size + 1) scope.names []) (bindC (envOfC qual scope s.heap.objs.size f cd).kindOf (ps.zip us) fun _ => none) s1) :
    Inv (cxOf CX P w K mg base N qual scope f cd A outer s H E) [] (start N vs) H s1 := by
  have hpl : ps.length ≤ N.length := by have := congrArg List.length S.pre; rw [List.length_take] at this; omega
  obtain ⟨h1, tk, rfl, hk⟩ := x.done
  have noA : ∀ b : Addr, b ∉ (cxOf CX P w K mg base N qual scope f cd A outer s H E).ex := fun b z => absurd (show b ∈ ([] : List Addr) from z) (by simp)
  refine ⟨⟨e0.mod, S.kind, rfl, rfl, Nat.le_refl _, fun y z c h1 h2 => ?_, fun y hy => ?_, fun y c _ h => ?_, fun _ => hd, Around.frames_deeper e0.frames, .inr ⟨rfl, rfl⟩, fun b z => absurd z (noA b), e0.bs, e0.bsz, fun b _ _ => noA b, fun b z => absurd z (noA b), e0.funs, e0.frf⟩,
    rfl, e0.bare, Un.kept hk, ⟨_, x.toInCall.ns, fun i y v h1 h2 h3 => ?_⟩, fun y c h => ⟨_, x.cell y c h⟩, e0.hok.fresh (Nat.le_refl _), fun y c h => ?_, fun p hp => absurd (show p ∈ ([] : List (Addr × Obj)) from hp) (by simp), e0.hok.kept hk, ?_⟩
  · exact name_of_addr x.apart (PySem.mem_of_lookup h1) (PySem.mem_of_lookup h2)
  · have hy : scope.names.lookup y = some .cell ∨ scope.names.lookup y = some .free := hy
    rcases hy with hy | hy
    · exact cell_has hy
    · exact absurd rfl (S.nofree _ (PySem.mem_of_lookup hy))
  · exact Nat.le_of_lt (x.above y c (PySem.mem_of_lookup h))
  · have hi : i < vs.length := by
      unfold start at h2
      by_cases hi : i < vs.length
      · exact hi
      · rw [List.getElem?_append_right (by simpa using hi)] at h2
        rw [List.getElem?_replicate] at h2
        split at h2 <;> cases h2
    have ha : vs[i]? = some v := by
      unfold start at h2
      rw [List.getElem?_append_left (by simpa using hi), List.getElem?_map] at h2
      cases e : vs[i]? with
      | none => rw [e] at h2; cases h2
      | some a => rw [e] at h2; cases h2; rfl
    obtain ⟨u, hu, rv⟩ := r.get ha
    have hp : ps[i]? = some y := by
      rw [← S.pre, List.getElem?_take_of_lt (by omega)]; exact h1
    have ndP : ps.Nodup := by rw [← S.pre]; exact S.nd.sublist (List.take_sublist _ _)
    refine ⟨u, rv, ?_⟩
    rcases S.par y (List.mem_of_getElem? hp) with k | k
    · exact .inl ⟨k, bindL_get ndP hp hu k⟩
    · obtain ⟨c, e⟩ := cell_has (n := s.heap.objs.size + 1) k
      refine .inr ⟨.inl k, c, e, ?_⟩
      have q := x.cell y c e
      rw [bindC_get ndP hp hu (by show scope.names.lookup y ≠ _; rw [k]; decide)] at q
      exact q
  · exact e0.hok.fresh (Nat.le_of_lt (x.above y c (PySem.mem_of_lookup h)))
  · unfold start
    show _ = N.length
    rw [List.length_append, List.length_map, List.length_replicate]
    omega
theorem fn_of {CX : CXT} {P : Program} {w : World} {K : PySem.W.Frag} {mg : Str → Option Value} {base : Heap} {k : Nat} {f : Addr} {name qual : Str} {params : Arguments} {body : List Stmt} {scope : Scope} {dV kV doc pm cdv ct oc : Value} {an od : Option Addr}
    {osl : Array (Option Value)} {N ps : List Str} {sp : Sp} (lk : K.lookup f = some ⟨oc, od, .func (PySem.W.fnOf name qual params body scope dV kV doc pm an cdv ct), osl⟩) (hcd : PySem.W.codeIn K cdv qual = true) (S : FnScope N ps scope)
    (len : ∀ vs H Q E, sp vs H Q E → vs.length = ps.length)
    (hbody : ∀ (A : Around) (outer : List Env) (s : Shared) (H : Hp) (vs : List V) (Q : VK) (E : XK), Room k (A.deeper (envOfC qual scope s.heap.objs.size f cdv)) → sp vs H Q E →
      ∃ t, PSs (cxOf CX P w K mg base N qual scope f cdv A outer s H E) body t ∧ t { nx := fun _ H' => Q .non H', rt := Q } (start N vs) H) :
    FnOk P w K mg base CX (k + 1) f (PySem.W.fnOf name qual params body scope dV kV doc pm an cdv ct) ps sp := by
  refine ⟨len, fun A outer s H args us vs Q E hr e0 hb r hsp => ?_⟩
  have hl := len _ _ _ _ hsp
  have KX : K.In s.heap := e0.mod.kin.keeps fun b o e => (e0.bs b o e).1
  have lim : s.heap.NoLimit := e0.mod.nolimit.keeps fun b o e => (e0.bs b o e).1
  have hkind : ∀ y ∈ ps.zip us, scope.names.lookup y.1 = some .local ∨ (scope.names.lookup y.1 = some .cell ∧ ((cellsFrom (s.heap.objs.size + 1) scope.names []).lookup y.1).isSome = true) := fun ⟨n, v⟩ hy => by
    rcases S.par n (List.of_mem_zip hy).1 with q | q
    · exact .inl q
    · exact .inr ⟨q, PySem.W.cellsFrom_some _ _ _ (.inl q)⟩
  refine codeAny_call_function hr.depth (KX _ _ lk) rfl S.co S.gen rfl (PySem.W.codeRec_of KX hcd) (hb _ _ _ _ ?_)
  refine wpAny_newFunctionEnv_cells S.kind hkind fun env he s1 x => ?_
  subst he
  refine ⟨lim.keeps x.toInCall.keep, codeAny_func ?_⟩
  obtain ⟨t, ht, hq⟩ := hbody A outer s H vs Q E (hr.deeper _) hsp
  have I : Inv (cxOf CX P w K mg base N qual scope f cdv A outer s H E) [] (start N vs) H s1 := inv_start S hr.hd e0 hl r x
  refine wpAny_mono (ht [] s1 (start N vs) H _ I hq) (fun fl s' hs => ?_) fun e s' hs => hs
  have fin : ∀ {σ' : St} {H' : Hp} {v : V} {u : Value}, Inv (cxOf CX P w K mg base N qual scope f cdv A outer s H E) [] σ' H' s' → RelV v u → Q v H' → CE outer P w H s Q u s' :=
    fun {σ' H' v u} J rv q => ⟨v, H', J.os, J.bare, J.base, J.hok, rv, q⟩
  cases fl with
  | ret u =>
    obtain ⟨v, σ', H', J, rv, q⟩ := hs
    exact fin J rv q
  | next =>
    obtain ⟨σ', H', J, q⟩ := hs
    exact fin (v := V.non) (u := Value.none) J rfl q
  | brk =>
    obtain ⟨_, _, _, q⟩ := hs
    exact False.elim q
  | cont =>
    obtain ⟨_, _, _, q⟩ := hs
    exact False.elim q
end L2
namespace L2
open PySem PySem.Spec PyProof.Rows
section
variable {X : Cx} {x : Str} {p pos : Pos} {e : Expr} {es : List Expr} {t : TA} {id T : String} {r : List V → Hp → VK → Prop}
def tCB (r : List V → Hp → VK → Prop) (t : TA) : TE := fun σ H Q => t σ H fun vs H1 => r vs H1 Q
theorem pe_callB (hc : CallR X (.builtin id) r) (hg : Gl X x) (hm : X.mg x = none) (hv : bootBuiltins x = some (.builtin id)) (ha : PA X (e :: es) t) (hn : x ≠ "__name__" := by decide) (hdb : (x == ("__debug__" : Str)) = false := by decide)
    (he : starEach (e :: es) X.env = (false, eval e X.env) :: starEach es X.env := by rfl) (hpl : (backTo pos (starEach es X.env)).any (·.1) = false := by rfl) : PE X (.Call (.Name x p) (e :: es) [] pos) (tCB r t) := by
  intro pins s σ H Q I h
  refine wpAny_Call_Name_kw (ld_blt I hg hm hv ?_ hn hdb)
  exact PyProof.Rows.callWith_builtin1 (thn (ha pos pins s σ H _ I h) fun us s1 ⟨vs, H1, I1, r1, q1⟩ => hc pins s1 σ H1 vs us Q I1 r1 q1) he hpl
theorem pe_callTy (hc : CallR X (.type T) r) (hg : Gl X x) (hm : X.mg x = none) (hv : bootBuiltins x = some (.type T)) (ha : PA X (e :: es) t) (hn : x ≠ "__name__" := by decide) (hdb : (x == ("__debug__" : Str)) = false := by decide)
    (he : starEach (e :: es) X.env = (false, eval e X.env) :: starEach es X.env := by rfl) (hpl : (backTo pos (starEach es X.env)).any (·.1) = false := by rfl) : PE X (.Call (.Name x p) (e :: es) [] pos) (tCB r t) := by
  intro pins s σ H Q I h
  refine wpAny_Call_Name_kw (ld_blt I hg hm hv ?_ hn hdb)
  exact PyProof.Rows.callWith_type1 (thn (ha pos pins s σ H _ I h) fun us s1 ⟨vs, H1, I1, r1, q1⟩ => hc pins s1 σ H1 vs us Q I1 r1 q1) he hpl
end
end L2
namespace HT
open PySem PyProof.Rows
section
open PySem.SeqAt
open PySem.AutoSeq1 (wpAny_loadPart')
open PySem.MeetsSeq PySem.MeetsSeq2 PySem.MeetsSeq3
end
section
variable {prog : Program} {w : World} {A : Around} {E : Value → Shared → Prop} {s : Shared}
theorem cat_tup {t b : Addr} {vs ws : List Value} {Q : Value → Shared → Prop} (ht : IsTup s.heap t vs.toArray) (hb : IsTup s.heap b ws.toArray) (hv : vs ≠ [])
    (h1 : ws = [] → Q (.ref t) s) (h2 : ws ≠ [] → Q (.ref s.heap.objs.size) { s with heap := s.heap.push { cls := .type "tuple", data := .seq (vs ++ ws).toArray } })
    (hsz : vs.length + ws.length ≤ sizeLine) : wpAny (model prog w) A (binaryOp .Add (.ref t) (.ref b)) Q E s := by
  obtain ⟨⟨cls, dd, data, sl⟩, ho, hc, n, hd⟩ := id ht
  obtain ⟨⟨cls2, dd2, data2, sl2⟩, ho2, hc2, n2, hd2⟩ := id hb
  simp only at hc hd hc2 hd2
  subst hc hd hc2 hd2
  have e : vs.toArray ++ ws.toArray = (vs ++ ws).toArray := by simp
  by_cases hw : ws = []
  · exact concat_meets ⟨_, ho, rfl⟩ ⟨_, ho2, rfl⟩ noFill_tuple_add seq_tuple_add PySem.F.slot_tuple_add PySem.F.entry_tuple_add (PySem.F.args_tuple_add_2 _ _)
      (tuple_addW1 t b vs.toArray ws.toArray n n2 dd dd2 sl sl2 (by simpa using hv) (by simp [hw])) ⟨ho, ho2, h1 hw⟩
  · refine concat_meets ⟨_, ho, rfl⟩ ⟨_, ho2, rfl⟩ noFill_tuple_add seq_tuple_add PySem.F.slot_tuple_add PySem.F.entry_tuple_add (PySem.F.args_tuple_add_2 _ _)
      (tuple_addW2 t b vs.toArray ws.toArray n n2 dd dd2 sl sl2 (by simpa using hv) (by simpa using hw) (by rw [List.size_toArray, List.size_toArray]; exact hsz)) ⟨ho, ho2, ?_⟩
    rw [e]
    exact h2 hw
def sIx (n d : Nat) : Option Int → Nat
  | none => d
  | some v => if v < 0 then (v + (n : Int)).toNat else min v.toNat n
theorem sIx_le (n d : Nat) (hd : d ≤ n) (o : Option Int) : sIx n d o ≤ n := by
  cases o with
  | none => exact hd
  | some v =>
    show (if v < 0 then (v + (n : Int)).toNat else min v.toNat n) ≤ n
    by_cases hv : v < 0
    · rw [if_pos hv]; omega
    · rw [if_neg hv]; exact Nat.min_le_right _ _
theorem clip_eq (v : Int) (n d : Nat) : (if v < 0 then max (v + (n : Int)) 0 else min v (n : Int)) = ((sIx n d (some v) : Nat) : Int) := by
  show (if v < 0 then max (v + (n : Int)) 0 else min v (n : Int)) = (((if v < 0 then (v + (n : Int)).toNat else min v.toNat n) : Nat) : Int)
  by_cases hv : v < 0
  · simp only [if_pos hv]; omega
  · simp only [if_neg hv]; omega
theorem adjust_gen (lo hi : Option Int) (n : Nat) : Builtin.Slice.sliceAdjust lo hi 1 (n : Int) = (((sIx n 0 lo : Nat) : Int), ((sIx n n hi : Nat) : Int)) := by
  have h1 : ¬ ((1 : Int) < 0) := by omega
  unfold Builtin.Slice.sliceAdjust
  simp only [h1, if_false]
  refine Prod.ext ?_ ?_
  · cases lo with
    | none => rfl
    | some v => exact clip_eq v n 0
  · cases hi with
    | none => rfl
    | some v => exact clip_eq v n n
theorem places_gen (i j : Nat) : Builtin.Slice.slicePlaces (i : Int) (j : Int) 1 = j - i := by
  unfold Builtin.Slice.slicePlaces
  have h1 : (1 : Int) > 0 := by omega
  simp only [h1, if_true, Int.ediv_one]
  split <;> omega
theorem slicePart_ {v : Value} {o : Option Int} {Q : Option Int → Shared → Prop} (p : IsPart v o) (h : Q o s) : wpAny (model prog w) A (Builtin.Slice.slicePartIndex v) Q E s := by
  cases p with
  | none => exact slicePart_none h
  | int i t => exact slicePart_int h
theorem sliceApplied_gen {sl : Addr} {vl vu : Value} {lo hi : Option Int} {n : Nat} {Q : Int × Int × Nat → Shared → Prop} (hs : s.heap.IsSliceOf sl vl vu .none) (pl : IsPart vl lo) (pu : IsPart vu hi)
    (h : Q (((sIx n 0 lo : Nat) : Int), 1, sIx n n hi - sIx n 0 lo) s) : wpAny (model prog w) A (Builtin.Slice.sliceApplied (.ref sl) (pure (n : Int))) Q E s := by
  obtain ⟨os, hos, hcs, hds⟩ := id hs
  unfold Builtin.Slice.sliceApplied Builtin.Slice.sliceFields
  refine wpAny_bind (wpAny_bind (wpAny_field hos hds (x := vl) rfl (wpAny_bind (wpAny_field hos hds (x := vu) rfl (wpAny_bind (wpAny_field hos hds (x := .none) rfl (wpAny_pure ?_)))))))
  refine wpAny_bind (slicePart_none ?_)
  show wpAny _ _ (if ((1 : Int) == 0) = true then _ else _) _ _ s
  rw [if_neg (by decide)]
  refine wpAny_bind (slicePart_ pl (wpAny_bind (slicePart_ pu (wpAny_bind (wpAny_pure ?_)))))
  show wpAny _ _ (match Builtin.Slice.sliceAdjust lo hi 1 (n : Int) with | (lo, hi) => pure (lo, (1 : Int), Builtin.Slice.slicePlaces lo hi 1)) _ _ s
  rw [adjust_gen lo hi n]
  show wpAny _ _ (pure (((sIx n 0 lo : Nat) : Int), (1 : Int), Builtin.Slice.slicePlaces ((sIx n 0 lo : Nat) : Int) ((sIx n n hi : Nat) : Int) 1)) _ _ s
  rw [places_gen]
  exact wpAny_pure h
theorem pick_gen (xs : Array Value) (i k : Nat) : ((List.range k).filterMap fun (m : Nat) => xs[((i : Int) + (m : Int) * 1).toNat]?).toArray = ((xs.toList.drop i).take k).toArray := by
  have e : (fun (m : Nat) => xs[((i : Int) + (m : Int) * 1).toNat]?) = fun m => xs[i + m]? := by
    funext m
    have : ((i : Int) + (m : Int) * 1).toNat = i + m := by omega
    rw [this]
  rw [e]
  have := pick_run xs i k
  rw [List.filterMap_map] at this
  have e2 : ((fun x => xs[x]?) ∘ fun x => i + x) = fun m => xs[i + m]? := rfl
  rw [e2] at this
  rw [this]
theorem getItem_tuple_cut {t sl : Addr} {items : Array Value} {vl vu : Value} {lo hi : Option Int} {Q : Value → Shared → Prop} (ht : IsTup s.heap t items) (hs : s.heap.IsSliceOf sl vl vu .none) (pl : IsPart vl lo) (pu : IsPart vu hi)
    (hw : ¬ (sIx items.size 0 lo = 0 ∧ sIx items.size items.size hi = items.size))
    (h : Q (.ref s.heap.objs.size) { s with heap := s.heap.push { cls := .type "tuple", data := .seq ((items.toList.drop (sIx items.size 0 lo)).take (sIx items.size items.size hi - sIx items.size 0 lo)).toArray } })
    (hsz : items.size ≤ sizeLine) : wpAny (model prog w) A (getItem (.ref t) (.ref sl)) Q E s := by
  have htake : sizeOk (.seq ((items.toList.drop (sIx items.size 0 lo)).take (sIx items.size items.size hi - sIx items.size 0 lo)).toArray) := by
    show ((items.toList.drop (sIx items.size 0 lo)).take (sIx items.size items.size hi - sIx items.size 0 lo)).toArray.size ≤ sizeLine
    rw [List.size_toArray, List.length_take, List.length_drop, Array.length_toList]
    omega
  have hj : sIx items.size items.size hi ≤ items.size := sIx_le _ _ (Nat.le_refl _) hi
  obtain ⟨os, hos, hcs, hds⟩ := id hs
  have hTs : s.TypeIs (.ref sl) "slice" := ⟨os, hos, hcs⟩
  unfold getItem
  try with_reducible refine wpAny_holding ?_
  first | refine wpAny_bind (wpAny_pure ?_) | skip
  refine wpAny_bind (wpAny_sequenceKey ht.typeIs (by decide) ?_)
  refine wpAny_bind (wpAny_callSpecial?_slot (name := Str.ofString "__getitem__") ht.typeIs PyProof.Rows.slot_tuple_getitem
    (wpAny_call_entry PyProof.Rows.slot_tuple_getitem ht.typeIs entry_tuple_getitem ?_ (args_tuple_getitem _ _)))
  show wpAny _ _ (Builtin.Tuple.tupleItemsOf (.ref t) >>= _) _ _ s
  refine wpAny_bind (tupleItemsOf_ ht ?_)
  refine wpAny_bind (wpAny_typeOf hTs ?_)
  rw [if_pos (by decide)]
  refine wpAny_bind (sliceApplied_gen hs pl pu ?_)
  have hno : ¬ ((((sIx items.size 0 lo : Nat) : Int) == 0 && (1 : Int) == 1 && (sIx items.size items.size hi - sIx items.size 0 lo) == items.size) = true) := by
    intro q
    rw [Bool.and_eq_true, Bool.and_eq_true] at q
    have q1 : ((sIx items.size 0 lo : Nat) : Int) = 0 := eq_of_beq q.1.1
    have q2 : sIx items.size items.size hi - sIx items.size 0 lo = items.size := eq_of_beq q.2
    exact hw ⟨by omega, by omega⟩
  show wpAny _ _ (if (((sIx items.size 0 lo : Nat) : Int) == 0 && (1 : Int) == 1 && (sIx items.size items.size hi - sIx items.size 0 lo) == items.size) = true then _ else _) _ _ s
  rw [if_neg hno, pick_gen]
  first
    | exact wpAny_bind (m := Builtin.Tuple.tupleExact _) (wpAny_newObj_type (wpAny_pure ⟨_, rfl, wpAny_pure h⟩) htake)
    | exact wpAny_bind (m := Builtin.Tuple.tupleExact _) (wpAny_newObj_type (wpAny_bind (wpAny_pure (wpAny_pure ⟨_, rfl, wpAny_pure h⟩))) htake)
    | exact wpAny_bind (wpAny_bind (m := Builtin.Tuple.tupleExact _) (wpAny_newObj_type (wpAny_pure (wpAny_pure ⟨_, rfl, wpAny_pure h⟩)) htake))
    | exact wpAny_bind (wpAny_bind (m := Builtin.Tuple.tupleExact _) (wpAny_newObj_type (wpAny_pure ⟨_, rfl, wpAny_pure h⟩) htake))
end
end HT
namespace L2
open PySem PySem.Spec PyProof.Rows
abbrev TO := St → Hp → (Option Int → Hp → Prop) → Prop
def PO (X : Cx) (e : Option Expr) (t : TO) : Prop :=
  ∀ (pins : List (Addr × Obj)) (s : Shared) (σ : St) (H : Hp) (Q : Option Int → Hp → Prop), Inv X pins σ H s → t σ H Q →
    wpAny (model X.prog X.w) X.A (evalPart e X.env) (fun u s' => ∃ o H', Inv X pins σ H' s' ∧ IsPart u o ∧ Q o H') X.xe s
def tNoPart : TO := fun _ H Q => Q none H
def tPart (t : TE) : TO := fun σ H Q => t σ H fun x H1 => ∃ i, x = .int i ∧ Q (some i) H1
section
variable {X : Cx} {e : Expr} {te : TE} {lo hi : Option Expr} {tl th : TO} {pos p2 : Pos}
theorem po_none : PO X none tNoPart := by
  intro pins s σ H Q I h
  rw [evalPart_none]
  exact wpAny_pure ⟨none, H, I, .none, h⟩
theorem po_some (h : PE X e te) : PO X (some e) (tPart te) := by
  intro pins s σ H Q I hw
  rw [evalPart_some]
  refine thn (h pins s σ H _ I hw) fun u s1 ⟨x, H1, I1, r1, q1⟩ => ?_
  obtain ⟨i, rfl, q⟩ := q1
  obtain ⟨t, rfl⟩ := r1
  exact ⟨some i, H1, I1, .int i t, q⟩
def SlR (X : Cx) (r : V → Option Int → Option Int → Hp → VK → Prop) : Prop :=
  ∀ (pins : List (Addr × Obj)) (s : Shared) (σ : St) (H : Hp) (x : V) (v vl vu : Value) (lo hi : Option Int) (sl : Addr) (Q : VK), Inv X pins σ H s → RelV x v → s.heap.IsSliceOf sl vl vu .none → IsPart vl lo → IsPart vu hi → r x lo hi H Q →
    ∃ T id, typeLookup (.type T) "__getitem__" = pure (some (.builtin id)) ∧ s.TypeIs v T ∧ wpAny (model X.prog X.w) X.A (getItem v (.ref sl)) (EP X pins σ Q) X.xe s
def tSl (r : V → Option Int → Option Int → Hp → VK → Prop) (te : TE) (tl th : TO) : TE := fun σ H Q => te σ H fun x H1 => tl σ H1 fun l H2 => th σ H2 fun u H3 => r x l u H3 Q
theorem pe_slice {r : V → Option Int → Option Int → Hp → VK → Prop} (hr : SlR X r) (he : PE X e te) (hl : PO X lo tl) (hu : PO X hi th) : PE X (.Subscript e (.Slice lo hi none p2) pos) (tSl r te tl th) := by
  intro pins s σ H Q I h
  refine Subscript_ (thn (he pins s σ H _ I h) fun v s1 ⟨x, H1, I1, r1, q1⟩ => ?_)
  refine wpAny_Slice (thn (hl pins s1 σ H1 _ I1 q1) fun vl s2 ⟨l, H2, I2, pl, q2⟩ => thn (hu pins s2 σ H2 _ I2 q2) fun vu s3 ⟨u, H3, I3, pu, q3⟩ => ?_)
  rw [evalPart_none]
  refine wpAny_pure ?_
  have I4 : Inv X pins σ H3 { s3 with heap := s3.heap.push { cls := .type "slice", data := .fields #[vl, vu, .none] } } := I3.kept (t' := s3.toks) fun b ob q => Heap.get?_push_of_some _ q
  obtain ⟨T, id, hT, ht, hg⟩ := hr pins { s3 with heap := s3.heap.push { cls := .type "slice", data := .fields #[vl, vu, .none] } } σ H3 x v vl vu l u s3.heap.objs.size Q I4 r1 (Heap.IsSliceOf.new ..) pl pu q3
  show wpAny (model X.prog X.w) X.A (subscriptTail e (.Slice lo hi none p2) v (.ref s3.heap.objs.size)) (EP X pins σ Q) X.xe { s3 with heap := s3.heap.push { cls := .type "slice", data := .fields #[vl, vu, .none] } }
  exact tail_any (ops := [.ref s3.heap.objs.size, v]) ht hT hg (by with_unfolding_all rfl)
def cutV (xs : List V) (lo hi : Option Int) : List V := (xs.drop (HT.sIx xs.length 0 lo)).take (HT.sIx xs.length xs.length hi - HT.sIx xs.length 0 lo)
theorem cutV_length (xs : List V) (lo hi : Option Int) : (cutV xs lo hi).length ≤ xs.length := by
  unfold cutV
  rw [List.length_take, List.length_drop]
  omega
def rSlT (K : PySem.W.Frag) : V → Option Int → Option Int → Hp → VK → Prop := fun x lo hi H Q => ∃ a xs, x = .ref a ∧ SqT K H a xs ∧
  ¬ (HT.sIx xs.length 0 lo = 0 ∧ HT.sIx xs.length xs.length hi = xs.length) ∧ ∀ p, H p = none → Q (.ref p) (upd H p (.tup (cutV xs lo hi)))
theorem sl_tup : SlR X (rSlT X.K) := by
  intro pins s σ H x v vl vu lo hi sl Q I rx hs pl pu h
  obtain ⟨a, xs, rfl, hx, hw, q⟩ := h
  cases rx
  obtain ⟨its, r, ht, hz⟩ := I.tuple hx
  have hlen : its.toArray.size = xs.length := by rw [List.size_toArray]; exact r.length.symm
  refine ⟨"tuple", _, PyProof.Rows.slot_tuple_getitem.lookup, ht.typeIs, ?_⟩
  refine HT.getItem_tuple_cut ht hs pl pu (by rw [hlen]; exact hw) ?_ (by rw [hlen]; exact hz)
  rw [hlen]
  refine ⟨.ref s.heap.objs.size, _, I.laid (t' := s.toks) (o := .tup (cutV xs lo hi)) (fun b ob q => Heap.get?_push_of_some _ q) (Nat.le_refl _) ?_, rfl, q _ (I.hok.fresh (Nat.le_refl _))⟩
  exact ⟨Nat.le_trans (cutV_length xs lo hi) hz, _, (r.drop (HT.sIx xs.length 0 lo)).take (HT.sIx xs.length xs.length hi - HT.sIx xs.length 0 lo), IsTup.new _ _⟩
def rCatT (K : PySem.W.Frag) : R2 := fun x y H Q => ∃ a b xs ys, x = .ref a ∧ y = .ref b ∧ SqT K H a xs ∧ SqT K H b ys ∧ xs ≠ [] ∧ xs.length + ys.length ≤ sizeLine ∧
  (ys = [] → Q (.ref a) H) ∧ (ys ≠ [] → ∀ p, H p = none → Q (.ref p) (upd H p (.tup (xs ++ ys))))
theorem Vals.nil_iff {xs : List V} {us : List Value} (r : Vals xs us) : us = [] ↔ xs = [] := by
  cases r with
  | nil => simp
  | cons _ _ => simp
theorem op_catT : OpR X (binaryOp .Add) (rCatT X.K) := by
  intro pins s σ H x y v u Q I rx ry h
  obtain ⟨a, b, xs, ys, rfl, rfl, ha, hb, hx, hz, q1, q2⟩ := h
  cases rx
  cases ry
  obtain ⟨its, r1, p1, _⟩ := I.tuple ha
  obtain ⟨its2, r2, p2, _⟩ := I.tuple hb
  refine HT.cat_tup p1 p2 (fun z => hx (r1.nil_iff.mp z)) (fun z => ⟨.ref a, H, I, rfl, q1 (r2.nil_iff.mp z)⟩) (fun z => ?_) (by rw [← r1.length, ← r2.length]; exact hz)
  refine ⟨.ref s.heap.objs.size, _, I.laid (t' := s.toks) (o := .tup (xs ++ ys)) (fun b ob q => Heap.get?_push_of_some _ q) (Nat.le_refl _) ?_, rfl, q2 (fun w => z (r2.nil_iff.mpr w)) _ (I.hok.fresh (Nat.le_refl _))⟩
  exact ⟨by rw [List.length_append]; exact hz, _, r1.append r2, IsTup.new _ _⟩
end
end L2
namespace L2
open PySem PySem.Spec PyProof.Rows
def ixN (n : Nat) (i : Int) : Option Nat := if 0 ≤ i then (if i < n then some i.toNat else none) else if -(n : Int) ≤ i then some (i + n).toNat else none
def atI {α : Type} (xs : List α) (i : Int) : Option α := (ixN xs.length i).bind fun j => xs[j]?
theorem ixN_seq {n : Nat} {i : Int} {j : Nat} (h : ixN n i = some j) : seqIndex? i n = some j ∧ j < n ∧ -(n : Int) ≤ i ∧ i < n := by
  unfold ixN at h
  by_cases h0 : 0 ≤ i
  · rw [if_pos h0] at h
    by_cases h1 : i < n
    · rw [if_pos h1] at h
      have e : i.toNat = j := Option.some.inj h
      exact ⟨by rw [seqIndex_of h0 h1, e], by omega, by omega, h1⟩
    · rw [if_neg h1] at h; cases h
  · rw [if_neg h0] at h
    by_cases h1 : -(n : Int) ≤ i
    · rw [if_pos h1] at h
      have e : (i + n).toNat = j := Option.some.inj h
      exact ⟨by rw [seqIndex_neg (by omega) h1, e], by omega, h1, by omega⟩
    · rw [if_neg h1] at h; cases h
theorem atI_get {α : Type} {xs : List α} {i : Int} {v : α} (h : atI xs i = some v) : ∃ j, seqIndex? i xs.length = some j ∧ xs[j]? = some v ∧ j < xs.length ∧ -(xs.length : Int) ≤ i ∧ i < xs.length := by
  unfold atI at h
  cases e : ixN xs.length i with
  | none => rw [e] at h; cases h
  | some j =>
    rw [e] at h
    obtain ⟨h1, h2, h3, h4⟩ := ixN_seq e
    exact ⟨j, h1, h, h2, h3, h4⟩
theorem atI_nat {α : Type} {xs : List α} {j : Nat} {v : α} (h : xs[j]? = some v) : atI xs (j : Int) = some v := by
  have hj : j < xs.length := (List.getElem?_eq_some_iff.mp h).1
  have e : ixN xs.length (j : Int) = some j := by
    unfold ixN
    rw [if_pos (by omega), if_pos (by omega)]; simp
  unfold atI; rw [e]; exact h
def PlainIx (b : Expr) : Prop := ∀ o i, subscripted b false o i = operate [o, i] (getItem o i)
def IxR (X : Cx) (r : R2) : Prop :=
  ∀ (value slice : Expr) (pins : List (Addr × Obj)) (s : Shared) (σ : St) (H : Hp) (x y : V) (v u : Value) (Q : VK), Inv X pins σ H s → RelV x v → RelV y u → r x y H Q →
    subscripted slice false v u = operate [v, u] (getItem v u) → wpAny (model X.prog X.w) X.A (subscriptTail value slice v u) (EP X pins σ Q) X.xe s
section
variable {X : Cx} {a b : Expr} {ta tb : TE} {pos : Pos}
theorem pe_ix {r : R2} (hr : IxR X r) (ha : PE X a ta) (hb : PE X b tb) (hs : PlainIx b) : PE X (.Subscript a b pos) (tOp r ta tb) := by
  intro pins s σ H Q I h
  exact Subscript_ (binT ha hb I h fun v u s2 x y H2 I2 rx ry q => hr a b pins s2 σ H2 x y v u Q I2 rx ry q (hs _ _))
def rIxL (K : PySem.W.Frag) : R2 := fun x y H Q => ∃ p xs i v, x = .ref p ∧ y = .int i ∧ SqL K H p xs ∧ atI xs i = some v ∧ Q v H
def rIxT (K : PySem.W.Frag) : R2 := fun x y H Q => ∃ p xs i v, x = .ref p ∧ y = .int i ∧ SqT K H p xs ∧ atI xs i = some v ∧ Q v H
theorem ix_list : IxR X (rIxL X.K) := by
  intro value slice pins s σ H x y v u Q I rx ry h hs
  obtain ⟨p, xs, i, z, rfl, rfl, hq, he, q⟩ := h
  cases rx
  obtain ⟨t, rfl⟩ := ry
  obtain ⟨its, r, pl, hz⟩ := I.list hq
  obtain ⟨j, h1, h2, h3, h4, h5⟩ := atI_get he
  obtain ⟨w, ew, rw'⟩ := r.get h2
  have hl := r.length
  have hn := line63
  have fin : EP X pins σ Q w s := ⟨z, H, I, rw', q⟩
  by_cases h0 : 0 ≤ i
  · have hj : i.toNat = j := by
      rw [seqIndex_of h0 h5] at h1
      exact Option.some.inj h1
    exact item_listR pl.isList h0 (by omega) (by rw [hj]; simpa using ew) fin hs
  · have hj : (i + (its.toArray.size : Int)).toNat = j := by
      rw [seqIndex_neg (by omega) h4] at h1
      rw [List.size_toArray, ← hl]
      exact Option.some.inj h1
    exact subscriptTail_builtinR (x := w) pl.isList.typeIs slot_list_getitem.lookup
      (wpAny_getItem_list_neg (Q := fun r s' => r = w ∧ EP X pins σ Q r s') pl.isList (by omega) (by rw [List.size_toArray] <;> omega) (by omega) (by rw [hj]; simpa using ew) ⟨rfl, fin⟩) hs
theorem ix_tup : IxR X (rIxT X.K) := by
  intro value slice pins s σ H x y v u Q I rx ry h hs
  obtain ⟨p, xs, i, z, rfl, rfl, hq, he, q⟩ := h
  cases rx
  obtain ⟨t, rfl⟩ := ry
  obtain ⟨its, r, pl, hz⟩ := I.tuple hq
  obtain ⟨j, h1, h2, h3, h4, h5⟩ := atI_get he
  obtain ⟨w, ew, rw'⟩ := r.get h2
  have hl := r.length
  have hn := line63
  have fin : EP X pins σ Q w s := ⟨z, H, I, rw', q⟩
  exact subscriptTail_builtinR (x := w) pl.typeIs slot_tuple_getitem.lookup
    (getItem_tuple (j := j) (Q := fun r s' => r = w ∧ EP X pins σ Q r s') pl (by omega) (by omega) (by rw [List.size_toArray, ← hl]; exact h1) (by simpa using ew) ⟨rfl, fin⟩) hs
theorem mapSeq_set (its : List Value) (n j : Nat) (u : Value) : Obj.mapSeq (·.setIfInBounds j u) { cls := .type "list", data := .seq its.toArray n } = { cls := .type "list", data := .seq (its.set j u).toArray n } := by
  simp [Obj.mapSeq]
theorem Inv.lst {pins : List (Addr × Obj)} {σ : St} {H : Hp} {s : Shared} {p : Addr} {xs : List V} (I : Inv X pins σ H s) (h : H p = some (.lst xs)) :
    ∃ (its : List Value) (n : Nat), Vals xs its ∧ s.heap.get? p = some { cls := .type "list", data := .seq its.toArray n } ∧ xs.length ≤ sizeLine := by
  obtain ⟨z, its, n, r, e⟩ := I.hok p _ h
  exact ⟨its, n, r, e, z⟩
theorem Inv.lstUpd {pins : List (Addr × Obj)} {σ : St} {H : Hp} {s : Shared} {p : Addr} {xs ys : List V} {its its' : List Value} {n n' : Nat} {f : Obj → Obj} (I : Inv X pins σ H s) (h : H p = some (.lst xs))
    (ho : s.heap.get? p = some { cls := .type "list", data := .seq its.toArray n }) (hf : f { cls := .type "list", data := .seq its.toArray n } = { cls := .type "list", data := .seq its'.toArray n' }) (r : Vals ys its') (hz : ys.length ≤ sizeLine) (t : Nat) :
    Inv X pins σ (upd H p (.lst ys)) { s with heap := s.heap.update p f, toks := t } := by
  have e : (s.heap.update p f).get? p = some { cls := .type "list", data := .seq its'.toArray n' } := by
    rw [Heap.get?_update_self f ho (by rw [hf] <;> rfl), hf]
  refine I.write (x := p) (e := p) (by rw [h]; trivial) (.inl rfl) (fun b u hb q => (Heap.get?_update_other _ _ (Ne.symm hb)).trans q) ⟨_, e⟩ ?_
  exact ⟨hz, its', n', r, e⟩
def rSetL : V → V → V → Hp → (Hp → Prop) → Prop := fun o i v H Q => ∃ p xs k j, o = .ref p ∧ i = .int k ∧ H p = some (.lst xs) ∧ ixN xs.length k = some j ∧ Q (upd H p (.lst (xs.set j v)))
theorem set_list : PSet X rSetL := by
  intro pins s σ H o i v ov iv u Q I ro ri rv h
  obtain ⟨p, xs, k, j, rfl, rfl, hp, hj, q⟩ := h
  cases ro
  obtain ⟨t, rfl⟩ := ri
  obtain ⟨its, n, r, ho, hz⟩ := I.lst hp
  obtain ⟨h1, h2, h3, h4⟩ := ixN_seq hj
  have hl := r.length
  have hn := line63
  have I' : Inv X pins σ (upd H p (.lst (xs.set j v))) { s with heap := s.heap.update p (Obj.mapSeq (·.setIfInBounds j u)) } :=
    I.lstUpd hp ho (mapSeq_set its n j u) (r.set rv j) (by rw [List.length_set]; exact hz) s.toks
  by_cases h0 : 0 ≤ k
  · have hk : k.toNat = j := by
      rw [seqIndex_of h0 h4] at h1
      exact Option.some.inj h1
    exact PySem.W.ki_setAt ho h0 (by omega) (by rw [List.size_toArray, ← hl]; exact h4) (by rw [hk]; exact ⟨_, I', q⟩)
  · have hk : (k + (its.toArray.size : Int)).toNat = j := by
      rw [seqIndex_neg (by omega) h3] at h1
      rw [List.size_toArray, ← hl]
      exact Option.some.inj h1
    exact PySem.W.ki_setBack ho (by omega) (by rw [List.size_toArray, ← hl]; exact h3) (by omega) (by rw [hk]; exact ⟨_, I', q⟩)
theorem slice_bounds (lo hi : Option Int) (n : Nat) : (sliceBounds lo hi none n).1 = ((HT.sIx n 0 lo : Nat) : Int) ∧ (sliceBounds lo hi none n).2.1 = ((HT.sIx n n hi : Nat) : Int) ∧ (sliceBounds lo hi none n).2.2 = 1 := by
  refine ⟨?_, ?_, rfl⟩
  · cases lo with
    | none => simp [sliceBounds, HT.sIx]
    | some i =>
      simp only [sliceBounds, HT.sIx, Option.getD_none, show (1 : Int) > 0 by decide, if_true]
      by_cases h : i < 0
      · simp only [h, if_true] <;> omega
      · simp only [h, if_false] <;> omega
  · cases hi with
    | none => simp [sliceBounds, HT.sIx]
    | some i =>
      simp only [sliceBounds, HT.sIx, Option.getD_none, show (1 : Int) > 0 by decide, if_true]
      by_cases h : i < 0
      · simp only [h, if_true] <;> omega
      · simp only [h, if_false] <;> omega
theorem slicePick_cut (its : List Value) (lo hi : Option Int) : slicePick its.toArray lo hi none = ((its.drop (HT.sIx its.length 0 lo)).take (HT.sIx its.length its.length hi - HT.sIx its.length 0 lo)).toArray := by
  obtain ⟨h1, h2, h3⟩ := slice_bounds lo hi its.toArray.size
  unfold slicePick
  rw [h1, h2, h3]
  simp only [sliceRange_one, pick_run, List.size_toArray] <;> rfl
def rSlL (K : PySem.W.Frag) : V → Option Int → Option Int → Hp → VK → Prop := fun x lo hi H Q => ∃ a xs, x = .ref a ∧ SqL K H a xs ∧ ∀ p, H p = none → Q (.ref p) (upd H p (.lst (cutV xs lo hi)))
theorem sl_list : SlR X (rSlL X.K) := by
  intro pins s σ H x v vl vu lo hi sl Q I rx hs pl pu h
  obtain ⟨a, xs, rfl, hx, q⟩ := h
  cases rx
  obtain ⟨its, r, ht, hz⟩ := I.list hx
  have hlen := r.length
  refine ⟨"list", _, slot_list_getitem.lookup, ht.isList.typeIs, ?_⟩
  refine wpAny_getItem_list_slice ht.isList hs pl pu .none (by simp) ?_ (by rw [List.size_toArray] <;> omega)
  rw [slicePick_cut, ← hlen]
  refine ⟨.ref s.heap.objs.size, _, I.laid (t' := s.toks) (o := .lst (cutV xs lo hi)) (fun b ob q => Heap.get?_push_of_some _ q) (Nat.le_refl _) ?_, rfl, q _ (I.hok.fresh (Nat.le_refl _))⟩
  exact ⟨Nat.le_trans (cutV_length xs lo hi) hz, _, 0, (r.drop (HT.sIx xs.length 0 lo)).take (HT.sIx xs.length xs.length hi - HT.sIx xs.length 0 lo), Heap.get?_push_size _ rfl⟩
def flatV : V → Bool
  | .non => true
  | .bl _ => true
  | .int _ => true
  | .str _ => true
  | _ => false
def eqV : V → V → Bool
  | .non, .non => true
  | .bl a, .bl b => a == b
  | .bl a, .int b => (if a then 1 else 0) == b
  | .int a, .bl b => a == (if b then 1 else 0)
  | .int a, .int b => a == b
  | .str a, .str b => a == b
  | _, _ => false
theorem eqAt_V {A : Around} {s : Shared} {y x : V} {u v : Value} (ry : RelV y u) (rx : RelV x v) (fy : flatV y = true) (fx : flatV x = true) : SeqAt.EqAt A s u v (eqV y x) := by
  cases y with
  | non =>
    cases ry
    cases x with
    | non => cases rx; exact SeqAt.EqAt.same _
    | bl b => cases rx; exact SeqAt.EqAt.none_bool b
    | int b => obtain ⟨t, rfl⟩ := rx; exact SeqAt.EqAt.none_int b t
    | str b => obtain ⟨t, rfl⟩ := rx; exact SeqAt.EqAt.none_str b t
    | _ => exact absurd (show false = true from fx) Bool.false_ne_true
  | bl a =>
    cases ry
    cases x with
    | non => cases rx; exact SeqAt.EqAt.bool_none a
    | bl b => cases rx; exact SeqAt.EqAt.bool_bool a b
    | int b => obtain ⟨t, rfl⟩ := rx; exact SeqAt.EqAt.bool_int a b t
    | str b => obtain ⟨t, rfl⟩ := rx; exact SeqAt.EqAt.bool_str a b t
    | _ => exact absurd (show false = true from fx) Bool.false_ne_true
  | int a =>
    obtain ⟨t', rfl⟩ := ry
    cases x with
    | non => cases rx; exact SeqAt.EqAt.int_none a t'
    | bl b => cases rx; exact SeqAt.EqAt.int_bool a t' b
    | int b => obtain ⟨t, rfl⟩ := rx; exact SeqAt.EqAt.int_int a t' b t
    | str b => obtain ⟨t, rfl⟩ := rx; exact SeqAt.EqAt.int_str a t' b t
    | _ => exact absurd (show false = true from fx) Bool.false_ne_true
  | str a =>
    obtain ⟨t', rfl⟩ := ry
    cases x with
    | non => cases rx; exact SeqAt.EqAt.str_none a t'
    | bl b => cases rx; exact SeqAt.EqAt.str_bool a t' b
    | int b => obtain ⟨t, rfl⟩ := rx; exact SeqAt.EqAt.str_int a t' b t
    | str b => obtain ⟨t, rfl⟩ := rx; exact SeqAt.EqAt.str_str a t' b t
    | _ => exact absurd (show false = true from fx) Bool.false_ne_true
  | _ => exact absurd (show false = true from fy) Bool.false_ne_true
def inV (x : V) (xs : List V) : Bool := xs.any fun y => eqV y x
theorem call_len_seq : CallR X (.builtin "len") (fun xs H Q => ∃ p ys, xs = [.ref p] ∧ (SqL X.K H p ys ∨ SqT X.K H p ys) ∧ Q (.int ys.length) H) := by
  intro pins s σ H xs us Q I r h
  obtain ⟨p, ys, rfl, hq, q⟩ := h
  obtain ⟨u, rfl, rx⟩ := vals1 r
  cases rx
  have hn := line63
  rcases hq with hq | hq
  · obtain ⟨its, r', pl, hz⟩ := I.list hq
    have hlen := r'.length
    exact Calls.call_len_list pl.isList (by simp only [List.size_toArray] <;> omega) ⟨.int ys.length, H, I.tok _, ⟨s.toks + 1, by rw [List.size_toArray, hlen]⟩, q⟩
  · obtain ⟨its, r', pl, hz⟩ := I.tuple hq
    have hlen := r'.length
    exact len_tuple pl (by simp only [List.size_toArray] <;> omega) ⟨.int ys.length, H, I.tok _, ⟨s.toks + 1, by rw [List.size_toArray, hlen]⟩, q⟩
theorem call_tuple_of : CallR X (.type "tuple") (fun xs H Q => ∃ p ys, xs = [.ref p] ∧ ((SqL X.K H p ys ∧ ∀ l, H l = none → Q (.ref l) (upd H l (.tup ys))) ∨ (SqT X.K H p ys ∧ Q (.ref p) H))) := by
  intro pins s σ H xs us Q I r h
  obtain ⟨p, ys, rfl, h⟩ := h
  obtain ⟨u, rfl, rx⟩ := vals1 r
  cases rx
  rcases h with ⟨hq, q⟩ | ⟨hq, q⟩
  · obtain ⟨its, r', pl, hz⟩ := I.list hq
    have hlen := r'.length
    refine call_tuple_list pl.isList (fun h' kp => ?_) (by simp only [List.size_toArray] <;> omega)
    have I1 : Inv X pins σ H { s with heap := h' } := I.kept (t' := s.toks) kp
    have I2 : Inv X pins σ (upd H h'.objs.size (.tup ys)) { s with heap := h'.push { cls := .type "tuple", data := .seq its.toArray } } :=
      I1.laid (t' := s.toks) (fun b o e => Heap.get?_push_of_some _ e) (Nat.le_refl _) (show ObjOk X.prog X.w _ _ _ (.tup ys) from ⟨hz, its, r', IsTup.new _ _⟩)
    exact ⟨.ref h'.objs.size, _, I2, rfl, q _ (I1.hok.fresh (Nat.le_refl _))⟩
  · obtain ⟨its, r', pl, hz⟩ := I.tuple hq
    exact call_tuple_same pl ⟨.ref p, H, I, rfl, q⟩
def tyV (K : PySem.W.Frag) (T : String) (x : V) (H : Hp) : Prop := match x with
  | .str _ => T = "str"
  | .int _ => T = "int"
  | .ref p => (T = "list" ∧ ∃ xs, SqL K H p xs) ∨ (T = "tuple" ∧ ∃ o, K.lookup p = some o ∧ o.cls = .type "tuple" ∧ o.dict = none) ∨
      (T = "dict" ∧ ((∃ kvs, H p = some (.dK kvs)) ∨ ∃ kvs, H p = some (.dT kvs))) ∨ (T = "set" ∧ ∃ S n, H p = some (.set S n))
  | _ => False
theorem tyV_is {pins : List (Addr × Obj)} {σ : St} {H : Hp} {s : Shared} {T : String} {x : V} {v : Value} (I : Inv X pins σ H s) (r : RelV x v) (ty : tyV X.K T x H) :
    s.TypeIs v T ∧ ∀ a, v = .ref a → ∃ ob, s.heap.get? a = some ob ∧ ob.dict = none := by
  cases x with
  | str z =>
    obtain ⟨t, rfl⟩ := r
    cases (show T = "str" from ty)
    exact ⟨typeIs_str s z t, fun _ e => nomatch e⟩
  | int i =>
    obtain ⟨t, rfl⟩ := r
    cases (show T = "int" from ty)
    exact ⟨typeIs_int s i t, fun _ e => nomatch e⟩
  | ref p =>
    cases r
    rcases ty with ⟨rfl, xs, hq⟩ | ⟨rfl, o, hk, hc, hd⟩ | ⟨rfl, hk⟩ | ⟨rfl, S, n, hk⟩
    · obtain ⟨its, _, pl, _⟩ := I.list hq
      refine ⟨pl.isList.typeIs, fun a e => ?_⟩
      cases e
      obtain ⟨o, n, e, c, hd, _⟩ := pl
      exact ⟨o, e, hd⟩
    · refine ⟨⟨o, I.kIn p o hk, hc⟩, fun a e => ?_⟩
      cases e
      exact ⟨o, I.kIn _ o hk, hd⟩
    · have z : ∃ o, s.heap.get? p = some o ∧ o.ExactDict := by
        rcases hk with ⟨kvs, hk⟩ | ⟨kvs, hk⟩
        · obtain ⟨_, _, _, _, o, _, _, e, ex, _⟩ := I.hok p _ hk
          exact ⟨o, e, ex⟩
        · obtain ⟨_, _, _, _, o, _, _, e, ex, _⟩ := I.hok p _ hk
          exact ⟨o, e, ex⟩
      obtain ⟨o, e, ex⟩ := z
      refine ⟨⟨o, e, ex.1⟩, fun a e2 => ?_⟩
      cases e2
      exact ⟨o, e, ex.2.1⟩
    · obtain ⟨o, _, _, _, e, ex, _⟩ := I.hok p _ hk
      refine ⟨⟨o, e, ex.1⟩, fun a e2 => ?_⟩
      cases e2
      exact ⟨o, e, ex.2.1⟩
  | _ => exact False.elim ty
variable {o e : Expr} {es : List Expr} {to : TE} {t : TA} {name : Str} {apos cpos : Pos} {T id : String} {r : V → List V → Hp → VK → Prop}
end
end L2
namespace L2
open PySem PySem.Spec PyProof.Rows
def MtM (X : Cx) (id : String) (r : V → List V → Hp → VK → Prop) : Prop :=
  ∀ (pins : List (Addr × Obj)) (s : Shared) (σ : St) (H : Hp) (x : V) (xs : List V) (v : Value) (us : List Value) (Q : VK), Inv X pins σ H s → RelV x v → Vals xs us → r x xs H Q →
    wpAny (model X.prog X.w) X.A (call (.builtin id) (v :: us)) (EP X pins σ Q) X.xe s
theorem Vals.one : ∀ {x : V} {us : List Value}, Vals [x] us → ∃ u, us = [u] ∧ RelV x u := fun h => by
  cases h with
  | cons r h =>
    cases h
    exact ⟨_, rfl, r⟩
theorem Vals.two : ∀ {x y : V} {us : List Value}, Vals [x, y] us → ∃ u v, us = [u, v] ∧ RelV x u ∧ RelV y v := fun h => by
  cases h with
  | cons r h =>
    cases h with
    | cons q h =>
      cases h
      exact ⟨_, _, rfl, r, q⟩
theorem Vals.zero : ∀ {us : List Value}, Vals [] us → us = []
  | _, .nil => rfl
theorem Vals.rep {xs : List V} {us : List Value} (h : Vals xs us) : ∀ k : Nat, Vals (List.replicate k xs).flatten (List.replicate k us).flatten
  | 0 => .nil
  | k + 1 => by
    rw [List.replicate_succ, List.replicate_succ, List.flatten_cons, List.flatten_cons]
    exact Vals.append h (Vals.rep h k)
theorem foldl_rep (its : List Value) : ∀ (k : Nat) (acc : List Value),
    List.foldl (fun x1 x2 => x1 ++ x2) acc.toArray (List.replicate k its.toArray) = (acc ++ (List.replicate k its).flatten).toArray
  | 0, acc => by simp
  | k + 1, acc => by
    have e : acc.toArray ++ its.toArray = (acc ++ its).toArray := by simp
    have e2 : (acc ++ its) ++ (List.replicate k its).flatten = acc ++ (List.replicate (k + 1) its).flatten := by
      rw [List.replicate_succ, List.flatten_cons, List.append_assoc]
    rw [← e2, ← foldl_rep its k (acc ++ its), ← e, List.replicate_succ, List.foldl_cons]
section
variable {X : Cx} {pins : List (Addr × Obj)} {σ : St} {H : Hp} {s : Shared} {l b : Addr} {xs ys zs : List V}
theorem Inv.lset {its its' : List Value} {n : Nat} {f : Array Value → Array Value} {t' : Nat} (I : Inv X pins σ H s) (hH : H l = some (.lst xs))
    (e : s.heap.get? l = some { cls := .type "list", data := .seq its.toArray n }) (hf : f its.toArray = its'.toArray) (hv : Vals ys its') (hz : ys.length ≤ sizeLine) :
    Inv X pins σ (upd H l (.lst ys)) { s with heap := s.heap.update l (Obj.mapSeq f), toks := t' } := by
  have q := PySem.IsL.update e f
  rw [hf] at q
  refine I.write (x := l) (e := l) (by rw [hH]; exact trivial) (.inl rfl) (fun b' u hb hu => (Heap.get?_update_other s.heap (Obj.mapSeq f) (Ne.symm hb)).trans hu) ⟨_, q⟩ ?_
  exact ⟨hz, its', _, hv, q⟩
theorem Inv.lnew {its : List Value} {t' : Nat} (I : Inv X pins σ H s) (hv : Vals ys its) (hz : ys.length ≤ sizeLine) :
    Inv X pins σ (upd H s.heap.objs.size (.lst ys)) { s with heap := s.heap.push { cls := .type "list", data := .seq its.toArray }, toks := t' } :=
  I.laid (fun _ _ q => Heap.get?_push_of_some _ q) (Nat.le_refl _) ⟨hz, its, 0, hv, Heap.get?_push_size _ rfl⟩
theorem Inv.fresh (I : Inv X pins σ H s) : H s.heap.objs.size = none := I.hok.fresh (Nat.le_refl _)
theorem Inv.lstM (I : Inv X pins σ H s) (hH : H l = some (.lst xs)) : xs.length ≤ sizeLine ∧ ∃ (its : List Value) (n : Nat), Vals xs its ∧ xs.length = its.length ∧ s.heap.get? l = some { cls := .type "list", data := .seq its.toArray n } := by
  obtain ⟨z, its, n, r, e⟩ := I.hok l _ hH
  exact ⟨z, its, n, r, r.length, e⟩
theorem notLongL {n : Nat} (h : n ≤ sizeLine) : Builtin.List.listTooLong n = false := by
  unfold Builtin.List.listTooLong
  exact decide_eq_false (by omega)
end
section
variable {X : Cx}
def rAppend : V → List V → Hp → VK → Prop := fun x vs H Q => ∃ l xs y, x = .ref l ∧ vs = [y] ∧ H l = some (.lst xs) ∧ xs.length < sizeLine ∧ Q .non (upd H l (.lst (xs ++ [y])))
theorem mt_append : MtM X "list.append" rAppend := by
  intro pins s σ H x vs v us Q I rx rv h
  obtain ⟨l, xs, y, rfl, rfl, hH, hz, q⟩ := h
  cases rx
  obtain ⟨u, rfl, ru⟩ := rv.one
  obtain ⟨z, its, n, r, hl, e⟩ := I.lstM hH
  refine call_meets F.slot_list_append ⟨_, e, rfl⟩ F.entry_list_append (F.args_list_append_2 _ _) (PySem.list_append l its.toArray n u (by rw [List.size_toArray]; omega)) ⟨e, ?_⟩
  refine ⟨.non, _, I.lset (its' := its ++ [u]) hH e (by simp) (r.append (.cons ru .nil)) ?_, rfl, q⟩
  rw [List.length_append, List.length_singleton]
  omega
def rCat : R2 := fun x y H Q => ∃ l b xs zs, x = .ref l ∧ y = .ref b ∧ H l = some (.lst xs) ∧ H b = some (.lst zs) ∧ xs.length + zs.length ≤ sizeLine ∧ ∀ p, H p = none → Q (.ref p) (upd H p (.lst (xs ++ zs)))
theorem op_cat : OpR X (binaryOp .Add) rCat := by
  intro pins s σ H x y v u Q I rx ry h
  obtain ⟨l, b, xs, zs, rfl, rfl, hH, hB, hz, q⟩ := h
  cases rx
  cases ry
  obtain ⟨z, its, n, r, hl, e⟩ := I.lstM hH
  obtain ⟨z2, its2, n2, r2, hl2, e2⟩ := I.lstM hB
  refine PySem.P.add_list e e2 ?_ (by rw [List.size_toArray, List.size_toArray]; omega)
  have ea : its.toArray ++ its2.toArray = (its ++ its2).toArray := by simp
  rw [ea]
  exact ⟨.ref _, _, I.lnew (t' := s.toks) (r.append r2) (by rw [List.length_append]; omega), rfl, q _ I.fresh⟩
def rRep : R2 := fun x y H Q => ∃ l k xs, x = .ref l ∧ y = .int k ∧ H l = some (.lst xs) ∧ -(2 ^ 63) ≤ k ∧ k < 2 ^ 63 ∧ xs.length * k.toNat ≤ sizeLine ∧
  ∀ p, H p = none → Q (.ref p) (upd H p (.lst (List.replicate k.toNat xs).flatten))
theorem len_rep {α : Type} (xs : List α) (k : Nat) : (List.replicate k xs).flatten.length = k * xs.length := by
  induction k with
  | zero => simp
  | succ k ih => rw [List.replicate_succ, List.flatten_cons, List.length_append, ih, Nat.succ_mul, Nat.add_comm]
theorem op_rep : OpR X (binaryOp .Mult) rRep := by
  intro pins s σ H x y v u Q I rx ry h
  obtain ⟨l, k, xs, rfl, rfl, hH, h1, h2, hz, q⟩ := h
  cases rx
  obtain ⟨t, rfl⟩ := ry
  obtain ⟨z, its, n, r, hl, e⟩ := I.lstM hH
  have hlen : its.toArray.size * k.toNat ≤ sizeLine := by rw [List.size_toArray, ← hl]; exact hz
  have hcap : ¬ its.toArray.size * k.toNat > (2 ^ 63 - 1) / 8 := by
    have : (sizeLine : Nat) ≤ (2 ^ 63 - 1) / 8 := by decide
    omega
  have hfit : ¬ (!Builtin.List.listFitsIndex k) = true := by
    rw [fitsIndex_both h1 h2]
    exact Bool.false_ne_true
  have hlong : ¬ Builtin.List.listTooLong (its.toArray.size * k.toNat) = true := by
    rw [notLongL hlen]
    exact Bool.false_ne_true
  have hnew : List.foldl (fun x1 x2 => x1 ++ x2) #[] (List.replicate (if its.toArray.isEmpty = true then 0 else k.toNat) its.toArray) = (List.replicate k.toNat its).flatten.toArray := by
    have f0 : ∀ m : Nat, List.foldl (fun x1 x2 => x1 ++ x2) #[] (List.replicate m its.toArray) = (List.replicate m its).flatten.toArray := fun m => by
      have := foldl_rep its m []
      rw [List.nil_append] at this
      exact this
    rw [f0]
    cases its with
    | nil => simp
    | cons a r' => rw [if_neg (by simp)]
  refine wpAny_binaryOp_repeat_ref (T := "list") (U := "int") (by decide) ⟨_, e, rfl⟩ (fun s' => typeIs_int s' k t) noFill_list_mul F.fills_int_mul F.slot_int_rmul repeat_list F.slot_int_index.lookup
    (call_meets F.slot_int_rmul (typeIs_int s k t) F.entry_int_rmul (F.args_int_rmul_2 _ _) (int___rmul___int_list k t l its.toArray n)
      ⟨e, rfl, ⟨_, e, rfl⟩, call_meets F.slot_list_mul ⟨_, e, rfl⟩ F.entry_list_mul (F.args_list_mul_2 _ _) (AutoListH.list___mul___list_int_3 l its.toArray n k t hfit hcap hlong) ⟨e, ?_⟩⟩)
  rw [hnew]
  exact ⟨.ref _, _, I.lnew (t' := s.toks) (r.rep k.toNat) (by rw [len_rep, Nat.mul_comm]; exact hz), rfl, q _ I.fresh⟩
end
section
variable {prog : Program} {w : World} {A : Around} {E : Value → Shared → Prop} {s : Shared}
end
section
variable {X : Cx}
end
end L2
namespace Att
open PySem PySem.W PySem.Calls PyProof.Rows
theorem ints_of_wellAll {P : Params} {h : Heap} : ∀ (ns : List Int) (vs : List Value), WellAll P h vs (ns.map WData.int) → IntsAre vs ns := by
  intro ns
  induction ns with
  | nil =>
    intro vs w
    rw [List.map_nil] at w
    cases w
    exact .nil
  | cons n ns ih =>
    intro vs w
    rw [List.map_cons] at w
    cases w with
    | cons a b =>
      cases a
      exact .cons _ _ (ih _ b)
theorem script_of {l : OpenLaw} {n : Nat} (hn : l.most = some n) {P : Params} {h : Heap} {args : List WData} {vals : List Value}
    (hpre : l.row.toRowW.claim.pre args = true) (hwl : WellAll P h vals args) :
    ∃ a vs ns, vals = [Value.ref a] ∧ args = [WData.list (ns.map WData.int)] ∧ h.get? a = some { cls := .type "list", data := .seq vs.toArray } ∧ IntsAre vs ns ∧ ns.length ≤ n := by
  have hsh : WShape.hasAll [] args [.list .int] = true := (pre_splitW hpre).1
  have hc : l.pre.holds [] { args := args } = true := (pre_splitW hpre).2
  obtain ⟨d, r, rfl, h1, h2⟩ := hasAllW_cons hsh
  obtain rfl := hasAllW_nil h2
  obtain ⟨xs, rfl, h3⟩ := hasW_list h1
  obtain ⟨ns, rfl⟩ := items_int h3
  have hlen : ns.length ≤ n := by
    unfold OpenLaw.pre at hc
    have h4 : (WTm.not (.lt (.lit (.int (n : Int))) (.len (.arg 0)))).holds [] { args := [.list (ns.map .int)] } = true := by
      have h4 := (holds_andW hc).1
      rw [hn] at h4
      exact h4
    have h5 := condW_of h4 (w_not (w_lt w_lit (w_len_list (w_arg rfl))))
    rw [List.length_map] at h5
    refine Nat.le_of_not_lt fun q => ?_
    have q' : (n : Int) < ((ns.length : Nat) : Int) := by omega
    first
      | (rw [decide_eq_true q'] at h5; exact absurd h5 (by decide))
      | (simp at h5; omega)
  cases hwl with
  | cons w1 w2 =>
    cases w2
    cases w1 with
    | list ho hall => exact ⟨_, _, ns, rfl, rfl, ho, ints_of_wellAll ns _ hall, hlen⟩
theorem post_true (l : OpenLaw) (args : List WData) : l.row.toRowW.claim.post args (.bool true) args = true :=
  postW_of (r := l.row.toRowW) (X := (true == true))
    (show WShape.has [] (.bool true) .bool = true by first | rfl | decide | simp [WShape.has, WShape.arms, WShape.armsAll])
    (show (WTm.eq .res (.lit (.bool true))).value [] { args := args, res := some (.bool true), after := args } = some (.bool (true == true)) from w_eq_bool (w_res rfl) w_lit) rfl
theorem attach_call {l : OpenLaw} {n : Nat} {q : Program} {loose : List Str} {XP : (Str → Option Value) → Heap → Prop} {YP : World → Heap → Prop} {d : DefRec}
    (hn : l.most = some n) (hdf : d.params.defaults = [])
    (call : ∀ (w : World) (s₀ s₁ : Shared) (mg mb : Str → Option Value) (fa : Addr) (o : Obj) (pm cd doc : Value) (a : Addr) (vs : List Value) (ns : List Int),
      Ground q loose [] XP w s₀ mg mb s₁.heap → YP w s₁.heap →
      s₁.heap.get? fa = some o → o.data = .func (docDef d.name d.params d.body d.scope pm cd doc) → s₁.heap.CodeRec cd d.name → mg d.name = some (.ref fa) →
      s₁.heap.get? a = some { cls := .type "list", data := .seq vs.toArray } → IntsAre vs ns → ns.length ≤ n → s₁.gens = #[] →
      codeAny (model l.prog w) callerA (.call (.ref fa) ⟨[.ref a], []⟩) (fun r s' => r = .ok (.ret (.bool true)) ∧ OldK s₁.heap s'.heap ∧ s'.os = s₁.os ∧ AllBare s'.gens) s₁) :
    WalkO q loose XP YP l.row.toRowW d [] (fun f vs => PySem.call f vs) := by
  intro w s₀ s₁ mg mb G Y fa o pm cd doc dV kV ho hd hcd hD hmg hg args vals as hpre hlay hrd hwl hlo
  obtain rfl : dV = .none := Dflts.none hD hdf
  obtain rfl : kV = .none := Dflts.noKw hD
  obtain ⟨a, vs, ns, rfl, rfl, hobj, hints, hlen⟩ := script_of hn hpre hwl
  refine enter_call (codeAny_mono (call w s₀ s₁ mg mb fa o pm cd doc a vs ns G Y ho (fd_plain hd) hcd hmg hobj hints hlen hg) fun r s' hq => ?_)
  obtain ⟨rfl, h2, h3, h4⟩ := hq
  exact ⟨.inl ⟨.bool true, .bool true, [], rfl, fun _ => rfl, .bool true, post_true l _, fun _ => ⟨List.Pairwise.nil, fun _ hm => (nomatch hm)⟩⟩, h2, h3, h4⟩
section
variable {prog : Program} {w : World} {A : Around} {E : Value → Shared → Prop} {s : Shared} {K : Frag}
end
end Att
namespace L2
open PySem PySem.Spec PyProof.Rows
theorem vals_ints : ∀ {vs : List Value} {ns : List Int}, IntsAre vs ns → Vals (ns.map V.int) vs
  | _, _, .nil => .nil
  | _, _, .cons n t h => .cons ⟨t, rfl⟩ (vals_ints h)
def Only (H : Hp) : Prop := ∀ b, H b = none ∨ ∃ o xs, H b = some (.frz o (.lst xs))
theorem law_call {P : Program} {w : World} {K : PySem.W.Frag} {mg mb : Str → Option Value} {CX : CXT} {k : Nat} {fa a : Addr} {fd : FuncData} {x : Str} {sp : Sp} {s₁ : Shared} {vs : List Value} {ns : List Int}
    (KX : K.In s₁.heap) (hns : s₁.heap.Ns mainGlobals mg) (hb : s₁.heap.Ns builtinsNs mb) (hbb : ∀ x : Str, x ≠ "__name__" → mb x = bootBuiltins x) (hlim : s₁.heap.NoLimit) (hg : s₁.gens = #[])
    (ha : s₁.heap.get? a = some { cls := .type "list", data := .seq vs.toArray }) (hi : IntsAre vs ns) (hl : ns.length ≤ sizeLine) (hr : Room k callerA)
    (F : ∀ base : Heap, K.In base → base.Ns mainGlobals mg → FnOk P w K mg base CX k fa fd [x] sp) (hbind : ∀ (s : Shared) (u : Value), BindsTo s fd ⟨[u], []⟩ [(x, u)])
    (hsp : ∀ H : Hp, Only H → SqL K H a (ns.map V.int) → sp [.ref a] H (fun v _ => v = .bl true) fun _ _ _ => False)
    (hCX : ∀ H e s', CX [] H s₁ (fun _ _ _ => False) e s' → False) :
    codeAny (model P w) callerA (.call (.ref fa) ⟨[.ref a], []⟩) (fun r s' => r = .ok (.ret (.bool true)) ∧ OldK s₁.heap s'.heap ∧ s'.os = s₁.os ∧ AllBare s'.gens) s₁ := by
  have rv := vals_ints hi
  have lenV := hi.length
  -- from an abstract heap in which nothing but the script may be tracked
  have core : ∀ H : Hp, Only H → SqL K H a (ns.map V.int) → HOk P w H s₁.heap → (∀ b, H b ≠ none → b = a) → (H a ≠ none → K.lookup a = none) →
      codeAny (model P w) callerA (.call (.ref fa) ⟨[.ref a], []⟩) (fun r s' => r = .ok (.ret (.bool true)) ∧ OldK s₁.heap s'.heap ∧ s'.os = s₁.os ∧ AllBare s'.gens) s₁ := by
    intro H hO hS hok hA hK
    have base_of : ∀ {b : Addr} {o : Obj}, s₁.heap.get? b = some o → H b = none → (hidT s₁.heap H).get? b = some o := fun e n => hidT_get e n
    have noA : ∀ {b : Addr} {o : Obj} {es : Array DictEntry} {ep : Nat}, s₁.heap.get? b = some o → o.data = .dict es ep → H b = none := fun {b o es ep} e d => by
      cases q : H b with
      | none => rfl
      | some u =>
        have e' : b = a := hA b (by rw [q]; simp)
        subst e'
        rw [ha] at e; cases e
        have d' : Data.seq vs.toArray _ = Data.dict es ep := d
        cases d'
    have nsK : ∀ {b : Addr} {m : Str → Option Value}, s₁.heap.Ns b m → (hidT s₁.heap H).Ns b m := fun {b m} ⟨o, es, ep, e, d, r⟩ => ⟨o, es, ep, base_of e (noA e d), d, r⟩
    have hKb : K.In (hidT s₁.heap H) := fun b o e => base_of (KX b o e) (by
      cases q : H b with
      | none => rfl
      | some u =>
        have e' : b = a := hA b (by rw [q]; simp)
        subst e'
        rw [hK (by rw [q]; simp)] at e; cases e)
    have hM : Mod K mg (hidT s₁.heap H) := ⟨hKb, nsK hns, ⟨mb, nsK hb, hbb⟩, let ⟨mc, h1, h2⟩ := hlim; ⟨mc, nsK h1, h2⟩⟩
    have e0 : Env0 P w K mg (hidT s₁.heap H) callerA [] s₁ H := ⟨rfl, hM, fun b o e => of_hidT e, Nat.le_of_eq (hidT_size _ _), trivial, fun b hb => absurd (show b ∈ ([] : List Addr) from hb) (by simp), hok, .of_eq hg⟩
    refine codeAny_mono ((F _ hKb (nsK hns)).run callerA [] s₁ H ⟨[.ref a], []⟩ [.ref a] [.ref a] _ _ hr e0 (hbind s₁ (.ref a)) (.cons rfl .nil) (hsp H hO hS)) fun r s' h => ?_
    cases r with
    | error e => exact (hCX H e s' h).elim
    | ok fl =>
      cases fl with
      | next => exact False.elim h
      | brk => exact False.elim h
      | cont => exact False.elim h
      | ret u =>
        obtain ⟨v, H', os, bare, un, hok', r', q⟩ := h
        have q' : v = .bl true := q
        subst q'
        obtain rfl : u = Value.bool true := r'
        refine ⟨rfl, OldK.of_keep fun b o e => ?_, os, bare⟩
        cases q : H b with
        | none => exact un.keep b o e q (by intro z; exact absurd (show b ∈ ([] : List Addr) from z) (by simp)) (by simp)
        | some u =>
          rcases hO b with z | ⟨ob, xs, z⟩
          · rw [q] at z; cases z
          · have z2 := un.frzs b ob _ z
            obtain ⟨e1, _⟩ := hok b _ z
            obtain ⟨e2, _⟩ := hok' b _ z2
            rw [e] at e1; cases e1
            exact e2
  cases hk : K.lookup a with
  | some o =>
    -- the script is one of the module's own objects
    have e := KX a o hk
    rw [ha] at e
    cases e
    refine core (fun _ => none) (fun _ => .inl rfl) (.inr ⟨_, vs.toArray, _, hk, rfl, rfl, rfl, by rw [List.size_toArray, lenV]; exact hl, by simpa using rv⟩) (fun b u z => by have z' : (none : Option HO) = some u := z; cases z') (fun b z => absurd rfl z) fun z => absurd rfl z
  | none =>
    refine core (fun b => if b = a then some (.frz { cls := .type "list", data := .seq vs.toArray } (.lst (ns.map V.int))) else none) (fun b => ?_) (.inl (.inr ⟨{ cls := .type "list", data := .seq vs.toArray }, if_pos rfl⟩)) (fun b u z => ?_) (fun b z => ?_) fun _ => hk
    · by_cases hb : b = a
      · exact .inr ⟨_, _, if_pos hb⟩
      · exact .inl (if_neg hb)
    · by_cases hb : b = a
      · have z' := (if_pos hb).symm.trans z
        cases z'
        subst hb
        exact ⟨ha, by rw [List.length_map]; exact hl, vs, _, rv, ha⟩
      · have z' := (if_neg hb).symm.trans z
        cases z'
    · by_cases hb : b = a
      · exact hb
      · exact absurd (if_neg hb) z
end L2
namespace L2
open PySem PySem.Spec PyProof.Rows
theorem walk_of {l : PySem.W.OpenLaw} {n k : Nat} {q : Program} {loose : List Str} {XP : (Str → Option Value) → Heap → Prop} {YP : World → Heap → Prop} {d : DefRec} {K : Params → PySem.W.Frag} {CX : World → CXT} {sp : World → Sp} {x : Str}
    (hn : l.most = some n) (hn2 : n ≤ sizeLine) (hdf : d.params.defaults = []) (hr : Room k callerA)
    (hY : ∀ (w : World) (h : Heap), YP w h → (K w.params).In h)
    (F : ∀ (w : World) (mg : Str → Option Value) (fa : Addr) (h : Heap), (K w.params).In h → h.Ns mainGlobals mg → mg d.name = some (.ref fa) →
      ∃ fd : FuncData, (∀ (s : Shared) (u : Value), BindsTo s fd ⟨[u], []⟩ [(x, u)]) ∧
        ∀ base : Heap, (K w.params).In base → base.Ns mainGlobals mg → FnOk l.prog w (K w.params) mg base (CX w) k fa fd [x] (sp w))
    (hsp : ∀ (w : World) (H : Hp) (a : Addr) (ns : List Int), ns.length ≤ n → Only H → SqL (K w.params) H a (ns.map V.int) → sp w [.ref a] H (fun v _ => v = .bl true) fun _ _ _ => False)
    (hCX : ∀ (w : World) (H : Hp) (s : Shared) (e : Value) (s' : Shared), CX w [] H s (fun _ _ _ => False) e s' → False) :
    PySem.W.WalkO q loose XP YP l.row.toRowW d [] (fun f vs => PySem.call f vs) := by
  refine Att.attach_call hn hdf fun w s₀ s₁ mg mb fa o pm cd doc a vs ns G Y ho hd hcd hmg hobj hints hlen hg => ?_
  have KX := hY w _ Y
  obtain ⟨fd, hb, hF⟩ := F w mg fa _ KX G.T.g hmg
  exact law_call KX G.T.g G.T.b G.T.builtins G.T.nolimit hg hobj hints (Nat.le_trans hlen hn2) hr hF hb (fun H hO hS => hsp w H a ns hlen hO hS) fun H e s' => hCX w H s₁ e s'
end L2
namespace L2
open PySem PySem.Spec PyProof.Rows
def inClass (s : Stmt) (j : Nat) : Stmt := match s with
  | .ClassDef _ _ _ body _ _ _ _ _ _ _ => body.getD j (.Pass ⟨0, 0, 0, 0⟩)
  | _ => .Pass ⟨0, 0, 0, 0⟩
def defArgs (s : Stmt) : Arguments := match s with
  | .FunctionDef _ a _ _ _ _ _ _ _ _ => a
  | _ => { posonlyargs := [], args := [], vararg := none, kwonlyargs := [], kw_defaults := [], kwarg := none, defaults := [] }
def defBody (s : Stmt) : List Stmt := match s with
  | .FunctionDef _ _ b _ _ _ _ _ _ _ => b
  | _ => []
def defScope (s : Stmt) : Scope := match s with
  | .FunctionDef _ _ _ _ _ _ sc _ _ _ => sc
  | _ => { kind := .function, names := [], isGenerator := false, isCoroutine := false }
abbrev CX0 : CXT := fun _ _ _ _ _ _ => False
abbrev E0 : XK := fun _ _ _ => False
theorem pass0 {X : Cx} : Passes CX0 X E0 := fun _ _ _ _ _ _ _ h => h.elim
structure Fun (K : PySem.W.Frag) (x qual : Str) (st : Stmt) (f : Addr) (fd : FuncData) : Prop where
  ex : ∃ (oc : Value) (od : Option Addr) (kV doc pm : Value) (an : Option Addr) (cdv ct : Value) (osl : Array (Option Value)),
    fd = PySem.W.fnOf x qual (defArgs st) (defBody st) (defScope st) .none kV doc pm an cdv ct ∧ K.lookup f = some ⟨oc, od, .func fd, osl⟩ ∧ PySem.W.codeIn K cdv qual = true
  kp : PySem.W.keepIn K (.ref f) = true
section
variable {P : Program} {w : World} {K : PySem.W.Frag} {mg : Str → Option Value} {base : Heap}
theorem Fun.ok {x qual : Str} {st : Stmt} {f : Addr} {fd : FuncData} {N ps : List Str} {k : Nat} {sp : Sp} (F : Fun K x qual st f fd) (S : FnScope N ps (defScope st)) (len : ∀ vs H Q E, sp vs H Q E → vs.length = ps.length)
    (hbody : ∀ (cdv : Value) (A : Around) (outer : List Env) (s : Shared) (H : Hp) (vs : List V) (Q : VK) (E : XK), Room k (A.deeper (envOfC qual (defScope st) s.heap.objs.size f cdv)) → sp vs H Q E →
      ∃ t, PSs (cxOf CX0 P w K mg base N qual (defScope st) f cdv A outer s H E).nox (defBody st) t ∧ t { nx := fun _ H' => Q .non H', rt := Q } (start N vs) H) : FnOk P w K mg base CX0 (k + 1) f fd ps sp := by
  obtain ⟨oc, od, kV, doc, pm, an, cdv, ct, osl, rfl, lk, hcd⟩ := F.ex
  refine fn_of lk hcd S len fun A outer s H vs Q E hr hsp => ?_
  obtain ⟨t, h, q⟩ := hbody cdv A outer s H vs Q E hr hsp
  exact ⟨t, h.nox, q⟩
theorem Fun.binds {x qual : Str} {st : Stmt} {f : Addr} {fd : FuncData} {ps : List Str} (F : Fun K x qual st f fd)
    (h : ∀ (kV doc pm : Value) (an : Option Addr) (cdv ct : Value) (us : List Value), us.length = ps.length → bindArgs (PySem.W.fnOf x qual (defArgs st) (defBody st) (defScope st) .none kV doc pm an cdv ct) ⟨us, []⟩ = pure (ps.zip us)) : Binds K fd ps [] := by
  obtain ⟨oc, od, kV, doc, pm, an, cdv, ct, osl, rfl, lk, hcd⟩ := F.ex
  exact .all (h kV doc pm an cdv ct)
theorem fun_mk {x qual : Str} {st : Stmt} {f : Addr} {oc : Value} {od an : Option Addr} {osl : Array (Option Value)} {kV doc pm cdv ct : Value} (l : K.lookup f = some ⟨oc, od, .func (PySem.W.fnOf x qual (defArgs st) (defBody st) (defScope st) .none kV doc pm an cdv ct), osl⟩)
    (c : PySem.W.codeIn K cdv qual = true) (k : PySem.W.keepIn K (.ref f) = true) : Fun K x qual st f (PySem.W.fnOf x qual (defArgs st) (defBody st) (defScope st) .none kV doc pm an cdv ct) := ⟨⟨oc, od, kV, doc, pm, an, cdv, ct, osl, rfl, l, c⟩, k⟩
end
section
variable {X : Cx}
end
def Same (H H' : Hp) : Prop := ∀ b o, H b = some o → H' b = some o
theorem Same.refl (H : Hp) : Same H H := fun _ _ h => h
theorem Same.trans {H H1 H2 : Hp} (a : Same H H1) (b : Same H1 H2) : Same H H2 := fun c o h => b c o (a c o h)
theorem Same.free {H H' : Hp} (e : Same H H') {l : Addr} (h : H' l = Option.none) : H l = Option.none := by
  cases q : H l with
  | none => rfl
  | some o =>
    rw [e l o q] at h
    cases h
end L2
set_option maxHeartbeats 4000000
namespace L2
open PySem PySem.Spec PyProof.Rows
theorem clos_aux {env : Env} : ∀ (names : List (Str × NameKind)) (acc : List (Str × Addr)),
    (∀ y ∈ names, y.2 = .free → ∃ c, env.cells.lookup y.1 = some c) → (∀ x c, acc.lookup x = some c → env.cells.lookup x = some c) →
    ∃ cl, (forIn names acc fun (y : Str × NameKind) (r : List (Str × Addr)) => (match y with
      | (name, kind) => if (kind == .free) = true then (do let a ← cellOf env name; pure (ForInStep.yield ((name, a) :: r))) else pure (ForInStep.yield r) : Sem (ForInStep (List (Str × Addr))))) = pure cl ∧
      (∀ x c, cl.lookup x = some c → env.cells.lookup x = some c) ∧ (∀ y ∈ names, y.2 = .free → ∃ c, cl.lookup y.1 = some c) ∧ (∀ x c, acc.lookup x = some c → ∃ c', cl.lookup x = some c')
  | [], acc, _, ha => ⟨acc, rfl, ha, fun _ h => (nomatch h), fun x c h => ⟨c, h⟩⟩
  | (n, k) :: r, acc, hf, ha => by
    have hf' : ∀ y ∈ r, y.2 = .free → ∃ c, env.cells.lookup y.1 = some c := fun y hy => hf y (List.mem_cons_of_mem _ hy)
    by_cases hk : k = .free
    · subst hk
      obtain ⟨c0, e0⟩ := hf (n, .free) List.mem_cons_self rfl
      have hce : cellOf env n = pure c0 := by unfold cellOf; rw [e0]
      have ha2 : ∀ x c, ((n, c0) :: acc).lookup x = some c → env.cells.lookup x = some c := fun x c h => by
        rw [List.lookup_cons] at h
        cases hx : x == n with
        | true =>
          rw [hx] at h
          have e1 : x = n := by simpa using hx
          rw [e1, e0]
          exact h
        | false =>
          rw [hx] at h
          exact ha x c h
      obtain ⟨cl, e, h1, h2, h3⟩ := clos_aux r ((n, c0) :: acc) hf' ha2
      refine ⟨cl, ?_, h1, fun y hy hz => ?_, fun x c h => ?_⟩
      · rw [List.forIn_cons]
        simp only [beq_self_eq_true, if_true, hce]
        exact e
      · rcases List.mem_cons.mp hy with q | q
        · subst q
          exact h3 n c0 (by simp)
        · exact h2 y q hz
      · cases hx : x == n with
        | true => exact h3 x c0 (by rw [List.lookup_cons, hx])
        | false => exact h3 x c (by rw [List.lookup_cons, hx]; exact h)
    · have hb : (k == NameKind.free) = false := by simpa using hk
      obtain ⟨cl, e, h1, h2, h3⟩ := clos_aux r acc hf' ha
      refine ⟨cl, ?_, h1, fun y hy hz => ?_, h3⟩
      · rw [List.forIn_cons]
        simp only [hb, Bool.false_eq_true, if_false]
        exact e
      · rcases List.mem_cons.mp hy with q | q
        · subst q
          exact absurd hz hk
        · exact h2 y q hz
theorem clos_of {env : Env} {scope : Scope} (hf : ∀ y ∈ scope.names, y.2 = .free → ∃ c, env.cells.lookup y.1 = some c) :
    ∃ cl, closureFor scope env = pure cl ∧ (∀ x c, cl.lookup x = some c → env.cells.lookup x = some c) ∧ (∀ y ∈ scope.names, y.2 = .free → ∃ c, cl.lookup y.1 = some c) := by
  obtain ⟨cl, e, h1, h2, _⟩ := clos_aux (env := env) scope.names [] hf (fun x c h => by simp at h)
  refine ⟨cl, ?_, h1, h2⟩
  unfold closureFor
  show (forIn scope.names [] _ >>= fun r => pure r) = _
  rw [show (forIn scope.names ([] : List (Str × Addr)) fun (y : Str × NameKind) (r : List (Str × Addr)) => (match y with
      | (name, kind) => if (kind == .free) = true then (do let a ← cellOf env name; pure (ForInStep.yield ((name, a) :: r))) else pure (ForInStep.yield r) : Sem (ForInStep (List (Str × Addr))))) = pure cl from e]
  rfl
section
variable {prog : Program} {w : World} {A : Around} {R : Result → Shared → Prop} {s : Shared}
theorem comp_loop {elt tg iter : Expr} {ifs : List Expr} {scope : Scope} {pos : Pos} {it acc : Value} {env : Env} (J : Nat → Shared → Prop)
    (turn : ∀ n s, J n s → wpAny (model prog w) A (pyNext it) (fun r s1 => match r with
      | none => R (.ok .next) s1
      | some v => wpAny (model prog w) A (letOwnedTupleGo tg it v) (fun _ s1' => wpAny (model prog w) A (assign tg env v) (fun _ s2 =>
          wpAny (model prog w) A (forIn ifs true fun c r => if r = true then do let ok ← isTrue c env (eval c env); pure (ForInStep.yield ok) else pure (ForInStep.yield r)) (fun ok s3 =>
            if ok = true then wpAny (model prog w) A (eval elt env) (fun x s4 =>
              wpAny (model prog w) A (call (.builtin "list.append") [acc, x]) (fun _ s5 => ∃ m, m < n ∧ J m s5) (notedBy (model prog w) A env fun e z => R (.error e) z) s4) (notedBy (model prog w) A env fun e z => R (.error e) z) s3
            else ∃ m, m < n ∧ J m s3) (notedBy (model prog w) A env fun e z => R (.error e) z) s2) (notedBy (model prog w) A env fun e z => R (.error e) z) s1') (notedBy (model prog w) A env fun e z => R (.error e) z) s1) (notedBy (model prog w) A env fun e z => R (.error e) z) s)
    (n : Nat) (h : J n s) : codeAny (model prog w) A (.compLoop (.ListComp elt [⟨tg, iter, ifs, 0⟩] scope pos) 0 it acc env) R s := by
  refine codeAny_loop rfl J (fun n z hJ => ?_) n h
  show wpAny _ A ((compTurn (.ListComp elt [⟨tg, iter, ifs, 0⟩] scope pos) 0 it acc env).onRaise (fun y => do noteFrame y env; theTreesLotGoes y)) _ _ z
  refine wpAny_noted ?_
  rw [compTurn_list]
  refine wpAny_bind (wpAny_standAt (wpAny_bind (wpAny_mono (turn n z hJ) (fun r s1 h1 => ?_) fun _ _ q => q)))
  cases r with
  | none => exact wpAny_pure h1
  | some v =>
    refine wpAny_bind (wpAny_mono h1 (fun _ s1' h1' => ?_) fun _ _ q => q)
    refine wpAny_bind (wpAny_mono h1' (fun _ s2 h2 => wpAny_bind (wpAny_mono h2 (fun ok s3 h3 => ?_) fun _ _ q => q)) fun _ _ q => q)
    cases ok with
    | false => exact wpAny_pure ⟨rfl, h3⟩
    | true =>
      exact wpAny_bind (wpAny_bind (wpAny_mono h3 (fun x s4 h4 => wpAny_bind (wpAny_mono h4 (fun _ s5 h5 => wpAny_pure (wpAny_pure ⟨rfl, h5⟩)) fun _ _ q => q)) fun _ _ q => q))
end
def subSt (mp : List (Option Nat)) (σ : St) : St := mp.map fun o => match o with
  | some j => (σ[j]?).join
  | none => none
def cmpCx (X : Cx) (N : List Str) (scope : Scope) (cl : List (Str × Addr)) (C : Addr) (s : Shared) (H : Hp) (fp : List Addr) : Cx :=
  { X with N := N, s₀ := s, H₀ := H, env := compEnvC scope cl C X.env, outer := X.stack, stack := X.stack, ex := fp, fn := fun _ => false, pn := [], xe := fun _ _ => False }
def mapOk (NX : List Str) (names : List (Str × NameKind)) : List Str → List (Option Nat) → Bool
  | [], [] => true
  | x :: r, o :: q => (match o with
      | none => names.lookup x == some .local
      | some j => NX[j]? == some x && names.lookup x == some .free) && mapOk NX names r q
  | _, _ => false
theorem mapOk_get {NX : List Str} {names : List (Str × NameKind)} : ∀ {N : List Str} {mp : List (Option Nat)} {i j : Nat} {x : Str}, mapOk NX names N mp = true → N[i]? = some x → mp[i]? = some (some j) → NX[j]? = some x ∧ names.lookup x = some .free
  | [], _, i, _, _, _, h, _ => by simp at h
  | _ :: _, [], _, _, _, h, _, _ => by simp [mapOk] at h
  | y :: r, o :: q, 0, j, x, h, h1, h2 => by
    simp at h1 h2
    subst h1 h2
    unfold mapOk at h
    simp only [Bool.and_eq_true, beq_iff_eq] at h
    exact h.1
  | y :: r, o :: q, i + 1, j, x, h, h1, h2 => by
    unfold mapOk at h
    rw [Bool.and_eq_true] at h
    exact mapOk_get (i := i) h.2 (by simpa using h1) (by simpa using h2)
theorem mapOk_len {NX : List Str} {names : List (Str × NameKind)} : ∀ {N : List Str} {mp : List (Option Nat)}, mapOk NX names N mp = true → mp.length = N.length
  | [], [], _ => rfl
  | [], _ :: _, h => by simp [mapOk] at h
  | _ :: _, [], h => by simp [mapOk] at h
  | _ :: r, _ :: q, h => by
    unfold mapOk at h
    rw [Bool.and_eq_true] at h
    simp [mapOk_len h.2]
structure CmpSc (NX : List Str) (kX : List (Str × NameKind)) (N : List Str) (mp : List (Option Nat)) (scope : Scope) : Prop where
  kind : scope.kind = .function
  nocell : ∀ y ∈ scope.names, y.2 ≠ .cell
  locs : ∀ y ∈ scope.names, y.2 = .local → scope.names.lookup y.1 = some .local
  fre : ∀ y ∈ scope.names, y.2 = .free → kX.lookup y.1 = some .cell ∨ kX.lookup y.1 = some .free
  map : mapOk NX scope.names N mp = true
def PTs (X : Cx) (cs : List Expr) (t : TT) : Prop :=
  ∀ (pins : List (Addr × Obj)) (s : Shared) (σ : St) (H : Hp) (Q : Bool → Hp → Prop), Inv X pins σ H s → t σ H Q →
    wpAny (model X.prog X.w) X.A (forIn cs true fun c r => if r = true then do let ok ← isTrue c X.env (eval c X.env); pure (ForInStep.yield ok) else pure (ForInStep.yield r)) (TP X pins σ Q) X.xe s
def tYes : TT := fun _ H Q => Q true H
theorem pts_nil {X : Cx} : PTs X [] tYes := fun _ _ _ H _ I h => wpAny_tests_nil ⟨H, I, h⟩
theorem pts_one {X : Cx} {c : Expr} {t : TT} (h : PT X c t) : PTs X [c] t := fun pins s σ H Q I q => wpAny_tests_one (h pins s σ H Q I q)
def tComp (mp : List (Option Nat)) (wi : TI) (g : TG) (tc : TT) (te : TE) : TE := fun σ H Q => wi σ H fun J H1 =>
  ∃ W : Nat → Nat → List V → St → Hp → Prop, (∃ m, W 0 m [] (subSt mp σ) H1) ∧ ∀ i m acc τ H2, W i m acc τ H2 →
    (J.stop i H2 ∧ ∀ d, H2 d = none → Q (.ref d) (upd H2 d (.lst acc))) ∨
    (J.go i H2 ∧ acc.length < sizeLine ∧ ∃ N : List V → St → Hp → Prop, (∀ acc' τ' H', N acc' τ' H' → ∃ m', m' < m ∧ W (i + 1) m' acc' τ' H') ∧ ∀ x H3, J.yld i H2 x H3 → g x τ H3 fun τ1 H4 => tc τ1 H4 fun b H5 =>
      if b = true then te τ1 H5 fun v H6 => N (acc ++ [v]) τ1 H6 else N acc τ1 H5)
theorem lookup_relabel {env : Env} : ∀ {names : List (Str × NameKind)} {x : Str} {k : NameKind}, (names.map fun (n, k) => if (k == NameKind.free && env.scope.kind == .function && env.kindOf n == some .cell) then (n, NameKind.cell) else (n, k)).lookup x = some k →
    names.lookup x = some k ∨ (k = .cell ∧ names.lookup x = some .free)
  | [], _, _, h => by simp at h
  | (n, k0) :: r, x, k, h => by
    have ih := @lookup_relabel env r x k
    rw [List.map_cons] at h
    by_cases hc : (k0 == NameKind.free && env.scope.kind == .function && env.kindOf n == some .cell) = true
    · simp only [hc, if_true] at h
      cases hx : x == n with
      | true =>
        rw [List.lookup_cons, hx] at h
        have hk : k0 = .free := by
          rw [Bool.and_eq_true, Bool.and_eq_true] at hc
          simpa using hc.1.1
        right
        refine ⟨(Option.some.inj h).symm, ?_⟩
        rw [List.lookup_cons, hx, hk]
      | false =>
        rw [List.lookup_cons, hx] at h
        rw [List.lookup_cons, hx]
        exact ih h
    · simp only [hc, if_false] at h
      cases hx : x == n with
      | true =>
        rw [if_neg (by simp), List.lookup_cons, hx] at h
        rw [List.lookup_cons, hx]
        exact .inl h
      | false =>
        rw [if_neg (by simp), List.lookup_cons, hx] at h
        rw [List.lookup_cons, hx]
        exact ih h
end L2
namespace L2
open PySem PySem.Spec PyProof.Rows
theorem na0 {b D E : Nat} (h : b < E) (hD : E = D) : b ≠ D := by omega
theorem na1 {b D E C : Nat} (h : b < E) (hD : E = D) (hC : C = D + 1) : b ≠ C := by omega
theorem na2 {C D : Nat} (hC : C = D + 1) : D ≠ C := by omega
theorem na3 {C D E : Nat} (hD : E = D) (hC : C = D + 1) : E ≤ C := by omega
theorem na4 {D E : Nat} (hD : E = D) : E ≤ D := by omega
section
variable {X : Cx} {NX N : List Str} {kX : List (Str × NameKind)} {mp : List (Option Nat)} {scope : Scope} {pins : List (Addr × Obj)} {σ : St} {s s' : Shared} {H : Hp} {fp : List Addr} {cl : List (Str × Addr)} {C : Addr}
theorem cmp_ok (hkX : X.env.scope.names = kX) (S : CmpSc NX kX N mp scope) (I : Inv X pins σ H s) (hfp : ∀ b ∈ fp, FpOk X pins H b) (hold : ∀ b ∈ fp, b < s.heap.objs.size) (hC : s.heap.objs.size ≤ C)
    (hsub : ∀ x c, cl.lookup x = some c → X.env.cells.lookup x = some c) (hhas : ∀ y ∈ scope.names, y.2 = .free → ∃ c, cl.lookup y.1 = some c) : (cmpCx X N scope cl C s H fp).Ok where
  mod := I.ok.mod
  kind := S.kind
  glob := I.ok.glob
  blt := I.ok.blt
  above := hC
  inj := fun x y c h1 h2 => I.ok.inj x y c (hsub x c h1) (hsub y c h2)
  has := fun x h => by
    have key : scope.names.lookup x = some .free := by
      rcases h with h | h
      · rcases lookup_relabel (env := X.env) (names := scope.names) h with q | ⟨_, q⟩
        · exact absurd rfl (S.nocell _ (PySem.mem_of_lookup q))
        · exact q
      · rcases lookup_relabel (env := X.env) (names := scope.names) h with q | ⟨q, _⟩
        · exact q
        · cases q
    exact hhas _ (PySem.mem_of_lookup key) rfl
  cab := fun x c h => by cases h
  hd := I.ok.hd
  frames := I.ok.frames
  stk := .inl rfl
  exf := fun b hb => ⟨Nat.ne_of_lt (Nat.lt_of_lt_of_le (hold b hb) hC), fun x c e => (hfp b hb).2.2.2.2.1 x c (hsub x c e)⟩
  bs := I.bs
  bsz := Nat.le_trans I.ok.bsz I.sz
  noex := fun b o e hb => by
    rcases (hfp b hb).2.2.2.1 with q | q
    · exact I.ok.noex b o e q
    · exact absurd (Nat.lt_of_lt_of_le (Nat.lt_of_lt_of_le (Heap.lt_size e) I.ok.bsz) q) (Nat.lt_irrefl _)
  exfs := fun b hb hz => by
    obtain ⟨_, h1, h2, _⟩ := hfp b hb
    rcases List.mem_cons.mp (I.stkSub b hz) with q | q
    · exact h1 q
    · exact h2 q
  funs := I.stack
  frf := I.stkFree
theorem cmp_inv (hNX : X.N = NX) (hkX : X.env.scope.names = kX) (S : CmpSc NX kX N mp scope) (I : Inv X pins σ H s) (hfp : ∀ b ∈ fp, FpOk X pins H b) (hold : ∀ b ∈ fp, b < s.heap.objs.size) (hC : s.heap.objs.size ≤ C)
    (hsub : ∀ x c, cl.lookup x = some c → X.env.cells.lookup x = some c) (hhas : ∀ y ∈ scope.names, y.2 = .free → ∃ c, cl.lookup y.1 = some c)
    (ho : s'.os = s.os) (hg : s'.gens = s.gens) (hn : ∃ m, s'.heap.Ns C m) (hk : ∀ b o, s.heap.get? b = some o → s'.heap.get? b = some o) {pl : List (Addr × Obj)}
    (hp : ∀ p ∈ pl, s'.heap.get? p.1 = some p.2 ∧ H p.1 = none ∧ p.1 ≠ C ∧ p.1 ∉ frs X.stack ∧ ∀ v, p.2.data ≠ .cell v) :
    Inv (cmpCx X N scope cl C s H fp) pl (subSt mp σ) H s' where
  ok := cmp_ok hkX S I hfp hold hC hsub hhas
  os := ho
  bare := by rw [hg]; exact I.bare
  base := Un.kept hk
  loc := by
    obtain ⟨m, hm⟩ := hn
    refine ⟨m, hm, fun i x v h1 h2 h3 => ?_⟩
    have h2' : (mp.map fun o => match o with | some j => (σ[j]?).join | none => none)[i]? = some (some v) := h2
    rw [List.getElem?_map] at h2'
    cases e : mp[i]? with
    | none => rw [e] at h2'; cases h2'
    | some o =>
      rw [e] at h2'
      cases o with
      | none => cases h2'
      | some j =>
        have h4 : (σ[j]?).join = some v := by simpa using h2'
        have h5 : σ[j]? = some (some v) := by
          cases q : σ[j]? with
          | none => rw [q] at h4; cases h4
          | some z => rw [q] at h4; rw [show z = some v from h4]
        obtain ⟨g1, g2⟩ := mapOk_get S.map h1 e
        have fk := S.fre _ (PySem.mem_of_lookup g2) rfl
        obtain ⟨m0, _, hl⟩ := I.loc
        have vis : Vis X.env.scope x := by
          rcases fk with q | q
          · exact .inr (.inl (by rw [hkX]; exact q))
          · exact .inr (.inr (by rw [hkX]; exact q))
        obtain ⟨u, r, l⟩ := hl j x v (by rw [hNX]; exact g1) h5 vis
        refine ⟨u, r, .inr ?_⟩
        have l' : ∃ c, X.env.cells.lookup x = some c ∧ s.heap.IsCell c (some u) := by
          rcases l with ⟨q, _⟩ | ⟨_, q⟩
          · have q' : X.env.scope.names.lookup x = some .local := q
            rw [hkX] at q'
            rcases fk with z | z
            · rw [q'] at z; cases z
            · rw [q'] at z; cases z
          · exact q
        obtain ⟨c, hc, oc, hoc, hd⟩ := l'
        obtain ⟨c', hc'⟩ := hhas _ (PySem.mem_of_lookup g2) rfl
        have ec : c' = c := by
          have := hsub x c' hc'
          rw [hc] at this
          exact (Option.some.inj this).symm
        subst ec
        refine ⟨?_, c', hc', oc, hk _ _ hoc, hd⟩
        rcases h3 with q | q | q
        · rcases lookup_relabel (env := X.env) (names := scope.names) q with z | ⟨z, _⟩
          · rw [g2] at z; cases z
          · cases z
        · exact .inl q
        · exact .inr q
  cell := fun x c e => by
    obtain ⟨v, o, h1, h2⟩ := I.cell x c (hsub x c e)
    exact ⟨v, o, hk _ _ h1, h2⟩
  free := I.hok.fresh hC
  freeC := fun x c e => I.freeC x c (hsub x c e)
  pin := fun p hpp => hp p (by simpa [cmpCx] using hpp)
  hok := I.hok.kept hk
  len := by
    show (mp.map _).length = N.length
    rw [List.length_map]
    exact mapOk_len S.map
set_option maxHeartbeats 8000000 in
theorem pe_comp {tg iter elt : Expr} {ifs : List Expr} {pos : Pos} {wi : TI} {g : TG} {tc : TT} {te : TE} (N : List Str) (mp : List (Option Nat)) (hNX : X.N = NX) (hkX : X.env.scope.names = kX) (S : CmpSc NX kX N mp scope) (hc : X.calm = true)
    (hi : PI X tg iter wi) (hg : ∀ cl C s H fp, PG (cmpCx X N scope cl C s H fp) tg g) (ht : ∀ cl C s H fp, PTs (cmpCx X N scope cl C s H fp) ifs tc) (he : ∀ cl C s H fp, PE (cmpCx X N scope cl C s H fp) elt te)
    (hs : ∀ x, foldedSetIterable iter X.env x = pure x := by intro _; rfl) : PE X (.ListComp elt [⟨tg, iter, ifs, 0⟩] scope pos) (tComp mp wi g tc te) := by
  intro pins s σ H Q I h
  obtain ⟨cl, hcl, hsub, hhas⟩ := clos_of (env := X.env) (scope := scope) fun y hy hf => I.ok.has y.1 (by
    rcases S.fre y hy hf with q | q
    · exact .inl (show X.env.scope.names.lookup y.1 = _ by rw [hkX]; exact q)
    · exact .inr (show X.env.scope.names.lookup y.1 = _ by rw [hkX]; exact q))
  rw [eval_ListComp]
  refine wpAny_comprehension_free (use := none) rfl hs hcl S.kind S.locs ?_
  refine thn (hi pins s σ H _ I h) fun v s1 h1 => thn h1 fun itv s2 h2 => ?_
  obtain ⟨it, fp, tn, J, H2, e, I2, T, st2, f2, W, ⟨m0, w0⟩, turn⟩ := h2
  subst e
  refine wpAny_newObj_type (wpAny_newFunctionEnv S.nocell (by intro y hy; simp at hy) (fun h3 hns hsb => ?_) S.kind)
  dsimp only at hns hsb ⊢
  have hold : ∀ b ∈ fp, b < s2.heap.objs.size := fun b hb => by
    obtain ⟨o, q, _⟩ := T.obj _ _ st2 b hb
    exact Heap.lt_size q
  generalize hD : s2.heap.objs.size = D at hns hsb
  generalize hH2 : s2.heap.push { cls := .type "list", dict := none, data := .seq ([] : List Value).toArray } = P2 at hns hsb ⊢
  have hC : P2.objs.size = D + 1 := by rw [← hH2, Heap.size_push, hD]
  generalize hC' : P2.objs.size = C at hns hsb ⊢
  rw [hC'] at hC
  have old : ∀ b o, s2.heap.get? b = some o → h3.get? b = some o := fun b o q => by
    have hb := Heap.lt_size q
    exact hsb.extBut b o (na1 hb hD hC) (Heap.get?_push_of_some _ (hH2 ▸ Heap.get?_push_of_some _ q))
  have accD : h3.get? D = some { cls := .type "list", data := .seq ([] : List Value).toArray } :=
    hsb.extBut _ _ (na2 hC) (Heap.get?_push_of_some _ (by rw [← hH2, ← hD]; exact Heap.get?_push_size _ rfl))
  have hfr : D ∉ frs X.stack := fun z => by
    rcases List.mem_cons.mp (I2.stkSub D z) with q | q
    · exact na0 I2.lt hD q.symm
    · exact I2.nofs (na4 hD) q
  have I0 : Inv (cmpCx X N scope cl C s2 H2 fp) [(D, { cls := .type "list", data := .seq ([] : List Value).toArray })] (subSt mp σ) H2 { s2 with heap := h3, toks := s2.toks + ([] : List (Str × Value)).length } :=
    cmp_inv (s' := { s2 with heap := h3, toks := s2.toks + ([] : List (Str × Value)).length }) hNX hkX S I2 f2 hold (na3 hD hC) hsub hhas rfl rfl ⟨_, hns⟩ old fun p hp => by
      have ep := List.mem_singleton.mp hp
      subst ep
      exact ⟨accD, I2.hok.fresh (na4 hD), na2 hC, hfr, fun v z => by cases z⟩
  have T0 : tn 0 h3 := T.keep _ _ _ st2 fun b _ o q => old b o q
  have loop : ∀ z : Shared, z = { s2 with heap := h3, toks := s2.toks + ([] : List (Str × Value)).length } →
      codeAny (model X.prog X.w) X.A (.compLoop (.ListComp elt [⟨tg, iter, ifs, 0⟩] scope pos) 0 (.ref it) (.ref D) (compEnvC scope cl C X.env))
        (compPost (model X.prog X.w) X.A X.xe none (EP X pins σ Q) (.ref D) C) z := by
    rintro z rfl
    have stat : ∀ {H' : Hp} {pl : List (Addr × Obj)}, (∀ b ∈ fp, H' b = none) → (∀ p ∈ pl, p.1 = D) → ∀ b ∈ fp, FpOk (cmpCx X N scope cl C s2 H2 fp) pl H' b := fun hn hp b hb => by
      have hb2 := hold b hb
      refine ⟨hn b hb, na1 hb2 hD hC, (cmp_ok hkX S I2 f2 hold (na3 hD hC) hsub hhas).exfs b hb, .inl hb, fun x c q => (f2 b hb).2.2.2.2.1 x c (hsub x c q), fun p hpp => ?_⟩
      have hpD := hp p (by simpa [cmpCx] using hpp)
      rw [hpD]
      exact (na0 hb2 hD).symm
    refine comp_loop (env := compEnvC scope cl C X.env) (fun n z => ∃ i acc τ H' its k, Inv (cmpCx X N scope cl C s2 H2 fp) [(D, { cls := .type "list", data := .seq (List.toArray its) k })] τ H' z ∧ tn i z.heap ∧ (∀ b ∈ fp, H' b = none) ∧ Vals acc its ∧ acc.length ≤ sizeLine ∧ W i n acc τ H')
      ?_ m0 ⟨0, [], _, H2, [], 0, I0, T0, fun b hb => (f2 b hb).1, .nil, Nat.zero_le _, w0⟩
    rintro n s5 ⟨i, acc, τ, H5, its, k, I5, st5, fr5, va, hz, w5⟩
    rcases turn i n acc τ H5 w5 with ⟨stop, qn⟩ | ⟨go, hz2, N9, hN9, step⟩
    · refine thn (T.done (cmpCx X N scope cl C s2 H2 fp) rfl rfl rfl hc i _ s5 τ H5 _ I5 (stat fr5 (by simp)) st5 stop) fun r s6 ⟨hr, I6⟩ => ?_
      subst hr
      obtain ⟨m6, hn6, _⟩ := I6.loc
      refine ⟨m6, hn6, fun h' sb => ?_⟩
      obtain ⟨dD, nD, _, _, _⟩ := I6.pin (D, _) (List.mem_append_right _ (List.mem_singleton.mpr rfl))
      have U := I6.base
      have nC : H5 C = none := I6.free
      have ne : ∀ b o, s2.heap.get? b = some o → b ≠ C ∧ b ≠ D := fun b o q => by
        exact ⟨na1 (Heap.lt_size q) hD hC, na0 (Heap.lt_size q) hD⟩
      have keepC : ∀ b o, b ≠ C → s6.heap.get? b = some o → h'.get? b = some o := fun b o hb q => (sb.2 b hb).trans q
      have U' : Un (frs X.stack) fp H2 (upd H5 D (.lst acc)) s2.heap h' := by
        refine ⟨fun b o q n1 hb hx => keepC b o (ne b o q).1 (U.keep b o q n1 hb hx), fun b o q n1 hb hx => ?_, fun b o q n1 hx => ?_, fun b o q hx => ?_, fun b xs q => ?_, fun b o xs q => ?_, fun b ps q => ?_⟩
        · obtain ⟨sl, z⟩ := U.slot b o q n1 hb hx
          exact ⟨sl, keepC b _ (ne b o q).1 z⟩
        · rw [upd_ne (ne b o q).2]
          exact U.free b o q n1 hx
        · obtain ⟨o', z⟩ := U.there b o q hx
          exact ⟨o', keepC b _ (ne b o q).1 z⟩
        · have z := U.tups b xs q
          rw [upd_ne (ne_of_none z nD)]
          exact z
        · have z := U.frzs b o xs q
          rw [upd_ne (ne_of_none z nD)]
          exact z
        · obtain ⟨more, z⟩ := U.tbls b ps q
          exact ⟨more, by rw [upd_ne (ne_of_none z nD)]; exact z⟩
      have hok : HOk X.prog X.w (upd H5 D (.lst acc)) h' := fun b u q => by
        by_cases hb : b = D
        · subst hb
          rw [upd_same] at q
          cases q
          exact ⟨hz, its, k, va, keepC _ _ (na2 hC) dD⟩
        · rw [upd_ne hb] at q
          refine (I6.hok b u q).stay (fun c v hcc z => keepC c v ?_ z) (fun c z => by rw [upd_ne (ne_of_none z nD)]; exact z) fun c xs z => by rw [upd_ne (ne_of_none z nD)]; exact z
          rcases hcc with z1 | z1
          · subst z1
            exact ne_of_none q nC
          · exact ne_of_none z1 nC
      have I7 : Inv X pins σ (upd H5 D (.lst acc)) { s6 with heap := h' } := I2.call' (s' := { s6 with heap := h' }) (ch := fp) I6.os U' hok I6.bare fun b hb => by
        obtain ⟨_, a2, _, a4, a5, a6⟩ := f2 b hb
        exact ⟨a4, a2, a5, a6⟩
      exact ⟨.ref D, _, I7, rfl, qn D nD⟩
    · refine thn (T.item (cmpCx X N scope cl C s2 H2 fp) rfl rfl rfl hc i _ s5 τ H5 _ I5 (stat fr5 (by simp)) st5 go) fun r s6 ⟨u, hr, h6⟩ => ?_
      subst hr
      refine thn h6 fun _ s7 ⟨x, H7, I7, r7, y7, st7, fr7⟩ => ?_
      have I7' := I7.pinned (stat fr7 (by simp)) (T.obj _ _ st7)
      have no : ∀ {α : Type} {t : Sem α} {Q1 Q2 : α → Shared → Prop} {E : Value → Shared → Prop} {z : Shared}, wpAny (model X.prog X.w) X.A t Q1 (fun _ _ => False) z → (∀ a z, Q1 a z → Q2 a z) → wpAny (model X.prog X.w) X.A t Q2 E z :=
        fun q f => wpAny_mono q f fun _ _ z => z.elim
      refine no (hg cl C s2 H2 fp _ s7 τ H7 x u _ I7' r7 (step x H7 y7)) fun _ s8 ⟨τ1, H8, I8, q8⟩ => ?_
      refine no (ht cl C s2 H2 fp _ s8 τ1 H8 _ I8 q8) fun ok s9 ⟨H9, I9, q9⟩ => ?_
      have again : ∀ {H' : Hp} {z : Shared} {its' : List Value} {k' : Nat}, Inv (cmpCx X N scope cl C s2 H2 fp) ([(D, { cls := .type "list", data := .seq (List.toArray its') k' })] ++ pinsAt fp s7.heap) τ1 H' z →
          tn (i + 1) z.heap ∧ (∀ b ∈ fp, H' b = none) ∧ Inv (cmpCx X N scope cl C s2 H2 fp) [(D, { cls := .type "list", data := .seq (List.toArray its') k' })] τ1 H' z := fun {H' z its' k'} Iz => by
        have get : ∀ b ∈ fp, ∀ o, s7.heap.get? b = some o → z.heap.get? b = some o ∧ H' b = none := fun b hb o q => by
          obtain ⟨a1, a2, _⟩ := Iz.pin (b, o) (List.mem_append_right _ (List.mem_append_right _ (mem_pinsAt hb q)))
          exact ⟨a1, a2⟩
        refine ⟨T.keep _ _ _ st7 fun b hb o q => (get b hb o q).1, fun b hb => ?_, Iz.unpinned⟩
        obtain ⟨o, q, _⟩ := T.obj _ _ st7 b hb
        exact (get b hb o q).2
      cases ok with
      | false =>
        rw [if_neg Bool.false_ne_true] at q9 ⊢
        obtain ⟨m', hm, w9⟩ := hN9 _ _ _ q9
        obtain ⟨a1, a2, a3⟩ := again I9
        exact ⟨m', hm, i + 1, acc, τ1, H9, its, k, a3, a1, a2, va, hz, w9⟩
      | true =>
        rw [if_pos rfl] at q9 ⊢
        refine no (he cl C s2 H2 fp _ s9 τ1 H9 _ I9 q9) fun y s10 ⟨v, H10, I10, rv, q10⟩ => ?_
        obtain ⟨m', hm, w10⟩ := hN9 _ _ _ q10
        obtain ⟨a1, a2, a3⟩ := again I10
        obtain ⟨dD, nD, _, _, _⟩ := a3.pin (D, _) (List.mem_append_right _ (List.mem_singleton.mpr rfl))
        have hlen := va.length
        refine call_meets F.slot_list_append ⟨_, dD, rfl⟩ F.entry_list_append (F.args_list_append_2 _ _) (PySem.list_append D its.toArray k y (by rw [List.size_toArray]; omega)) ⟨dD, ?_⟩
        obtain ⟨k', q⟩ : ∃ k', (s10.heap.update D (Obj.mapSeq fun a => a.push y)).get? D = some { cls := .type "list", data := .seq (its ++ [y]).toArray k' } := by
          have q := PySem.IsL.update dD (fun a => a.push y)
          rw [show its.toArray.push y = (its ++ [y]).toArray by simp] at q
          exact ⟨_, q⟩
        have a4 : Inv (cmpCx X N scope cl C s2 H2 fp) (pinsAt fp s7.heap) τ1 H10 s10 := I10.pins_of fun p hp => I10.pin p (List.mem_append_right _ (List.mem_append_right _ hp))
        have a5 : Inv (cmpCx X N scope cl C s2 H2 fp) (pinsAt fp s7.heap) τ1 H10 { s10 with heap := s10.heap.update D (Obj.mapSeq fun a => a.push y), toks := s10.toks } :=
          a4.turned (it := D) (fun b o hb z => (Heap.get?_update_other _ _ (Ne.symm hb)).trans z) nD (na2 hC) (.inr (na4 hD))
            (fun x c z => by
              obtain ⟨_, o, h1, _⟩ := I2.cell x c (hsub x c z)
              exact na0 (Heap.lt_size h1) hD) fun p hp => by
              have hb := (of_pinsAt (by simpa [cmpCx] using hp)).1
              exact na0 (hold _ hb) hD
        obtain ⟨b1, b2, b3⟩ := (show tn (i + 1) (s10.heap.update D (Obj.mapSeq fun a => a.push y)) ∧ (∀ b ∈ fp, H10 b = none) ∧ True from
          ⟨T.keep _ _ _ a1 fun b hb o z => (Heap.get?_update_other _ _ (na0 (hold b hb) hD).symm).trans z, a2, trivial⟩)
        refine ⟨m', hm, i + 1, acc ++ [v], τ1, H10, its ++ [y], k', a5.pins_of fun p hp => ?_, b1, b2, va.append (.cons rv .nil), by rw [List.length_append, List.length_singleton]; omega, w10⟩
        have ep := List.mem_singleton.mp hp
        subst ep
        exact ⟨q, nD, na2 hC, hfr, fun v z => by cases z⟩
  have e1 : { newEnv scope C X.env.globals cl X.env.qual none .none (some X.env) X.env.builtins with scope := relabel scope X.env } = compEnvC scope cl C X.env := rfl
  exact codeAny_compStart_list (loop _ rfl) (T.self _ 0 _ _ _ T0 (loop _ rfl))
end
end L2
namespace L2
open PySem PySem.Spec PyProof.Rows
section
variable {X : Cx} {pins : List (Addr × Obj)} {σ : St} {H : Hp} {s : Shared}
theorem Inv.turnL {ch : List Addr} {h' : Heap} {t' : Nat} (I : Inv X pins σ H s) (hf : ∀ b ∈ ch, FpOk X pins H b) (k : ∀ b o, b ∉ ch → s.heap.get? b = some o → h'.get? b = some o) : Inv X pins σ H { s with heap := h', toks := t' } := by
  have nit : ∀ b u, H b = some u → b ∉ ch := fun b u e z => by rw [(hf b z).1] at e; cases e
  refine I.step (g' := s.gens) (d' := s.drawn) (ch := ch) (fun b hb => ?_) (fun b o _ _ hc e _ => k b o hc e) (fun b o _ _ hc e _ => ⟨o.slots, k b o hc e⟩) (fun _ _ _ _ n => n)
    (fun b o hc e => ⟨o, k b o hc e⟩) (fun _ _ e => e) (fun _ _ _ e => e) (fun b ps e => ⟨#[], by rw [e]; simp⟩) (fun m hm => ?_) (fun b u e => ?_) I.bare
  · obtain ⟨_, a2, _, a4, a5, a6⟩ := hf b hb
    exact ⟨a4, a2, a5, a6⟩
  · obtain ⟨o, es, ep, ho, r⟩ := hm
    exact ⟨o, es, ep, k _ o (fun z => (hf _ z).2.1 rfl) ho, r⟩
  · refine (I.hok b u e).stay (fun c v hc q => k c v ?_ q) (fun _ q => q) fun _ _ q => q
    rcases hc with z | z
    · rw [z]; exact nit b u e
    · exact nit c _ z
theorem Inv.turnN {ch : List Addr} {h' : Heap} {t' : Nat} {p : Addr} {o : HO} (I : Inv X pins σ H s) (hf : ∀ b ∈ ch, FpOk X pins H b) (k : ∀ b o, b ∉ ch → s.heap.get? b = some o → h'.get? b = some o) (hp : s.heap.objs.size ≤ p)
    (new : ObjOk X.prog X.w (upd H p o) h' p o) : Inv X pins σ (upd H p o) { s with heap := h', toks := t' } := by
  have hn : H p = none := I.hok.fresh hp
  have nit : ∀ b u, H b = some u → b ∉ ch := fun b u e z => by rw [(hf b z).1] at e; cases e
  have lt : ∀ b u, s.heap.get? b = some u → b ≠ p := fun b u e => Nat.ne_of_lt (Nat.lt_of_lt_of_le (Heap.lt_size e) hp)
  refine I.step (g' := s.gens) (d' := s.drawn) (ch := ch) (fun b hb => ?_) (fun b o _ _ hc e _ => k b o hc e) (fun b o _ _ hc e _ => ⟨o.slots, k b o hc e⟩) (fun b o _ e n => by rw [upd_ne (lt b o e)]; exact n)
    (fun b o hc e => ⟨o, k b o hc e⟩) (fun b xs e => by rw [upd_ne (ne_of_none e hn)]; exact e) (fun b u xs e => by rw [upd_ne (ne_of_none e hn)]; exact e) (fun b ps e => ⟨#[], by rw [upd_ne (ne_of_none e hn), e]; simp⟩) (fun m hm => ?_) (fun b u e => ?_) I.bare
  · obtain ⟨_, a2, _, a4, a5, a6⟩ := hf b hb
    exact ⟨a4, a2, a5, a6⟩
  · obtain ⟨o, es, ep, ho, r⟩ := hm
    exact ⟨o, es, ep, k _ o (fun z => (hf _ z).2.1 rfl) ho, r⟩
  · by_cases hb : b = p
    · subst hb
      rw [upd_same] at e
      cases e
      exact new
    · rw [upd_ne hb] at e
      refine (I.hok b u e).stay (fun c v hc q => k c v ?_ q) (fun c q => by rw [upd_ne (ne_of_none q hn)]; exact q) fun c xs q => by rw [upd_ne (ne_of_none q hn)]; exact q
      rcases hc with z | z
      · rw [z]; exact nit b u e
      · exact nit c _ z
end
def Itz (K : PySem.W.Frag) (a b : Addr) : It :=
  ⟨fun i H => ∃ xs ys x y, SqL K H a xs ∧ SqL K H b ys ∧ xs[i]? = some x ∧ ys[i]? = some y,
   fun i H v H' => ∃ p x y, v = .ref p ∧ H p = none ∧ H' = upd H p (.tup [x, y]) ∧ (∀ xs, SqL K H a xs → xs[i]? = some x) ∧ ∀ ys, SqL K H b ys → ys[i]? = some y,
   fun i H => ∃ xs ys, SqL K H a xs ∧ SqL K H b ys ∧ (xs[i]? = none ∨ ys[i]? = none)⟩
theorem turn_zip {P : Program} {w : World} {K : PySem.W.Frag} {es : List Expr} {kk : Nat} {tpos : Pos} {z TI TO i1 i2 l1 l2 : Addr} (D : ZipApart z TI TO i1 i2 l1 l2) :
    Turn P w K (.Tuple es kk tpos) (Itz K l1 l2) [z, TI, TO, i1, i2] z (fun i h => IsZip h z TI TO .none ∧ IsPair h TI (.ref i1) (.ref i2) ∧ (∃ a b, IsPair h TO a b) ∧ h.IsListIter i1 l1 i ∧ h.IsListIter i2 l2 i) where
  mem := by simp
  obj := fun i h st b hb => by
    obtain ⟨hz, hTI, ⟨a, b', hTO⟩, ⟨o1, e1, c1, d1⟩, ⟨o2, e2, c2, d2⟩⟩ := st
    simp only [List.mem_cons, List.not_mem_nil, or_false] at hb
    rcases hb with rfl | rfl | rfl | rfl | rfl
    · exact ⟨_, hz, fun v q => by cases q⟩
    · exact ⟨_, hTI, fun v q => by cases q⟩
    · exact ⟨_, hTO, fun v q => by cases q⟩
    · exact ⟨o1, e1, fun v q => by rw [d1] at q; cases q⟩
    · exact ⟨o2, e2, fun v q => by rw [d2] at q; cases q⟩
  keep := fun i h h' st k => by
    obtain ⟨hz, hTI, ⟨a, b', hTO⟩, h1, h2⟩ := st
    exact ⟨k z (by simp) _ hz, k TI (by simp) _ hTI, ⟨a, b', k TO (by simp) _ hTO⟩, h1.at fun o e => k i1 (by simp) o e, h2.at fun o e => k i2 (by simp) o e⟩
  item := by
    intro X hP hw hK hc i pins s σ H E I hf st hg
    subst hP hw hK
    obtain ⟨xs, ys, x, y, q1, q2, hx, hy⟩ := hg
    obtain ⟨its1, rv1, p1, hz1⟩ := I.list q1
    obtain ⟨its2, rv2, p2, hz2⟩ := I.list q2
    obtain ⟨u1, hu1, ru1⟩ := rv1.get hx
    obtain ⟨u2, hu2, ru2⟩ := rv2.get hy
    obtain ⟨hz, hTI, ⟨a, b', hTO⟩, h1, h2⟩ := st
    refine wpAny_pyNext_zip_item D hz hTI hTO h1 h2 p1.isList p2.isList (x := u1) (y := u2) (by simpa using hu1) (by simpa using hu2) fun h' a1 a2 a3 a4 a5 a6 hk => ?_
    have new : ObjOk X.prog X.w (upd H s.heap.objs.size (.tup [x, y])) h' s.heap.objs.size (.tup [x, y]) := ⟨by show 2 ≤ sizeLine; decide, [u1, u2], .cons ru1 (.cons ru2 .nil), _, a5, rfl, _, rfl⟩
    have I1 : Inv X pins σ (upd H s.heap.objs.size (.tup [x, y])) { s with heap := h' } := I.turnN (t' := s.toks) (ch := [z, TO, i1, i2]) (fun b hb => hf b (by
      simp only [List.mem_cons, List.not_mem_nil, or_false] at hb ⊢
      rcases hb with r | r | r | r <;> simp [r]))
      (fun b o hb e => hk b o (fun q => hb (by simp [q])) (fun q => hb (by simp [q])) (fun q => hb (by simp [q])) (fun q => hb (by simp [q])) e) (Nat.le_refl _) new
    have hTI' : IsPair h' TI (.ref i1) (.ref i2) := hk _ _ D.TIz D.TITO D.TIi1 D.TIi2 hTI
    have hsz : ∀ b, b ∈ [z, TI, TO, i1, i2] → b ≠ s.heap.objs.size := fun b hb => by
      obtain ⟨_, _, hlt, _⟩ := hf b hb
      have lt : ∃ o, s.heap.get? b = some o := by
        simp only [List.mem_cons, List.not_mem_nil, or_false] at hb
        rcases hb with rfl | rfl | rfl | rfl | rfl
        · exact ⟨_, hz⟩
        · exact ⟨_, hTI⟩
        · exact ⟨_, hTO⟩
        · obtain ⟨o, e, _⟩ := h1; exact ⟨o, e⟩
        · obtain ⟨o, e, _⟩ := h2; exact ⟨o, e⟩
      obtain ⟨o, e⟩ := lt
      exact Nat.ne_of_lt (Heap.lt_size e)
    refine ⟨_, rfl, wpAny_letOwnedTupleGo_zip (s := { s with heap := h' }) a1 fun h'' z2 sb => ?_⟩
    have fz := hf z (by simp)
    have I2 : Inv X pins σ (upd H s.heap.objs.size (.tup [x, y])) { s with heap := h'' } := Inv.turned (s := { s with heap := h' }) (it := z) (t' := s.toks) I1 (fun b o hb e => (sb.2 b hb).trans e) (by rw [upd_ne (hsz z (by simp))]; exact fz.1) fz.2.1 fz.2.2.2.1 fz.2.2.2.2.1 fz.2.2.2.2.2
    refine ⟨.ref s.heap.objs.size, _, I2, rfl, ⟨_, x, y, rfl, I.fresh, rfl, fun xs' q => by rw [I.list_inj q q1]; exact hx, fun ys' q => by rw [I.list_inj q q2]; exact hy⟩,
      ⟨z2, (sb.2 _ D.TIz).trans hTI', ⟨_, _, (sb.2 _ D.TOz).trans a2⟩, a3.extBut sb.extBut D.i1z, a4.extBut sb.extBut D.i2z⟩, fun b hb => by rw [upd_ne (hsz b hb)]; exact (hf b hb).1⟩
  done := by
    intro X hP hw hK hc i pins s σ H E I hf st hg
    subst hP hw hK
    obtain ⟨xs, ys, q1, q2, hx⟩ := hg
    obtain ⟨its1, rv1, p1, hz1⟩ := I.list q1
    obtain ⟨its2, rv2, p2, hz2⟩ := I.list q2
    obtain ⟨hz, hTI, ⟨a, b', hTO⟩, h1, h2⟩ := st
    have hend : its1.toArray[i]? = none ∨ its2.toArray[i]? = none := by
      rcases hx with r | r
      · exact .inl (by simpa using rv1.none_of r)
      · exact .inr (by simpa using rv2.none_of r)
    refine wpAny_pyNext_zip_end (I.ok.hd hc) D hz hTI hTO h1 h2 p1.isList p2.isList hend fun h' hk => ⟨rfl, ?_⟩
    exact I.turnL (t' := s.toks) (ch := [z, TO, i1, i2]) (fun b hb => hf b (by
      simp only [List.mem_cons, List.not_mem_nil, or_false] at hb ⊢
      rcases hb with r | r | r | r <;> simp [r]))
      (fun b o hb e => hk b o (fun q => hb (by simp [q])) (fun q => hb (by simp [q])) (fun q => hb (by simp [q])) (fun q => hb (by simp [q])) e)
  self := fun _ _ _ _ _ st h => wpAny_pyIter_zip st.1 h
section
variable {X : Cx}
end
section
variable {X : Cx}
end
theorem Vals.bools : ∀ {bs : List Bool} {us : List Value}, Vals (bs.map V.bl) us → us = bs.map Value.bool
  | [], _, .nil => rfl
  | _ :: _, _, .cons r t => by rw [Vals.bools t, (show _ = Value.bool _ from r)]; rfl
section
variable {X : Cx}
theorem bools_all (bs : List Bool) : ((List.range bs.length).all fun i => (bs[i]?).getD true) = bs.all id := by
  rw [Bool.eq_iff_iff, List.all_eq_true, List.all_eq_true]
  constructor
  · intro h b hb
    obtain ⟨i, hi, rfl⟩ := List.getElem_of_mem hb
    have := h i (List.mem_range.mpr hi)
    rw [List.getElem?_eq_getElem hi] at this
    exact this
  · intro h i hi
    have hi' := List.mem_range.mp hi
    rw [List.getElem?_eq_getElem hi']
    exact h _ (List.getElem_mem hi')
def rQuant (K : PySem.W.Frag) (f : List Bool → Bool) : List V → Hp → VK → Prop := fun xs H Q => ∃ p bs, xs = [.ref p] ∧ SqL K H p (List.map V.bl bs) ∧ Q (.bl (f bs)) H
theorem call_all (hc : X.calm = true) : CallR X (.builtin "all") (rQuant X.K fun bs => bs.all id) := by
  intro pins s σ H xs us Q I r h
  obtain ⟨p, bs, rfl, hq, q⟩ := h
  cases r with
  | cons r rr =>
    cases rr
    cases r
    obtain ⟨its, rv, pl, hz⟩ := I.list hq
    have e := rv.bools
    subst e
    have lt : p < s.heap.objs.size := by obtain ⟨_, e, _⟩ := pl.isList; exact Heap.lt_size e
    refine call_all_walk (wpAny_pyIter_list pl.isList ?_)
    refine ⟨s.heap.objs.size, [s.heap.objs.size, p], [s.heap.objs.size], (bs.map Value.bool).toArray.size, _, _, fun i => (bs[i]?).getD true, rfl, Walks.list (A := X.A.in1) (I.ok.hd hc) _ p (Nat.ne_of_lt lt) _,
      ⟨⟨_, Heap.get?_push_size _ rfl, rfl, rfl⟩, pl.isList.push _⟩, fun i v s' Q' E' hP hQ => ?_, fun h' tk hk => ?_⟩
    · have e : (bs.map Value.bool)[i]? = some v := by simpa using hP
      rw [List.getElem?_map] at e
      cases z : bs[i]? with
      | none => rw [z] at e; cases e
      | some b =>
        rw [z] at e
        have e' : Value.bool b = v := Option.some.inj e
        subst e'
        dsimp only at hQ
        rw [z] at hQ
        exact wpAny_truthy_bool hQ
    · rw [List.size_toArray, List.length_map, bools_all]
      refine ⟨.bl _, H, I.kept fun b o e => hk b o (fun hm => ?_) (Heap.get?_push_of_some _ e), rfl, q⟩
      rw [List.mem_singleton.mp hm] at e
      exact Nat.lt_irrefl _ (Heap.lt_size e)
def rIsi (K : PySem.W.Frag) : List V → Hp → VK → Prop := fun xs H Q => ∃ x T t b, xs = [x, .ty T] ∧ TyOf K H x t ∧ PySem.W.kitOne K t (.type T) = some b ∧ Q (.bl b) H
theorem call_isi : CallR X (.builtin "isinstance") (rIsi X.K) := by
  intro pins s σ H xs us Q I r h
  obtain ⟨x, T, t, b, rfl, ty, e, q⟩ := h
  cases r with
  | cons r rr =>
    cases rr with
    | cons r' rr =>
      cases rr
      cases (show _ = Value.type T from r')
      exact isinst_ok I r ty e fun tk => ⟨.bl b, H, I.tok tk, rfl, q⟩
def rIsiT (K : PySem.W.Frag) : List V → Hp → VK → Prop := fun xs H Q => ∃ x p Ts t b, xs = [x, .ref p] ∧ SqT K H p (List.map V.ty Ts) ∧ TyOf K H x t ∧ PySem.W.kitAny K t (Ts.map Value.type) = some b ∧ Q (.bl b) H
theorem Vals.types : ∀ {bs : List String} {us : List Value}, Vals (bs.map V.ty) us → us = bs.map Value.type
  | [], _, .nil => rfl
  | _ :: _, _, .cons r t => by rw [Vals.types t, (show _ = Value.type _ from r)]; rfl
theorem kitT {x : V} {u t : Value} {pins : List (Addr × Obj)} {σ : St} {H : Hp} {s : Shared} (I : Inv X pins σ H s) (rx : RelV x u) (ty : TyOf X.K H x t) (hl : ∀ a C dx fs, H a = some (.ins C dx fs) → x ≠ .ref a) :
    ∃ Hh : Heap → Prop, PySem.W.KitX X.K u t Hh ∧ Hh s.heap ∧ u ≠ .builtin "__main__.__loader__#opaque" := by
  cases ty with
  | non => cases (show u = Value.none from rx); exact ⟨_, PySem.W.kitx_none, True.intro, fun z => nomatch z⟩
  | bl y => cases (show u = Value.bool y from rx); exact ⟨_, PySem.W.kitx_bool, True.intro, fun z => nomatch z⟩
  | int i => obtain ⟨t, q⟩ := (show ∃ t, u = Value.int i t from rx); cases q; exact ⟨_, PySem.W.kitx_int, True.intro, fun z => nomatch z⟩
  | str y => obtain ⟨t, q⟩ := (show ∃ t, u = Value.str y t from rx); cases q; exact ⟨_, PySem.W.kitx_str, True.intro, fun z => nomatch z⟩
  | flt y => obtain ⟨t, q⟩ := (show ∃ t, u = Value.float y t from rx); cases q; exact ⟨_, PySem.W.kitx_float, True.intro, fun z => nomatch z⟩
  | @lst a xs ea =>
    cases (show u = Value.ref a from rx)
    obtain ⟨_, _, n, _, h1⟩ := (show ObjOk X.prog X.w H s.heap a (.lst xs) from I.hok a _ ea)
    exact ⟨_, PySem.W.kitx_list, ⟨_, h1, rfl⟩, fun z => nomatch z⟩
  | @frz a ob xs ea =>
    cases (show u = Value.ref a from rx)
    obtain ⟨_, _, _, n, _, h1⟩ := (show ObjOk X.prog X.w H s.heap a (.frz ob (.lst xs)) from I.hok a _ ea)
    exact ⟨_, PySem.W.kitx_list, ⟨_, h1, rfl⟩, fun z => nomatch z⟩
  | @tup a xs ea =>
    cases (show u = Value.ref a from rx)
    obtain ⟨_, _, _, p⟩ := (show ObjOk X.prog X.w H s.heap a (.tup xs) from I.hok a _ ea)
    obtain ⟨o, h1, h2, _⟩ := p
    exact ⟨_, PySem.W.kitx_tuple, ⟨o, h1, h2⟩, fun z => nomatch z⟩
  | @dK a kvs ea =>
    cases (show u = Value.ref a from rx)
    obtain ⟨_, _, vs, _, p⟩ := (show ObjOk X.prog X.w H s.heap a (.dK kvs) from I.hok a _ ea)
    obtain ⟨o, es, ep, h1, h2, _⟩ := p
    exact ⟨_, PySem.W.kitx_dict, ⟨o, h1, h2.1⟩, fun z => nomatch z⟩
  | @dT a kvs ea =>
    cases (show u = Value.ref a from rx)
    obtain ⟨_, _, xs, _, o, es, ep, h1, h2, _⟩ := (show ObjOk X.prog X.w H s.heap a (.dT kvs) from I.hok a _ ea)
    exact ⟨_, PySem.W.kitx_dict, ⟨o, h1, h2.1⟩, fun z => nomatch z⟩
  | @ins a C dx fs ea cl ha hn htk hm => exact absurd rfl (hl a C dx fs ea)
theorem call_isiT : CallR X (.builtin "isinstance") (fun xs H Q => rIsiT X.K xs H Q ∧ ∀ a C dx fs, H a = some (.ins C dx fs) → xs.head? ≠ some (.ref a)) := by
  intro pins s σ H xs us Q I r h
  obtain ⟨⟨x, p, Ts, t, b, rfl, hq, ty, e, q⟩, hl⟩ := h
  cases r with
  | cons r rr =>
    cases rr with
    | cons r' rr =>
      cases rr
      cases r'
      obtain ⟨Hh, Z, hh, ne⟩ := kitT I r ty fun a C dx fs z w' => hl a C dx fs z (by rw [w']; rfl)
      obtain ⟨its, rv, ⟨o, ho, hcl, n, hd⟩, hz⟩ := I.tuple hq
      have ei := rv.types
      subst ei
      obtain ⟨c0, d0, dt0, sl0⟩ := o
      cases (show c0 = Value.type "tuple" from hcl)
      cases (show dt0 = Data.seq (List.map Value.type Ts).toArray n from hd)
      exact PySem.W.kia_tup Z I.kIn hh ho e ne fun tk => ⟨.bl b, H, I.tok tk, rfl, q⟩
end
end L2
namespace L2
open PySem PySem.Spec PyProof.Rows
inductive Tn (H : Hp) : V → String → Prop where
  | non : Tn H .non "NoneType"
  | bl (b : Bool) : Tn H (.bl b) "bool"
  | int (i : Int) : Tn H (.int i) "int"
  | str (x : Str) : Tn H (.str x) "str"
  | lst {a : Addr} {xs : List V} (e : H a = some (.lst xs)) : Tn H (.ref a) "list"
  | tup {a : Addr} {xs : List V} (e : H a = some (.tup xs)) : Tn H (.ref a) "tuple"
theorem Tn.ty {K : PySem.W.Frag} {H : Hp} {x : V} {t : String} (h : Tn H x t) : TyOf K H x (.type t) := by
  cases h with
  | non => exact .non
  | bl b => exact .bl b
  | int i => exact .int i
  | str x => exact .str x
  | lst e => exact .lst e
  | tup e => exact .tup e
def subN (t T : String) : Bool := t == T || (t == "bool" && T == "int")
def knownT : List String := ["NoneType", "bool", "int", "str", "list", "tuple"]
theorem kit_sub (K : PySem.W.Frag) : ∀ t ∈ knownT, ∀ T ∈ knownT, PySem.W.kitOne K (.type t) (.type T) = some (subN t T) := by
  intro t ht T hT
  simp only [knownT, List.mem_cons, List.not_mem_nil, or_false] at ht hT
  rcases ht with rfl | rfl | rfl | rfl | rfl | rfl <;> rcases hT with rfl | rfl | rfl | rfl | rfl | rfl <;> first | rfl | kernel_rfl
theorem Tn.known {H : Hp} {x : V} {t : String} (h : Tn H x t) : t ∈ knownT := by cases h <;> decide
section
variable {X : Cx}
theorem call_isi1 : CallR X (.builtin "isinstance") (fun xs H Q => ∃ x T t, xs = [x, .ty T] ∧ Tn H x t ∧ T ∈ knownT ∧ Q (.bl (subN t T)) H) := by
  intro pins s σ H xs us Q I r h
  obtain ⟨x, T, t, rfl, ty, hT, q⟩ := h
  exact call_isi pins s σ H _ us Q I r ⟨x, T, _, _, rfl, ty.ty, kit_sub X.K t ty.known T hT, q⟩
theorem kit_any (K : PySem.W.Frag) {t : String} (ht : t ∈ knownT) : ∀ Ts : List String, (∀ T ∈ Ts, T ∈ knownT) → PySem.W.kitAny K (.type t) (Ts.map Value.type) = some (Ts.any fun T => subN t T)
  | [], _ => rfl
  | T :: r, h => by
    have e := kit_sub K t ht T (h T List.mem_cons_self)
    have ih := kit_any K ht r fun T' h' => h T' (List.mem_cons_of_mem _ h')
    show (match PySem.W.kitOne K (.type t) (.type T) with | some true => some true | some false => PySem.W.kitAny K (.type t) (r.map Value.type) | none => none) = _
    rw [e, List.any_cons]
    cases subN t T with
    | true => rfl
    | false => exact ih
theorem call_isi2 : CallR X (.builtin "isinstance") (fun xs H Q => ∃ x p Ts t, xs = [x, .ref p] ∧ H p = some (.tup (List.map V.ty Ts)) ∧ Tn H x t ∧ (∀ T ∈ Ts, T ∈ knownT) ∧ Q (.bl (Ts.any fun T => subN t T)) H) := by
  intro pins s σ H xs us Q I r h
  obtain ⟨x, p, Ts, t, rfl, hp, ty, hT, q⟩ := h
  refine call_isiT pins s σ H _ us Q I r ⟨⟨x, p, Ts, _, _, rfl, SqT.of hp, ty.ty, kit_any X.K ty.known Ts hT, q⟩, fun a C dx fs e z => ?_⟩
  have z' : x = .ref a := by simpa using z
  subst z'
  cases ty with
  | lst e' => rw [e] at e'; cases e'
  | tup e' => rw [e] at e'; cases e'
def CDivL (i j : Int) : Prop := 0 < j ∧ j < 2 ^ 70
theorem op_fdivL : OpR X (binaryOp .FloorDiv) (rI CDivL fun i j => .int (i / j)) := opI fun i j _ _ _ _ _ hc q => by
  have h1 : (0 : Int) < j := hc.1
  have h2 : j < 2 ^ 70 := hc.2
  refine floordiv_int (by omega) (by rw [Int.fdiv_eq_ediv_of_nonneg i (by omega)]; exact q) (.inl (PyProof.noPylong_of_log2 ?_))
  have h3 : j.natAbs ≠ 0 := by omega
  have h4 : j.natAbs.log2 < 70 := (Nat.log2_lt h3).mpr (by omega)
  omega
end
def SameX (p : Addr) (H H' : Hp) : Prop := ∀ b o, b ≠ p → H b = some o → H' b = some o
theorem SameX.refl (p : Addr) (H : Hp) : SameX p H H := fun _ _ _ h => h
theorem SameX.trans {p : Addr} {H H1 H2 : Hp} (a : SameX p H H1) (b : SameX p H1 H2) : SameX p H H2 := fun c o n h => b c o n (a c o n h)
theorem SameX.upd {p : Addr} {H : Hp} {o : HO} : SameX p H (upd H p o) := fun b u n h => by rw [upd_ne n]; exact h
theorem Same.x {p : Addr} {H H' : Hp} (h : Same H H') : SameX p H H' := fun b o _ q => h b o q
theorem same_upd {H : Hp} {p : Addr} {o : HO} (h : H p = none) : Same H (upd H p o) := fun b u q => by rw [upd_ne (ne_of_none q h)]; exact q
end L2
namespace L2
open PySem PySem.Spec PyProof.Rows
structure Cal (P : Program) (w : World) (K : PySem.W.Frag) (mg : Str → Option Value) (base : Heap) (x : Str) (k : Nat) (ps : List Str) (sp : Sp) : Prop where
  ex : ∃ (f : Addr) (fd : FuncData), FnOk P w K mg base CX0 k f fd ps sp ∧ Binds K fd ps [] ∧ PySem.W.keepIn K (.ref f) = true ∧ mg x = some (.ref f)
section
variable {X : Cx} {k : Nat} {ps : List Str} {sp : Sp} {x : Str} {p pos : Pos} {e : Expr} {es : List Expr} {t : TA}
theorem pe_cal (C : Cal X.prog X.w X.K X.mg X.base x k ps sp) (hr : Room k X.A) (hg : Gl X x) (ha : PA X (e :: es) t) (hdb : (x == ("__debug__" : Str)) = false := by decide)
    (he : starEach (e :: es) X.env = (false, eval e X.env) :: starEach es X.env := by rfl) (hpl : (backTo pos (starEach es X.env)).any (·.1) = false := by rfl) : PE X (.Call (.Name x p) (e :: es) [] pos) (tCall sp [] E0 t) := by
  obtain ⟨f, fd, F, b, kp, hm⟩ := C.ex
  exact pe_call F hr hg hm kp b .nil pass0 ha hdb he hpl
end
structure Def1 (K : PySem.W.Frag) (mg : Str → Option Value) (x : Str) (st : Stmt) (ps : List Str) (f : Addr) (fd : FuncData) : Prop where
  fn : Fun K x x st f fd
  bd : Binds K fd ps []
  nm : mg x = some (.ref f)
theorem Def1.cal {P : Program} {w : World} {K : PySem.W.Frag} {mg : Str → Option Value} {base : Heap} {x : Str} {st : Stmt} {ps : List Str} {f : Addr} {fd : FuncData} {k : Nat} {sp : Sp} (D : Def1 K mg x st ps f fd) (F : FnOk P w K mg base CX0 k f fd ps sp) : Cal P w K mg base x k ps sp :=
  ⟨f, fd, F, D.bd, D.fn.kp, D.nm⟩
theorem scal_int (i j : Int) : scal (.int i) (.int j) = true := rfl
theorem scal_bl (i j : Bool) : scal (.bl i) (.bl j) = true := rfl
theorem scal_str (i j : Str) : scal (.str i) (.str j) = true := rfl
theorem scal_non : scal .non .non = true := rfl
theorem scal_in (i : Int) : scal (.int i) .non = true := rfl
theorem scal_ni (i : Int) : scal .non (.int i) = true := rfl
theorem scal_is (i : Int) (x : Str) : scal (.int i) (.str x) = true := rfl
theorem scal_si (i : Int) (x : Str) : scal (.str x) (.int i) = true := rfl
theorem atI_0 {α : Type} (a : α) (r : List α) : atI (a :: r) 0 = some a := atI_nat (j := 0) rfl
theorem atI_1 {α : Type} (a b : α) (r : List α) : atI (a :: b :: r) 1 = some b := atI_nat (j := 1) rfl
theorem atI_2 {α : Type} (a b c : α) (r : List α) : atI (a :: b :: c :: r) 2 = some c := atI_nat (j := 2) rfl
theorem ixN_3 : ixN 3 0 = some 0 ∧ ixN 3 1 = some 1 ∧ ixN 3 2 = some 2 := ⟨by decide, by decide, by decide⟩
theorem sl_le {n : Nat} (h : n ≤ 9000) : n ≤ sizeLine := Nat.le_trans h (by decide)
def ixq (o : Option HO) (i : Int) (H : Hp) (Q : VK) : Prop := match o with
  | some (.lst xs) => ∃ v, atI xs i = some v ∧ Q v H
  | some (.tup xs) => ∃ v, atI xs i = some v ∧ Q v H
  | _ => False
def stq (o : Option HO) (p : Addr) (k : Int) (v : V) (H : Hp) (Q : Hp → Prop) : Prop := match o with
  | some (.lst xs) => ∃ j, ixN xs.length k = some j ∧ Q (upd H p (.lst (xs.set j v)))
  | _ => False
def lnq (o : Option HO) (H : Hp) (Q : VK) : Prop := match o with
  | some (.lst ys) => Q (.int ys.length) H
  | some (.tup ys) => Q (.int ys.length) H
  | _ => False
def rIxD : R2 := fun x y H Q => match x, y with
  | .ref p, .int i => ixq (H p) i H Q
  | _, _ => False
def rSetD : V → V → V → Hp → (Hp → Prop) → Prop := fun o i v H Q => match o, i with
  | .ref p, .int k => stq (H p) p k v H Q
  | _, _ => False
def rLenD : List V → Hp → VK → Prop := fun xs H Q => match xs with
  | [.ref p] => lnq (H p) H Q
  | _ => False
theorem rIxD_ref (p : Addr) (i : Int) (H : Hp) (Q : VK) : rIxD (.ref p) (.int i) H Q = ixq (H p) i H Q := rfl
theorem rSetD_ref (p : Addr) (k : Int) (v : V) (H : Hp) (Q : Hp → Prop) : rSetD (.ref p) (.int k) v H Q = stq (H p) p k v H Q := rfl
theorem rLenD_ref (p : Addr) (H : Hp) (Q : VK) : rLenD [.ref p] H Q = lnq (H p) H Q := rfl
theorem ixq_lst (xs : List V) (i : Int) (H : Hp) (Q : VK) : ixq (some (.lst xs)) i H Q = ∃ v, atI xs i = some v ∧ Q v H := rfl
theorem ixq_tup (xs : List V) (i : Int) (H : Hp) (Q : VK) : ixq (some (.tup xs)) i H Q = ∃ v, atI xs i = some v ∧ Q v H := rfl
theorem stq_lst (xs : List V) (p : Addr) (k : Int) (v : V) (H : Hp) (Q : Hp → Prop) : stq (some (.lst xs)) p k v H Q = ∃ j, ixN xs.length k = some j ∧ Q (upd H p (.lst (xs.set j v))) := rfl
theorem lnq_lst (xs : List V) (H : Hp) (Q : VK) : lnq (some (.lst xs)) H Q = Q (.int xs.length) H := rfl
theorem lnq_tup (xs : List V) (H : Hp) (Q : VK) : lnq (some (.tup xs)) H Q = Q (.int xs.length) H := rfl
section
variable {X : Cx}
theorem ix_D : IxR X rIxD := by
  intro value slice pins s σ H x y v u Q I rx ry h hs
  unfold rIxD at h
  split at h
  · rename_i p i
    unfold ixq at h
    split at h
    · rename_i xs e
      obtain ⟨z, hz, q⟩ := h
      exact ix_list value slice pins s σ H _ _ v u Q I rx ry ⟨p, xs, i, z, rfl, rfl, SqL.of e, hz, q⟩ hs
    · rename_i xs e
      obtain ⟨z, hz, q⟩ := h
      exact ix_tup value slice pins s σ H _ _ v u Q I rx ry ⟨p, xs, i, z, rfl, rfl, SqT.of e, hz, q⟩ hs
    · exact h.elim
  · exact h.elim
theorem set_D : PSet X rSetD := by
  intro pins s σ H o i v ov iv u Q I ro ri rv h
  unfold rSetD at h
  split at h
  · rename_i p k
    unfold stq at h
    split at h
    · rename_i xs e
      obtain ⟨j, hj, q⟩ := h
      exact set_list pins s σ H _ _ v ov iv u Q I ro ri rv ⟨p, xs, k, j, rfl, rfl, e, hj, q⟩
    · exact h.elim
  · exact h.elim
theorem call_len_D : CallR X (.builtin "len") rLenD := by
  intro pins s σ H xs us Q I r h
  unfold rLenD at h
  split at h
  · rename_i p
    unfold lnq at h
    split at h
    · rename_i ys e
      exact call_len_seq pins s σ H _ us Q I r ⟨p, ys, rfl, .inl (SqL.of e), h⟩
    · rename_i ys e
      exact call_len_seq pins s σ H _ us Q I r ⟨p, ys, rfl, .inr (SqT.of e), h⟩
    · exact h.elim
  · exact h.elim
end
def rIntD : List V → Hp → VK → Prop := fun xs H Q => match xs with
  | [.int i] => Q (.int i) H
  | [.bl k] => Q (.int (if k then 1 else 0)) H
  | _ => False
theorem rIntD_i (i : Int) (H : Hp) (Q : VK) : rIntD [.int i] H Q = Q (.int i) H := rfl
theorem rIntD_b (k : Bool) (H : Hp) (Q : VK) : rIntD [.bl k] H Q = Q (.int (if k then 1 else 0)) H := rfl
theorem call_int_D {X : Cx} : CallR X (.type "int") rIntD := by
  intro pins s σ H xs us Q I r h
  unfold rIntD at h
  split at h
  · exact call_int1 pins s σ H _ us Q I r (.inl ⟨_, rfl, h⟩)
  · exact call_int1 pins s σ H _ us Q I r (.inr ⟨_, rfl, h⟩)
  · exact h.elim
theorem seq_k {t u : TS} {D : Ends} {σ : St} {H : Hp} (h : ∀ k, k = u D → t { D with nx := k } σ H) : tSeq t u D σ H := h _ rfl
theorem for_k {wi : TI} {g : TG} {tb : TS} {D : Ends} {σ : St} {H : Hp} (h : ∀ R : It → Hp → Prop, R = (fun J H1 => ∃ W : Nat → Nat → St → Hp → Prop, (∃ m, W 0 m σ H1) ∧ ∀ i m σ H, W i m σ H →
    (J.stop i H ∧ D.nx σ H) ∨ (J.go i H ∧ ∃ N : St → Hp → Prop, (∀ σ' H', N σ' H' → ∃ m', m' < m ∧ W (i + 1) m' σ' H') ∧ ∀ x H', J.yld i H x H' → g x σ H' fun σ2 H2 => tb { D with nx := N, ct := N, bk := D.nx } σ2 H2)) → wi σ H R) : tFor wi g tb D σ H := h _ rfl
theorem for_r {lo : Int} {n : Nat} {g : TG} {tb : TS} {D : Ends} {σ : St} {H : Hp} {R : It → Hp → Prop} (hR : R = (fun J H1 => ∃ W : Nat → Nat → St → Hp → Prop, (∃ m, W 0 m σ H1) ∧ ∀ i m σ H, W i m σ H →
    (J.stop i H ∧ D.nx σ H) ∨ (J.go i H ∧ ∃ N : St → Hp → Prop, (∀ σ' H', N σ' H' → ∃ m', m' < m ∧ W (i + 1) m' σ' H') ∧ ∀ x H', J.yld i H x H' → g x σ H' fun σ2 H2 => tb { D with nx := N, ct := N, bk := D.nx } σ2 H2)))
    (Pv : Nat → St → Hp → Prop) (h0 : Pv 0 σ H) (hs : ∀ i σ H, i < n → Pv i σ H → g (.int (lo + i)) σ H fun σ2 H2 => tb { D with nx := Pv (i + 1), ct := Pv (i + 1), bk := D.nx } σ2 H2) (hd : ∀ σ H, Pv n σ H → D.nx σ H) : R (Itr lo n) H := by
  subst hR
  exact for_range Pv h0 hs hd
theorem for_l {K : PySem.W.Frag} {a : Addr} {xs : List V} {g : TG} {tb : TS} {D : Ends} {σ : St} {H : Hp} {R : It → Hp → Prop} (hR : R = (fun J H1 => ∃ W : Nat → Nat → St → Hp → Prop, (∃ m, W 0 m σ H1) ∧ ∀ i m σ H, W i m σ H →
    (J.stop i H ∧ D.nx σ H) ∨ (J.go i H ∧ ∃ N : St → Hp → Prop, (∀ σ' H', N σ' H' → ∃ m', m' < m ∧ W (i + 1) m' σ' H') ∧ ∀ x H', J.yld i H x H' → g x σ H' fun σ2 H2 => tb { D with nx := N, ct := N, bk := D.nx } σ2 H2)))
    (Pv : Nat → St → Hp → Prop) (h0 : Pv 0 σ H) (hl : ∀ i σ H, i ≤ xs.length → Pv i σ H → SqL K H a xs) (hs : ∀ i x σ H, xs[i]? = some x → Pv i σ H → g x σ H fun σ2 H2 => tb { D with nx := Pv (i + 1), ct := Pv (i + 1), bk := D.nx } σ2 H2) (hd : ∀ σ H, Pv xs.length σ H → D.nx σ H) : R (Itl K a) H := by
  subst hR
  exact for_list Pv h0 hl hs hd
def CmpW (mp : List (Option Nat)) (g : TG) (tc : TT) (te : TE) (σ : St) (Q : VK) (J : It) (H1 : Hp) : Prop := ∃ W : Nat → Nat → List V → St → Hp → Prop, (∃ m, W 0 m [] (subSt mp σ) H1) ∧ ∀ i m acc τ H2, W i m acc τ H2 →
    (J.stop i H2 ∧ ∀ d, H2 d = none → Q (.ref d) (upd H2 d (.lst acc))) ∨
    (J.go i H2 ∧ acc.length < sizeLine ∧ ∃ N : List V → St → Hp → Prop, (∀ acc' τ' H', N acc' τ' H' → ∃ m', m' < m ∧ W (i + 1) m' acc' τ' H') ∧ ∀ x H3, J.yld i H2 x H3 → g x τ H3 fun τ1 H4 => tc τ1 H4 fun b H5 =>
      if b = true then te τ1 H5 fun v H6 => N (acc ++ [v]) τ1 H6 else N acc τ1 H5)
theorem comp_k {mp : List (Option Nat)} {wi : TI} {g : TG} {tc : TT} {te : TE} {σ : St} {H : Hp} {Q : VK} (h : ∀ R : It → Hp → Prop, R = CmpW mp g tc te σ Q → wi σ H R) : tComp mp wi g tc te σ H Q := h _ rfl
theorem comp_by {J : It} {mp : List (Option Nat)} {g : TG} {tc : TT} {te : TE} {σ : St} {H : Hp} {Q : VK} {R : It → Hp → Prop} (hR : R = CmpW mp g tc te σ Q) (n : Nat) (hz : n ≤ sizeLine) (Pv : Nat → List V → St → Hp → Prop) (h0 : Pv 0 [] (subSt mp σ) H)
    (hl : ∀ i acc τ H, Pv i acc τ H → acc.length ≤ i) (hgo : ∀ i acc τ H, i < n → Pv i acc τ H → J.go i H) (hst : ∀ acc τ H, Pv n acc τ H → J.stop n H)
    (hs : ∀ i acc τ H x H3, i < n → Pv i acc τ H → J.yld i H x H3 → g x τ H3 fun τ1 H4 => tc τ1 H4 fun b H5 => if b = true then te τ1 H5 fun v H6 => Pv (i + 1) (acc ++ [v]) τ1 H6 else Pv (i + 1) acc τ1 H5)
    (hd : ∀ acc τ H d, Pv n acc τ H → H d = none → Q (.ref d) (upd H d (.lst acc))) : R J H := by
  subst hR
  refine ⟨fun i m acc τ H2 => m = n - i ∧ i ≤ n ∧ Pv i acc τ H2, ⟨_, rfl, Nat.zero_le _, h0⟩, ?_⟩
  rintro i m acc τ H2 ⟨rfl, hi, p⟩
  have q3 := hl i acc τ H2 p
  by_cases hlt : i < n
  · exact .inr ⟨hgo i acc τ H2 hlt p, by omega, Pv (i + 1), fun acc' τ' H' q => ⟨_, by omega, rfl, hlt, q⟩, fun x H3 y => hs i acc τ H2 x H3 hlt p y⟩
  · have e : i = n := by omega
    subst e
    exact .inl ⟨hst acc τ H2 p, fun d hd' => hd acc τ H2 d p hd'⟩
structure Nm (N : List Str) (sc : Scope) (i : Nat) (x : Str) : Prop where
  hN : N[i]? = some x
  hv : Loc sc x
  hd : (x == ("__debug__" : Str)) = false
  hcd : (x == ("__classdict__" : Str)) = false
def nmOk (N : List Str) (sc : Scope) (i : Nat) (x : Str) : Bool := decide (N[i]? = some x) && (decide (sc.names.lookup x = some .local) || decide (sc.names.lookup x = some .cell)) && !(x == ("__debug__" : Str)) && !(x == ("__classdict__" : Str))
theorem Nm.of {N : List Str} {sc : Scope} {i : Nat} {x : Str} (h : nmOk N sc i x = true) : Nm N sc i x := by
  unfold nmOk at h
  rw [Bool.and_eq_true, Bool.and_eq_true, Bool.and_eq_true, Bool.or_eq_true] at h
  obtain ⟨⟨⟨h1, h2⟩, h3⟩, h4⟩ := h
  exact ⟨of_decide_eq_true h1, h2.elim (fun z => .inl (of_decide_eq_true z)) (fun z => .inr (of_decide_eq_true z)), by simpa using h3, by simpa using h4⟩
structure Bn (x : Str) : Prop where
  hn : x ≠ "__name__"
  hd : (x == ("__debug__" : Str)) = false
section
variable {X : Cx} {i : Nat} {x : Str} {pos pos' p : Pos} {e : Expr} {es : List Expr} {te : TE} {t : TA} {k : Nat} {ps : List Str} {sp : Sp} {id T : String} {r : List V → Hp → VK → Prop}
theorem pn (n : Nm X.N X.env.scope i x) : PE X (.Name x pos) (tVar i) := pe_var n.hN (n.hv.elim .inl fun z => .inr (.inl z)) n.hd n.hcd
theorem ps_st (n : Nm X.N X.env.scope i x) (hN : X.N.Nodup) (he : PE X e te) (hs : swapsWith e (some (.Name x pos')) pos.line X.env = pure false := by rfl) (hf : X.fn x = true ∨ X.env.scope.names.lookup x = some .local := by exact .inl rfl) :
    PS X (.Assign [.Name x pos'] e pos) (tAsg te (gName i)) := ps_set hN n.hN n.hv he hs hf
theorem pg_nm (n : Nm X.N X.env.scope i x) (hN : X.N.Nodup) (hf : X.fn x = true ∨ X.env.scope.names.lookup x = some .local := by exact .inl rfl) : PG X (.Name x pos) (gName i) := pg_name hN n.hN n.hv hf
theorem pe_cl (C : Cal X.prog X.w X.K X.mg X.base x k ps sp) (hr : Room k X.A) (hg : Gl X x) (hdb : Bn x) (ha : PA X (e :: es) t)
    (he : starEach (e :: es) X.env = (false, eval e X.env) :: starEach es X.env := by rfl) (hpl : (backTo pos (starEach es X.env)).any (·.1) = false := by rfl) : PE X (.Call (.Name x p) (e :: es) [] pos) (tCall sp [] E0 t) :=
  pe_cal C hr hg ha hdb.hd he hpl
theorem pe_cb (hc : CallR X (.builtin id) r) (hg : Gl X x) (hm : X.mg x = none) (hv : bootBuiltins x = some (.builtin id)) (b : Bn x) (ha : PA X (e :: es) t)
    (he : starEach (e :: es) X.env = (false, eval e X.env) :: starEach es X.env := by rfl) (hpl : (backTo pos (starEach es X.env)).any (·.1) = false := by rfl) : PE X (.Call (.Name x p) (e :: es) [] pos) (tCB r t) := pe_callB hc hg hm hv ha b.hn b.hd he hpl
theorem pe_ct (hc : CallR X (.type T) r) (hg : Gl X x) (hm : X.mg x = none) (hv : bootBuiltins x = some (.type T)) (b : Bn x) (ha : PA X (e :: es) t)
    (he : starEach (e :: es) X.env = (false, eval e X.env) :: starEach es X.env := by rfl) (hpl : (backTo pos (starEach es X.env)).any (·.1) = false := by rfl) : PE X (.Call (.Name x p) (e :: es) [] pos) (tCB r t) := pe_callTy hc hg hm hv ha b.hn b.hd he hpl
theorem pe_bt (n : String) (hg : Gl X x) (hm : X.mg x = none) (hv : bootBuiltins x = some (.type n)) (b : Bn x) : PE X (.Name x pos) (tC (.ty n)) := pe_bltn hg hm hv rfl b.hn b.hd
end
theorem bn_len : Bn "len" := ⟨by decide +kernel, by decide +kernel⟩
theorem bn_abs : Bn "abs" := ⟨by decide +kernel, by decide +kernel⟩
theorem bn_min : Bn "min" := ⟨by decide +kernel, by decide +kernel⟩
theorem bn_all : Bn "all" := ⟨by decide +kernel, by decide +kernel⟩
theorem bn_isinstance : Bn "isinstance" := ⟨by decide +kernel, by decide +kernel⟩
theorem bn_int : Bn "int" := ⟨by decide +kernel, by decide +kernel⟩
theorem bn_sum : Bn "sum" := ⟨by decide +kernel, by decide +kernel⟩
theorem bn_list : Bn "list" := ⟨by decide +kernel, by decide +kernel⟩
theorem bn_tuple : Bn "tuple" := ⟨by decide +kernel, by decide +kernel⟩
theorem bn_str : Bn "str" := ⟨by decide +kernel, by decide +kernel⟩
theorem bn_bool : Bn "bool" := ⟨by decide +kernel, by decide +kernel⟩
theorem bn_repr : Bn "repr" := ⟨by decide +kernel, by decide +kernel⟩
def tyO : Option HO → Option String
  | some (.lst _) => some "list"
  | some (.tup _) => some "tuple"
  | _ => none
def tyN (x : V) (H : Hp) : Option String := match x with
  | .non => some "NoneType"
  | .bl _ => some "bool"
  | .int _ => some "int"
  | .str _ => some "str"
  | .ref a => tyO (H a)
  | _ => none
theorem Tn.of {x : V} {H : Hp} {t : String} (h : tyN x H = some t) : Tn H x t := by
  cases x with
  | non => cases h; exact .non
  | bl b => cases h; exact .bl b
  | int i => cases h; exact .int i
  | str s => cases h; exact .str s
  | ref a =>
    have h' : tyO (H a) = some t := h
    cases e : H a with
    | none => rw [e] at h'; cases h'
    | some o =>
      rw [e] at h'
      cases o with
      | lst xs => cases h'; exact .lst e
      | tup xs => cases h'; exact .tup e
      | _ => cases h'
  | _ => cases h
def rIsi1 : List V → Hp → VK → Prop := fun xs H Q => match xs with
  | [x, .ty T] => ∃ t, tyN x H = some t ∧ knownT.contains T = true ∧ Q (.bl (subN t T)) H
  | _ => False
def i2q (o : Option HO) (x : V) (H : Hp) (Q : VK) : Prop := match o with
  | some (.tup [.ty T, .ty U]) => ∃ t, tyN x H = some t ∧ knownT.contains T = true ∧ knownT.contains U = true ∧ Q (.bl (subN t T || subN t U)) H
  | _ => False
def rIsi2 : List V → Hp → VK → Prop := fun xs H Q => match xs with
  | [x, .ref p] => i2q (H p) x H Q
  | _ => False
theorem call_isiA {X : Cx} : CallR X (.builtin "isinstance") rIsi1 := by
  intro pins s σ H xs us Q I r h
  unfold rIsi1 at h
  split at h
  · obtain ⟨t, e, k, q⟩ := h
    exact call_isi1 pins s σ H _ us Q I r ⟨_, _, t, rfl, Tn.of e, by simpa using k, q⟩
  · exact h.elim
theorem call_isiB {X : Cx} : CallR X (.builtin "isinstance") rIsi2 := by
  intro pins s σ H xs us Q I r h
  unfold rIsi2 at h
  split at h
  · rename_i x p
    unfold i2q at h
    split at h
    · rename_i T U e
      obtain ⟨t, e1, k1, k2, q⟩ := h
      refine call_isi2 pins s σ H _ us Q I r ⟨x, p, [T, U], t, rfl, e, Tn.of e1, fun z hz => ?_, by simpa using q⟩
      rcases List.mem_cons.mp hz with rfl | hz
      · simpa using k1
      · obtain rfl := List.mem_singleton.mp hz
        simpa using k2
    · exact h.elim
  · exact h.elim
theorem rIsi1_eq (x : V) (T : String) (H : Hp) (Q : VK) : rIsi1 [x, .ty T] H Q = ∃ t, tyN x H = some t ∧ knownT.contains T = true ∧ Q (.bl (subN t T)) H := rfl
theorem rIsi2_eq (x : V) (p : Addr) (H : Hp) (Q : VK) : rIsi2 [x, .ref p] H Q = i2q (H p) x H Q := rfl
theorem i2q_eq (x : V) (T U : String) (H : Hp) (Q : VK) : i2q (some (.tup [.ty T, .ty U])) x H Q = ∃ t, tyN x H = some t ∧ knownT.contains T = true ∧ knownT.contains U = true ∧ Q (.bl (subN t T || subN t U)) H := rfl
theorem kc_list : knownT.contains "list" = true := by decide
theorem kc_tuple : knownT.contains "tuple" = true := by decide
theorem kc_int : knownT.contains "int" = true := by decide
theorem kc_str : knownT.contains "str" = true := by decide
theorem kc_bool : knownT.contains "bool" = true := by decide
theorem ty_int (i : Int) (H : Hp) : tyN (.int i) H = some "int" := rfl
theorem ty_bl (i : Bool) (H : Hp) : tyN (.bl i) H = some "bool" := rfl
theorem ty_str (i : Str) (H : Hp) : tyN (.str i) H = some "str" := rfl
theorem ty_non (H : Hp) : tyN .non H = some "NoneType" := rfl
theorem ty_ref (p : Addr) (H : Hp) : tyN (.ref p) H = tyO (H p) := rfl
theorem tyO_lst (xs : List V) : tyO (some (.lst xs)) = some "list" := rfl
theorem tyO_tup (xs : List V) : tyO (some (.tup xs)) = some "tuple" := rfl
theorem sb_NoneType_bool : subN "NoneType" "bool" = false := by decide
theorem sb_NoneType_int : subN "NoneType" "int" = false := by decide
theorem sb_NoneType_str : subN "NoneType" "str" = false := by decide
theorem sb_NoneType_list : subN "NoneType" "list" = false := by decide
theorem sb_NoneType_tuple : subN "NoneType" "tuple" = false := by decide
theorem sb_bool_bool : subN "bool" "bool" = true := by decide
theorem sb_bool_int : subN "bool" "int" = true := by decide
theorem sb_bool_str : subN "bool" "str" = false := by decide
theorem sb_bool_list : subN "bool" "list" = false := by decide
theorem sb_bool_tuple : subN "bool" "tuple" = false := by decide
theorem sb_int_bool : subN "int" "bool" = false := by decide
theorem sb_int_int : subN "int" "int" = true := by decide
theorem sb_int_str : subN "int" "str" = false := by decide
theorem sb_int_list : subN "int" "list" = false := by decide
theorem sb_int_tuple : subN "int" "tuple" = false := by decide
theorem sb_str_bool : subN "str" "bool" = false := by decide
theorem sb_str_int : subN "str" "int" = false := by decide
theorem sb_str_str : subN "str" "str" = true := by decide
theorem sb_str_list : subN "str" "list" = false := by decide
theorem sb_str_tuple : subN "str" "tuple" = false := by decide
theorem sb_list_bool : subN "list" "bool" = false := by decide
theorem sb_list_int : subN "list" "int" = false := by decide
theorem sb_list_str : subN "list" "str" = false := by decide
theorem sb_list_list : subN "list" "list" = true := by decide
theorem sb_list_tuple : subN "list" "tuple" = false := by decide
theorem sb_tuple_bool : subN "tuple" "bool" = false := by decide
theorem sb_tuple_int : subN "tuple" "int" = false := by decide
theorem sb_tuple_str : subN "tuple" "str" = false := by decide
theorem sb_tuple_list : subN "tuple" "list" = false := by decide
theorem sb_tuple_tuple : subN "tuple" "tuple" = true := by decide
def gtq (o : Option HO) (n : Nat) (t : TGs) (σ : St) (H : Hp) (Q : St → Hp → Prop) : Prop := match o with
  | some (.tup xs) => xs.length = n ∧ t xs σ H Q
  | _ => False
def gTupD (n : Nat) (t : TGs) : TG := fun v σ H Q => match v with
  | .ref a => gtq (H a) n t σ H Q
  | _ => False
theorem gTupD_ref (n : Nat) (t : TGs) (a : Addr) (σ : St) (H : Hp) (Q : St → Hp → Prop) : gTupD n t (.ref a) σ H Q = gtq (H a) n t σ H Q := rfl
theorem gtq_tup (xs : List V) (n : Nat) (t : TGs) (σ : St) (H : Hp) (Q : St → Hp → Prop) : gtq (some (.tup xs)) n t σ H Q = (xs.length = n ∧ t xs σ H Q) := rfl
def qtq (o : Option HO) (f : List Bool → Bool) (H : Hp) (Q : VK) : Prop := match o with
  | some (.lst xs) => ∃ bs, xs = List.map V.bl bs ∧ Q (.bl (f bs)) H
  | _ => False
def rQuantD (f : List Bool → Bool) : List V → Hp → VK → Prop := fun xs H Q => match xs with
  | [.ref p] => qtq (H p) f H Q
  | _ => False
theorem rQuantD_ref (f : List Bool → Bool) (p : Addr) (H : Hp) (Q : VK) : rQuantD f [.ref p] H Q = qtq (H p) f H Q := rfl
theorem qtq_lst (f : List Bool → Bool) (xs : List V) (H : Hp) (Q : VK) : qtq (some (.lst xs)) f H Q = ∃ bs, xs = List.map V.bl bs ∧ Q (.bl (f bs)) H := rfl
section
variable {X : Cx} {es : List Expr} {k : Nat} {t : TGs} {n : Nat} {pos : Pos}
theorem pg_tupD (hc : X.calm = true) (h : PGs X es t) (hn : (assignEach es X.env).length = n := by rfl) (hst : (assignEach es X.env).findIdx? (·.1) = none := by rfl) : PG X (.Tuple es k pos) (gTupD n t) := by
  intro pins s σ H v u Q I r hw
  unfold gTupD at hw
  split at hw
  · rename_i a
    unfold gtq at hw
    split at hw
    · rename_i xs e
      exact pg_tup hc h hn hst pins s σ H _ u Q I r ⟨a, xs, rfl, SqT.of e, hw.1, hw.2⟩
    · exact hw.elim
  · exact hw.elim
theorem call_allD (hc : X.calm = true) : CallR X (.builtin "all") (rQuantD fun bs => bs.all id) := by
  intro pins s σ H xs us Q I r h
  unfold rQuantD at h
  split at h
  · rename_i p
    unfold qtq at h
    split at h
    · rename_i ys e
      obtain ⟨bs, rfl, q⟩ := h
      exact call_all hc pins s σ H _ us Q I r ⟨p, bs, rfl, SqL.of e, q⟩
    · exact h.elim
  · exact h.elim
end
def rMinD : List V → Hp → VK → Prop := fun xs H Q => match xs with
  | [.int i, .int j] => Q (.int (if j < i then j else i)) H
  | _ => False
def rMaxD : List V → Hp → VK → Prop := fun xs H Q => match xs with
  | [.int i, .int j] => Q (.int (if j > i then j else i)) H
  | _ => False
theorem rMinD_eq (i j : Int) (H : Hp) (Q : VK) : rMinD [.int i, .int j] H Q = Q (.int (if j < i then j else i)) H := rfl
theorem rMaxD_eq (i j : Int) (H : Hp) (Q : VK) : rMaxD [.int i, .int j] H Q = Q (.int (if j > i then j else i)) H := rfl
theorem call_minD {X : Cx} (hc : X.calm = true) : CallR X (.builtin "min") rMinD := by
  intro pins s σ H xs us Q I r h
  unfold rMinD at h
  split at h
  · exact call_min2 hc pins s σ H _ us Q I r ⟨_, _, rfl, h⟩
  · exact h.elim
end L2
namespace L2
open PySem PySem.Spec PyProof.Rows
structure QE (X : Cx) (e : Expr) (t : TE) : Prop where
  h : PE X e t
structure QT (X : Cx) (e : Expr) (t : TT) : Prop where
  h : PT X e t
structure QW (X : Cx) (e : Expr) (t : TT) : Prop where
  h : PW X e t
structure QA (X : Cx) (es : List Expr) (t : TA) : Prop where
  h : PA X es t
structure QS (X : Cx) (st : Stmt) (t : TS) : Prop where
  h : PS X st t
structure QB (X : Cx) (st : List Stmt) (t : TS) : Prop where
  h : PSs X st t
structure QG (X : Cx) (e : Expr) (t : TG) : Prop where
  h : PG X e t
structure QGs (X : Cx) (es : List Expr) (t : TGs) : Prop where
  h : PGs X es t
structure QI (X : Cx) (tg e : Expr) (t : TI) : Prop where
  h : PI X tg e t
structure QC (X : Cx) (cs : List Expr) (t : TT) : Prop where
  h : PTs X cs t
section
variable {X : Cx} {i : Nat} {x : Str} {pos pos' p tpos : Pos} {e a b c o : Expr} {es rest : List Expr} {te ta tb tc to ti : TE} {tA tB' : TT} {t : TA} {k n kk : Nat} {ps : List Str} {sp : Sp} {id T : String} {r : List V → Hp → VK → Prop} {st : Stmt} {sts : List Stmt} {ts us : TS} {tg iter : Expr} {wi : TI} {g : TG} {gs : TGs}
theorem qe_n (h : Nm X.N X.env.scope i x) : QE X (.Name x pos) (tVar i) := ⟨pn h⟩
theorem qe_v (i : Nat) {x : Str} {pos : Pos} (hN : X.N[i]? = some x := by rfl) (hv : Vis X.env.scope x := by first | exact Or.inl rfl | exact Or.inr (Or.inl rfl) | exact Or.inr (Or.inr rfl)) (hd : (x == ("__debug__" : Str)) = false := by decide)
    (hcd : (x == ("__classdict__" : Str)) = false := by decide) : QE X (.Name x pos) (tVar i) := ⟨pe_var hN hv hd hcd⟩
theorem qe_int {i j pos} : QE X (.Constant (.int i) j pos) (tC (.int i)) := ⟨pe_int⟩
theorem qe_bl {b j pos} : QE X (.Constant (.bool b) j pos) (tC (.bl b)) := ⟨pe_bl⟩
theorem qe_non {j pos} : QE X (.Constant .none j pos) (tC .non) := ⟨pe_non⟩
theorem qe_str {x j pos} : QE X (.Constant (.str x) j pos) (tC (.str x)) := ⟨pe_str⟩
theorem qe_op {op : Operator} {r : R2} (ho : OpR X (binaryOp op) r) (ha : QE X a ta) (hb : QE X b tb) : QE X (.BinOp a op b pos) (tOp r ta tb) := ⟨pe_op ho ha.h hb.h⟩
theorem qe_un {op : UnaryOp} {r : V → Hp → VK → Prop} (ho : UnR X (unaryOp op) r) (ha : QE X a ta) : QE X (.UnaryOp op a pos) (tUn r ta) := ⟨pe_un ho ha.h⟩
theorem qe_not (ha : QE X a ta) : QE X (.UnaryOp .Not a pos) (tNotV ta) := ⟨pe_not ha.h⟩
theorem qe_cmp {op : CmpOp} {r : R2} (ho : OpR X (compareOp op) r) (ha : QE X a ta) (hb : QE X b tb) (hm : behindInMarks op b = false) : QE X (.Compare a [op] [b] pos) (tOp r ta tb) := ⟨pe_cmpR ho ha.h hb.h hm⟩
theorem qt_cmp {op : CmpOp} {r : R2} (ho : OpR X (compareOp op) r) (ha : QE X a ta) (hb : QE X b tb) (hm : behindInMarks op b = false) : QT X (.Compare a [op] [b] pos) (tTest (tOp r ta tb)) := ⟨pt_cmpR ho ha.h hb.h hm⟩
theorem qe_chain {op op' : CmpOp} {r r' : R2} (ho : OpR X (compareOp op) r) (ho' : OpR X (compareOp op') r') (ha : QE X a ta) (hb : QE X b tb) (hc : QE X c tc)
    (hm : lastMarks [op, op'] [b, c] = false := by with_unfolding_all rfl) : QE X (.Compare a [op, op'] [b, c] pos) (tChain r r' ta tb tc) := ⟨pe_chain ho ho' ha.h hb.h hc.h hm⟩
theorem qt_chain {op op' : CmpOp} {r r' : R2} (ho : OpR X (compareOp op) r) (ho' : OpR X (compareOp op') r') (ha : QE X a ta) (hb : QE X b tb) (hc : QE X c tc)
    (hm : lastMarks [op, op'] [b, c] = false := by with_unfolding_all rfl) : QT X (.Compare a [op, op'] [b, c] pos) (tTest (tChain r r' ta tb tc)) := ⟨pt_chain ho ho' ha.h hb.h hc.h hm⟩
theorem qe_one {op} (h : QE X a ta) : QE X (.BoolOp op [a] pos) ta := ⟨pe_one h.h⟩
theorem qe_and (ha : QE X a ta) (hb : QE X (.BoolOp .And (b :: rest) pos) tb) : QE X (.BoolOp .And (a :: b :: rest) pos) (tAndV ta tb) := ⟨pe_and ha.h hb.h⟩
theorem qe_if (hc : QT X c tA) (ha : QE X a ta) (hb : QE X b tb) : QE X (.IfExp c a b pos) (tIf tA ta tb) := ⟨pe_ifExp hc.h ha.h hb.h⟩
theorem qe_ix {r : R2} (hr : IxR X r) (ha : QE X a ta) (hb : QE X b tb) (hs : PlainIx b) : QE X (.Subscript a b pos) (tOp r ta tb) := ⟨pe_ix hr ha.h hb.h hs⟩
theorem qe_lst (h : QA X es t) : QE X (.List es pos) (tLst t) := ⟨pe_lst h.h⟩
theorem qe_tup {x1} (h : QA X es t) : QE X (.Tuple es x1 pos) (tTup t) := ⟨pe_tup h.h⟩
theorem qa_nil : QA X [] tNil := ⟨pa_nil⟩
theorem qa_cons (ha : QE X e te) (hr : QA X es t) (hs : starEach (e :: es) X.env = (false, eval e X.env) :: starEach es X.env := by rfl) : QA X (e :: es) (tCons te t) := ⟨pa_cons ha.h hr.h hs⟩
theorem qe_cl (C : Cal X.prog X.w X.K X.mg X.base x k ps sp) (hr : Room k X.A) (hg : Gl X x) (hdb : Bn x) (ha : QA X (e :: es) t)
    (he : starEach (e :: es) X.env = (false, eval e X.env) :: starEach es X.env := by rfl) (hpl : (backTo pos (starEach es X.env)).any (·.1) = false := by rfl) : QE X (.Call (.Name x p) (e :: es) [] pos) (tCall sp [] E0 t) := ⟨pe_cl C hr hg hdb ha.h he hpl⟩
theorem qe_cb (hc : CallR X (.builtin id) r) (hg : Gl X x) (hm : X.mg x = none) (hv : bootBuiltins x = some (.builtin id)) (b : Bn x) (ha : QA X (e :: es) t)
    (he : starEach (e :: es) X.env = (false, eval e X.env) :: starEach es X.env := by rfl) (hpl : (backTo pos (starEach es X.env)).any (·.1) = false := by rfl) : QE X (.Call (.Name x p) (e :: es) [] pos) (tCB r t) := ⟨pe_cb hc hg hm hv b ha.h he hpl⟩
theorem qe_ct (hc : CallR X (.type T) r) (hg : Gl X x) (hm : X.mg x = none) (hv : bootBuiltins x = some (.type T)) (b : Bn x) (ha : QA X (e :: es) t)
    (he : starEach (e :: es) X.env = (false, eval e X.env) :: starEach es X.env := by rfl) (hpl : (backTo pos (starEach es X.env)).any (·.1) = false := by rfl) : QE X (.Call (.Name x p) (e :: es) [] pos) (tCB r t) := ⟨pe_ct hc hg hm hv b ha.h he hpl⟩
theorem qe_bt (n : String) (hg : Gl X x) (hm : X.mg x = none) (hv : bootBuiltins x = some (.type n)) (b : Bn x) : QE X (.Name x pos) (tC (.ty n)) := ⟨pe_bt n hg hm hv b⟩
theorem qt_not (ha : QT X a tA) : QT X (.UnaryOp .Not a pos) (tNot tA) := ⟨pt_not ha.h⟩
theorem qt_val (h : QE X e te) (he : ∀ whole, isTrue e X.env whole = (do let v ← whole; standAt e.pos; holding [v] (truthy v)) := by intro _; rfl) : QT X e (tB te) := ⟨pt_val h.h he⟩
theorem qw_and1 (ha : QT X a tA) : QW X (.BoolOp .And [a] pos) tA := ⟨pw_and1 ha.h⟩
theorem qw_or1 (ha : QT X a tA) : QW X (.BoolOp .Or [a] pos) tA := ⟨pw_or1 ha.h⟩
theorem qw_and (ha : QT X a tA) (hb : QW X (.BoolOp .And (b :: rest) pos) tB') : QW X (.BoolOp .And (a :: b :: rest) pos) (tAnd tA tB') := ⟨pw_and ha.h hb.h⟩
theorem qw_or (ha : QT X a tA) (hb : QW X (.BoolOp .Or (b :: rest) pos) tB') : QW X (.BoolOp .Or (a :: b :: rest) pos) (tOr tA tB') := ⟨pw_or ha.h hb.h⟩
theorem qt_w (h : QW X e tA) : QT X e tA := ⟨h.h.pt⟩
theorem qb_nil : QB X [] tNext := ⟨pss_nil⟩
theorem qb_one (h : QS X st ts) : QB X [st] ts := ⟨pss_one h.h⟩
theorem qb_cons (h : QS X st ts) (h2 : QB X sts us) : QB X (st :: sts) (tSeq ts us) := ⟨pss_cons h.h h2.h⟩
theorem qs_ret (he : QE X e te) : QS X (.Return (some e) pos) (tRet te) := ⟨ps_ret he.h⟩
theorem qs_if {c : Expr} {a b : List Stmt} {tc : TT} (hc : QT X c tc) (ha : QB X a ts) (hb : QB X b us) : QS X (.If c a b pos) (tIfS tc ts us) := ⟨ps_if hc.h ha.h hb.h⟩
theorem qs_expr (he : QE X e te) (hs : swapsWith e none pos.line X.env = pure false := by rfl) : QS X (.Expr e pos) (tDrop te) := ⟨ps_expr he.h hs⟩
theorem qs_st (h : Nm X.N X.env.scope i x) (hN : X.N.Nodup) (he : QE X e te) (hs : swapsWith e (some (.Name x pos')) pos.line X.env = pure false := by rfl) (hf : X.fn x = true ∨ X.env.scope.names.lookup x = some .local := by exact .inl rfl) :
    QS X (.Assign [.Name x pos'] e pos) (tAsg te (gName i)) := ⟨ps_st h hN he.h hs hf⟩
theorem qs_asg (he : QE X e te) (hg : QG X tg g) (hs : swapsWithSole [tg] e pos.line X.env = pure false := by rfl) (hw : swappedStores [tg] e X.env = pure none := by rfl)
    (h1 : (assignEach [tg] X.env).map (·.2) = [assign tg X.env] := by rfl) : QS X (.Assign [tg] e pos) (tAsg te g) := ⟨ps_asg he.h hg.h hs hw h1⟩
theorem qs_par {i j : Nat} {x y : Str} {a b : Expr} {ta : TA} {px py pt : Pos} {kt k2 pt2} (hc : X.calm = true) (hN : X.N.Nodup) (hi : X.N[i]? = some x) (hj : X.N[j]? = some y) (hij : i ≠ j)
    (hx : X.env.scope.names.lookup x = some .local) (hy : X.env.scope.names.lookup y = some .local) (ha : QA X [a, b] ta)
    (hw : swappedStores [.Tuple [.Name x px, .Name y py] kt pt] (.Tuple [a, b] k2 pt2) X.env = pure (some [x, y]))
    (hs : swapsWithSole [.Tuple [.Name x px, .Name y py] kt pt] (.Tuple [a, b] k2 pt2) pos.line X.env = pure false := by rfl) :
    QS X (.Assign [.Tuple [.Name x px, .Name y py] kt pt] (.Tuple [a, b] k2 pt2) pos) (tPar i j ta) := ⟨ps_par hc hN hi hj hij hx hy ha.h hw hs⟩
theorem qs_while {c : Expr} {body : List Stmt} {tc : TT} (hp : PassesOwn (model X.prog X.w) X.A X.env X.xe) (hc : QT X c tc) (hb : QB X body ts) : QS X (.While c body [] pos) (tWhile tc ts) := ⟨ps_while hp hc.h hb.h⟩
theorem qs_for {body : List Stmt} (hp : PassesOwn (model X.prog X.w) X.A X.env X.xe) (hc : X.calm = true) (hi : QI X tg iter wi) (hg : QG X tg g) (hb : QB X body ts)
    (hs : ∀ x, foldedSetIterable iter X.env x = pure x := by intro _; rfl) : QS X (.For tg iter body [] pos) (tFor wi g ts) := ⟨ps_for hp hc hi.h hg.h hb.h hs⟩
theorem qg_nm (h : Nm X.N X.env.scope i x) (hN : X.N.Nodup) (hf : X.fn x = true ∨ X.env.scope.names.lookup x = some .local := by exact .inl rfl) : QG X (.Name x pos) (gName i) := ⟨pg_nm h hN hf⟩
theorem qg_name (i : Nat) (hN : X.N.Nodup) (hi : X.N[i]? = some x) (hx : Loc X.env.scope x) (hf : X.fn x = true ∨ X.env.scope.names.lookup x = some .local := by first | exact .inl rfl | exact .inr rfl) : QG X (.Name x pos) (gName i) := ⟨pg_name hN hi hx hf⟩
theorem qgs_nil : QGs X [] gNil := ⟨pgs_nil⟩
theorem qgs_cons (h1 : QG X e g) (h2 : QGs X es gs) (hs : (assignEach (e :: es) X.env).map (·.2) = assign e X.env :: (assignEach es X.env).map (·.2) := by rfl) : QGs X (e :: es) (gCons g gs) := ⟨pgs_cons h1.h h2.h hs⟩
theorem qg_tup {n : Nat} (hc : X.calm = true) (h : QGs X es gs) (hn : (assignEach es X.env).length = n := by rfl) (hst : (assignEach es X.env).findIdx? (·.1) = none := by rfl) : QG X (.Tuple es k pos) (gTupD n gs) := ⟨pg_tupD hc h.h hn hst⟩
theorem asg_subC (o : Expr) (c j) (p pos : Pos) (env : Env) (v : Value) : assign (.Subscript o (.Constant c j p) pos) env v = (do
      let ov ← holding [v] (eval o env)
      let iv ← holding [v, ov] (eval (.Constant c j p) env)
      standAt pos
      holding [v, ov, iv] (setItem ov iv v)
      release [v, ov, iv] []) := rfl
theorem asg_subN (o : Expr) (y) (p pos : Pos) (env : Env) (v : Value) : assign (.Subscript o (.Name y p) pos) env v = (do
      let ov ← holding [v] (eval o env)
      let iv ← holding [v, ov] (eval (.Name y p) env)
      standAt pos
      holding [v, ov, iv] (setItem ov iv v)
      release [v, ov, iv] []) := rfl
theorem qg_subC {c j} {t : TSet} (ho : QE X o to) (hi : QE X (.Constant c j p) ti) (hs : PSet X t) : QG X (.Subscript o (.Constant c j p) pos) (gSub to ti t) := ⟨pg_sub ho.h hi.h hs (fun v => asg_subC o c j p pos X.env v)⟩
theorem qg_subN {y} {t : TSet} (ho : QE X o to) (hi : QE X (.Name y p) ti) (hs : PSet X t) : QG X (.Subscript o (.Name y p) pos) (gSub to ti t) := ⟨pg_sub ho.h hi.h hs (fun v => asg_subN o y p pos X.env v)⟩
theorem qi_range1 (hg : Gl X "range") (hm : X.mg "range" = none) (ha : QA X [a] t) (hs : starEach [a] X.env = [(false, eval a X.env)] := by rfl) : QI X tg (.Call (.Name "range" p) [a] [] pos) (iRng1 t) := ⟨pi_range1 hg hm ha.h hs⟩
theorem qc_nil : QC X [] tYes := ⟨pts_nil⟩
theorem qc_one (h : QT X c tA) : QC X [c] tA := ⟨pts_one h.h⟩
theorem qe_comp {NX : List Str} {kX : List (Str × NameKind)} {scope : Scope} {elt : Expr} {ifs : List Expr} {tc : TT} (N : List Str) (mp : List (Option Nat)) (hNX : X.N = NX) (hkX : X.env.scope.names = kX) (S : CmpSc NX kX N mp scope) (hc : X.calm = true)
    (hi : QI X tg iter wi) (hg : ∀ cl C s H fp, QG (cmpCx X N scope cl C s H fp) tg g) (ht : ∀ cl C s H fp, QC (cmpCx X N scope cl C s H fp) ifs tc) (he : ∀ cl C s H fp, QE (cmpCx X N scope cl C s H fp) elt te)
    (hs : ∀ x, foldedSetIterable iter X.env x = pure x := by intro _; rfl) : QE X (.ListComp elt [⟨tg, iter, ifs, 0⟩] scope pos) (tComp mp wi g tc te) :=
  ⟨pe_comp N mp hNX hkX S hc hi.h (fun cl C s H fp => (hg cl C s H fp).h) (fun cl C s H fp => (ht cl C s H fp).h) (fun cl C s H fp => (he cl C s H fp).h) hs⟩
end
section
variable {P : Program} {w : World} {K : PySem.W.Frag} {mg : Str → Option Value} {base : Heap}
theorem Fun.okq {x qual : Str} {st : Stmt} {f : Addr} {fd : FuncData} {N ps : List Str} {k : Nat} {sp : Sp} (F : Fun K x qual st f fd) (S : FnScope N ps (defScope st)) (len : ∀ vs H Q E, sp vs H Q E → vs.length = ps.length)
    (hbody : ∀ (cdv : Value) (A : Around) (outer : List Env) (s : Shared) (H : Hp) (vs : List V) (Q : VK) (E : XK), Room k (A.deeper (envOfC qual (defScope st) s.heap.objs.size f cdv)) → sp vs H Q E →
      ∃ t, QB (cxOf CX0 P w K mg base N qual (defScope st) f cdv A outer s H E).nox (defBody st) t ∧ t { nx := fun _ H' => Q .non H', rt := Q } (L2.start N vs) H) : FnOk P w K mg base CX0 (k + 1) f fd ps sp :=
  F.ok S len fun cdv A outer s H vs Q E hr hsp => by
    obtain ⟨t, h, q⟩ := hbody cdv A outer s H vs Q E hr hsp
    exact ⟨t, h.h, q⟩
end
end L2
namespace L2
open PySem PySem.Spec PyProof.Rows
theorem preSum_sum : ∀ (ns : List Int), preSum (fun i => (ns[i]?).getD 0) ns.length = ns.sum := by
  have key : ∀ (f : Nat → Int) (n : Nat), preSum f (n + 1) = preSum f n + f n := fun f n => rfl
  have key2 : ∀ (n : Nat) (f g : Nat → Int), (∀ i, i < n → f i = g i) → preSum f n = preSum g n := by
    intro n
    induction n with
    | zero => intros; rfl
    | succ n ih => intro f g h; rw [key, key, ih f g fun i hi => h i (Nat.lt_succ_of_lt hi), h n (Nat.lt_succ_self n)]
  have key3 : ∀ (n : Nat) (f : Nat → Int), preSum f (n + 1) = f 0 + preSum (fun i => f (i + 1)) n := by
    intro n
    induction n with
    | zero => intro f; show (0 : Int) + f 0 = f 0 + 0; omega
    | succ n ih => intro f; rw [key, ih, key]; omega
  intro ns
  induction ns with
  | nil => rfl
  | cons a r ih =>
    rw [List.length_cons, key3, List.sum_cons, ← ih]
    rfl
def smq (o : Option HO) (H : Hp) (Q : VK) : Prop := match o with
  | some (.lst xs) => ∃ ns : List Int, xs = ns.map V.int ∧ Q (.int ns.sum) H
  | _ => False
def rSumD : List V → Hp → VK → Prop := fun xs H Q => match xs with
  | [.ref p] => smq (H p) H Q
  | _ => False
theorem rSumD_ref (p : Addr) (H : Hp) (Q : VK) : rSumD [.ref p] H Q = smq (H p) H Q := rfl
theorem smq_lst (xs : List V) (H : Hp) (Q : VK) : smq (some (.lst xs)) H Q = ∃ ns : List Int, xs = ns.map V.int ∧ Q (.int ns.sum) H := rfl
section
variable {X : Cx}
theorem call_sumD (hc : X.calm = true) : CallR X (.builtin "sum") rSumD := by
  intro pins s σ H xs us Q I r h
  unfold rSumD at h
  split at h
  · rename_i p
    unfold smq at h
    split at h
    · rename_i ys e
      obtain ⟨ns, rfl, q⟩ := h
      cases r with
      | cons r rr =>
        cases rr
        cases r
        obtain ⟨its, rv, pl, hz⟩ := I.list (SqL.of e)
        have hl := rv.length
        have lt : p < s.heap.objs.size := by obtain ⟨_, e, _⟩ := pl.isList; exact Heap.lt_size e
        refine call_sum_walkG (wpAny_pyIter_list pl.isList ?_)
        refine ⟨s.heap.objs.size, [s.heap.objs.size, p], [s.heap.objs.size], its.toArray.size, _, _, fun i => (ns[i]?).getD 0, rfl, Walks.list (A := X.A.in1) (I.ok.hd hc) _ p (Nat.ne_of_lt lt) _,
          ⟨⟨_, Heap.get?_push_size _ rfl, rfl, rfl⟩, pl.isList.push _⟩, ?_, fun i v hP => ?_, fun h' tk t' hk => ?_⟩
        · intro b hb
          rw [Heap.size_push]
          simp only [List.mem_cons, List.not_mem_nil, or_false] at hb
          rcases hb with rfl | rfl
          · exact Nat.lt_succ_self _
          · exact Nat.lt_succ_of_lt lt
        · have e1 : its[i]? = some v := by simpa using hP
          have hi : i < its.length := by
            rcases Nat.lt_or_ge i its.length with z | z
            · exact z
            · rw [List.getElem?_eq_none z] at e1; cases e1
          have hi2 : i < ns.length := by rw [← hl, List.length_map] at hi; exact hi
          obtain ⟨u, hu, ru⟩ := rv.get (i := i) (x := .int ns[i]) (by rw [List.getElem?_map, List.getElem?_eq_getElem hi2]; rfl)
          rw [e1] at hu
          cases hu
          obtain ⟨t, rfl⟩ := ru
          exact ⟨t, by show _ = Value.int ((ns[i]?).getD 0) t; rw [List.getElem?_eq_getElem hi2]; rfl⟩
        · have e2 : its.toArray.size = ns.length := by rw [List.size_toArray, ← hl, List.length_map]
          rw [e2, preSum_sum]
          refine ⟨.int _, H, I.kept fun b o e => hk b o (fun hm => ?_) (Heap.get?_push_of_some _ e), ⟨t', rfl⟩, q⟩
          rw [List.mem_singleton.mp hm] at e
          exact Nat.lt_irrefl _ (Heap.lt_size e)
    · exact h.elim
  · exact h.elim
def rngV (i : Int) (n : Nat) : List V := (List.range n).map fun k => V.int (i + (k : Nat))
def tLRng (ta : TA) : TE := fun σ H Q => ta σ H fun vs H1 => ∃ i j : Int, vs = [.int i, .int j] ∧ (-(2 ^ 62) ≤ i ∧ i < 2 ^ 62 ∧ -(2 ^ 62) ≤ j ∧ j < 2 ^ 62) ∧ (j - i).toNat ≤ sizeLine ∧ ∀ p, H1 p = none → Q (.ref p) (upd H1 p (.lst (rngV i (j - i).toNat)))
def adq (a b : Option HO) (H : Hp) (Q : VK) : Prop := match a, b with
  | some (.lst xs), some (.lst zs) => xs.length + zs.length ≤ sizeLine ∧ ∀ p, H p = none → Q (.ref p) (upd H p (.lst (xs ++ zs)))
  | _, _ => False
def rAddD : R2 := fun x y H Q => match x, y with
  | .int i, .int j => Q (.int (i + j)) H
  | .ref p, .ref q => adq (H p) (H q) H Q
  | _, _ => False
theorem rAddD_i (i j : Int) (H : Hp) (Q : VK) : rAddD (.int i) (.int j) H Q = Q (.int (i + j)) H := rfl
theorem rAddD_r (p q : Addr) (H : Hp) (Q : VK) : rAddD (.ref p) (.ref q) H Q = adq (H p) (H q) H Q := rfl
theorem adq_ll (xs zs : List V) (H : Hp) (Q : VK) : adq (some (.lst xs)) (some (.lst zs)) H Q = (xs.length + zs.length ≤ sizeLine ∧ ∀ p, H p = none → Q (.ref p) (upd H p (.lst (xs ++ zs)))) := rfl
theorem op_addD : OpR X (binaryOp .Add) rAddD := by
  intro pins s σ H x y v u Q I rx ry h
  unfold rAddD at h
  split at h
  · exact op_add pins s σ H _ _ v u Q I rx ry ⟨_, _, rfl, rfl, h⟩
  · rename_i p q
    unfold adq at h
    split at h
    · rename_i xs zs e1 e2
      exact op_cat pins s σ H _ _ v u Q I rx ry ⟨p, q, xs, zs, rfl, rfl, e1, e2, h.1, h.2⟩
    · exact h.elim
  · exact h.elim
def eqL : List V → List V → Bool
  | [], [] => true
  | x :: xs, y :: ys => eqV x y && eqL xs ys
  | _, _ => false
def neq' (a b : Option HO) (H : Hp) (Q : VK) : Prop := match a, b with
  | some (.lst xs), some (.lst zs) => xs.all flatV = true ∧ zs.all flatV = true ∧ Q (.bl (!eqL xs zs)) H
  | _, _ => False
def rNeD : R2 := fun x y H Q => match x, y with
  | .ref p, .ref q => neq' (H p) (H q) H Q
  | x, y => rNe x y H Q
theorem rNeD_r (p q : Addr) (H : Hp) (Q : VK) : rNeD (.ref p) (.ref q) H Q = neq' (H p) (H q) H Q := rfl
theorem rNeD_i (i j : Int) (H : Hp) (Q : VK) : rNeD (.int i) (.int j) H Q = rNe (.int i) (.int j) H Q := rfl
theorem rNeD_b (i j : Bool) (H : Hp) (Q : VK) : rNeD (.bl i) (.bl j) H Q = rNe (.bl i) (.bl j) H Q := rfl
theorem rNeD_s (i j : Str) (H : Hp) (Q : VK) : rNeD (.str i) (.str j) H Q = rNe (.str i) (.str j) H Q := rfl
theorem neq'_ll (xs zs : List V) (H : Hp) (Q : VK) : neq' (some (.lst xs)) (some (.lst zs)) H Q = (xs.all flatV = true ∧ zs.all flatV = true ∧ Q (.bl (!eqL xs zs)) H) := rfl
theorem eqL_all : ∀ (xs zs : List V), xs.length = zs.length → ((List.range xs.length).all fun j => match xs[j]?, zs[j]? with | some a, some b => eqV a b | _, _ => true) = eqL xs zs
  | [], [], _ => rfl
  | [], _ :: _, h => by cases h
  | _ :: _, [], h => by cases h
  | x :: xs, z :: zs, h => by
    have ih := eqL_all xs zs (by simpa using h)
    rw [List.length_cons, List.range_succ_eq_map, List.all_cons, List.all_map]
    show (eqV x z && _) = (eqV x z && eqL xs zs)
    rw [← ih]
    rfl
theorem eqL_len : ∀ (xs zs : List V), xs.length ≠ zs.length → eqL xs zs = false
  | [], [], h => absurd rfl h
  | [], _ :: _, _ => rfl
  | _ :: _, [], _ => rfl
  | x :: xs, z :: zs, h => by
    show (eqV x z && eqL xs zs) = false
    rw [eqL_len xs zs (by simpa using h), Bool.and_false]
theorem op_neD (hu : X.A.units < cLine) : OpR X (compareOp .NotEq) rNeD := by
  intro pins s σ H x y v u Q I rx ry h
  unfold rNeD at h
  split at h
  · rename_i p q
    unfold neq' at h
    split at h
    · rename_i xs zs e1 e2
      obtain ⟨f1, f2, q⟩ := h
      cases rx
      cases ry
      obtain ⟨its1, r1, pl1, hz1⟩ := I.list (SqL.of e1)
      obtain ⟨its2, r2, pl2, hz2⟩ := I.list (SqL.of e2)
      have l1 := r1.length
      have l2 := r2.length
      by_cases hl : xs.length = zs.length
      · refine SeqAt.RcNeAt.lists (e := fun j => match xs[j]?, zs[j]? with | some a, some b => eqV a b | _, _ => true) pl1.isList pl2.isList (by simp only [List.size_toArray]; omega) hu (fun j h1 h2 => ?_) X.prog X.w X.xe (EP X pins σ Q) ?_
        · have j1 : j < xs.length := by simp only [List.size_toArray] at h1; omega
          have j2 : j < zs.length := by omega
          have g1 : xs[j]? = some xs[j] := List.getElem?_eq_getElem j1
          have g2 : zs[j]? = some zs[j] := List.getElem?_eq_getElem j2
          obtain ⟨u1, hu1, ru1⟩ := r1.get g1
          obtain ⟨u2, hu2, ru2⟩ := r2.get g2
          have k1 : its1.toArray[j] = u1 := by
            have := List.getElem?_eq_some_iff.mp hu1
            obtain ⟨_, z⟩ := this
            simpa using z
          have k2 : its2.toArray[j] = u2 := by
            have := List.getElem?_eq_some_iff.mp hu2
            obtain ⟨_, z⟩ := this
            simpa using z
          rw [k1, k2, g1, g2]
          exact eqAt_V ru1 ru2 (List.all_eq_true.mp f1 _ (List.getElem_mem j1)) (List.all_eq_true.mp f2 _ (List.getElem_mem j2))
        · rw [show its1.toArray.size = xs.length by simp only [List.size_toArray]; omega, eqL_all xs zs hl]
          exact ⟨.bl _, H, I, rfl, q⟩
      · rw [eqL_len xs zs hl] at q
        refine SeqAt.RcNeAt.lists_lengths pl1.isList pl2.isList (by simp only [List.size_toArray, bne_iff_ne, ne_eq]; omega) hu X.prog X.w X.xe (EP X pins σ Q) ⟨.bl _, H, I, rfl, q⟩
    · exact h.elim
  · exact op_ne pins s σ H _ _ v u Q I rx ry h
def inq (neg : Bool) (o : Option HO) (x : V) (H : Hp) (Q : VK) : Prop := match o with
  | some (.lst xs) => flatV x = true ∧ xs.all flatV = true ∧ Q (.bl (if neg then !inV x xs else inV x xs)) H
  | some (.tup xs) => flatV x = true ∧ xs.all flatV = true ∧ Q (.bl (if neg then !inV x xs else inV x xs)) H
  | _ => False
def rInD (neg : Bool) : R2 := fun x y H Q => match y with
  | .ref p => inq neg (H p) x H Q
  | _ => False
theorem rInD_r (neg : Bool) (x : V) (p : Addr) (H : Hp) (Q : VK) : rInD neg x (.ref p) H Q = inq neg (H p) x H Q := rfl
theorem inq_l (neg : Bool) (x : V) (xs : List V) (H : Hp) (Q : VK) : inq neg (some (.lst xs)) x H Q = (flatV x = true ∧ xs.all flatV = true ∧ Q (.bl (if neg then !inV x xs else inV x xs)) H) := rfl
theorem inq_t (neg : Bool) (x : V) (xs : List V) (H : Hp) (Q : VK) : inq neg (some (.tup xs)) x H Q = (flatV x = true ∧ xs.all flatV = true ∧ Q (.bl (if neg then !inV x xs else inV x xs)) H) := rfl
end
theorem atI_m1_2 {α : Type} (a b : α) : atI [a, b] (-1) = some b := rfl
theorem atI_m1_3 {α : Type} (a b c : α) : atI [a, b, c] (-1) = some c := rfl
end L2
namespace L2
open PySem PySem.Spec PyProof.Rows
structure TapeAt (H : Hp) (p : Addr) (B : Int) : Prop where
  ex : ∃ a b c : Int, H p = some (.lst [.int a, .int b, .int c]) ∧ 0 ≤ a ∧ 0 ≤ b ∧ b < 2147483629 ∧ 0 ≤ c ∧ c ≤ B
theorem TapeAt.same {H H' : Hp} {p : Addr} {B : Int} (h : TapeAt H p B) (s : Same H H') : TapeAt H' p B := by
  obtain ⟨a, b, c, e, r⟩ := h
  exact ⟨a, b, c, s _ _ e, r⟩
theorem TapeAt.le {H : Hp} {p : Addr} {B B' : Int} (h : TapeAt H p B) (l : B ≤ B') : TapeAt H p B' := by
  obtain ⟨a, b, c, e, r1, r2, r3, r4, r5⟩ := h
  exact ⟨a, b, c, e, r1, r2, r3, r4, by omega⟩
theorem TapeAt.ne {H : Hp} {p q : Addr} {B : Int} (h : TapeAt H p B) (n : H q = none) : q ≠ p := by
  obtain ⟨a, b, c, e, _⟩ := h
  exact (ne_of_none e n).symm
theorem two_pow_pos (k : Nat) : (0 : Int) < 2 ^ k := Int.pow_pos (by decide)
def spCell (K : PySem.W.Frag) : Sp := fun vs H Q _ => ∃ (a : Addr) (ns : List Int) (k : Int), vs = [.ref a, .int k] ∧ SqL K H a (ns.map V.int) ∧ 0 ≤ k ∧ ∀ v : Int, Q (.int v) H
def spTape (K : PySem.W.Frag) : Sp := fun vs H Q _ => ∃ (a : Addr) (ns : List Int) (k : Int), vs = [.ref a, .int k] ∧ SqL K H a (ns.map V.int) ∧ 0 ≤ k ∧ k ≤ 100 ∧ ∀ p H', H p = none → Same H H' → TapeAt H' p 0 → Q (.ref p) H'
def spTake (n : Nat) : Sp := fun vs H Q _ => ∃ (p : Addr) (m B : Int), vs = [.ref p, .int m] ∧ TapeAt H p B ∧ B + (n : Int) ≤ 1000100 ∧ 0 < m ∧ m < 2 ^ 70 ∧ 1 ≤ n ∧ (1000000 ≤ m → 2 ≤ n) ∧
  ∀ r H', 0 ≤ r → r < m → SameX p H H' → TapeAt H' p (B + n) → Q (.int r) H'
theorem primes (c : Int) : ∃ v : Int, atI [V.int 2147483587, V.int 2147483579, V.int 2147483563, V.int 2147483549, V.int 2147483543, V.int 2147483497, V.int 2147483489] (c % 7) = some (.int v) ∧ 0 < v := by
  have h1 : 0 ≤ c % 7 := Int.emod_nonneg _ (by decide)
  have h2 : c % 7 < 7 := Int.emod_lt_of_pos _ (by decide)
  generalize c % 7 = d at h1 h2
  have h3 : d = 0 ∨ d = 1 ∨ d = 2 ∨ d = 3 ∨ d = 4 ∨ d = 5 ∨ d = 6 := by omega
  rcases h3 with rfl | rfl | rfl | rfl | rfl | rfl | rfl
  · exact ⟨_, atI_nat (j := 0) rfl, by decide⟩
  · exact ⟨_, atI_nat (j := 1) rfl, by decide⟩
  · exact ⟨_, atI_nat (j := 2) rfl, by decide⟩
  · exact ⟨_, atI_nat (j := 3) rfl, by decide⟩
  · exact ⟨_, atI_nat (j := 4) rfl, by decide⟩
  · exact ⟨_, atI_nat (j := 5) rfl, by decide⟩
  · exact ⟨_, atI_nat (j := 6) rfl, by decide⟩
theorem ex_pair {a b : V} {P : V → V → Prop} : (∃ v w, (a = v ∧ b = w) ∧ P v w) = P a b := propext ⟨fun ⟨_, _, ⟨h1, h2⟩, h⟩ => h1 ▸ h2 ▸ h, fun h => ⟨a, b, ⟨rfl, rfl⟩, h⟩⟩
inductive It1 where
  | one (a : Int)
  | rng (a b : Int)
  | bits (m v : Nat)
def itV : It1 → List V
  | .one a => [.str "is", .int a]
  | .rng a b => [.str "from", .int a, .int b]
  | .bits m v => [.str "bits", .int m, .int v]
theorem itV_one (a : Int) : itV (.one a) = [.str "is", .int a] := rfl
theorem itV_rng (a b : Int) : itV (.rng a b) = [.str "from", .int a, .int b] := rfl
theorem itV_bits (m v : Nat) : itV (.bits m v) = [.str "bits", .int m, .int v] := rfl
end L2
namespace L2
open PySem PySem.Spec PyProof.Rows
section
variable {mp : List (Option Nat)} {g : TG} {tc : TT} {te : TE} {σ : St} {H : Hp} {Q : VK} {R : It → Hp → Prop} {K : PySem.W.Frag}
theorem comp_r {lo : Int} {n : Nat} (hR : R = CmpW mp g tc te σ Q) (hz : n ≤ sizeLine) (Pv : Nat → List V → St → Hp → Prop) (h0 : Pv 0 [] (subSt mp σ) H) (hl : ∀ i acc τ H, Pv i acc τ H → acc.length ≤ i)
    (hs : ∀ i acc τ H, i < n → Pv i acc τ H → g (.int (lo + i)) τ H fun τ1 H4 => tc τ1 H4 fun b H5 => if b = true then te τ1 H5 fun v H6 => Pv (i + 1) (acc ++ [v]) τ1 H6 else Pv (i + 1) acc τ1 H5)
    (hd : ∀ acc τ H d, Pv n acc τ H → H d = none → Q (.ref d) (upd H d (.lst acc))) : R (Itr lo n) H := by
  refine comp_by hR n hz Pv h0 hl (fun i acc τ H hi _ => hi) (fun acc τ H _ => Nat.le_refl n) (fun i acc τ H x H3 hi p y => ?_) hd
  obtain ⟨rfl, rfl⟩ := y
  exact hs i acc τ _ hi p
theorem comp_l {a : Addr} {xs : List V} (hR : R = CmpW mp g tc te σ Q) (hz : xs.length ≤ sizeLine) (Pv : Nat → List V → St → Hp → Prop) (h0 : Pv 0 [] (subSt mp σ) H) (hl : ∀ i acc τ H, Pv i acc τ H → acc.length ≤ i)
    (hq : ∀ i acc τ H, Pv i acc τ H → SqL K H a xs)
    (hs : ∀ i x acc τ H, xs[i]? = some x → Pv i acc τ H → g x τ H fun τ1 H4 => tc τ1 H4 fun b H5 => if b = true then te τ1 H5 fun v H6 => Pv (i + 1) (acc ++ [v]) τ1 H6 else Pv (i + 1) acc τ1 H5)
    (hd : ∀ acc τ H d, Pv xs.length acc τ H → H d = none → Q (.ref d) (upd H d (.lst acc))) : R (Itl K a) H := by
  refine comp_by hR xs.length hz Pv h0 hl (fun i acc τ H hi p => ⟨xs, xs[i], hq i acc τ H p, List.getElem?_eq_getElem hi⟩) (fun acc τ H p => ⟨xs, hq _ acc τ H p, Nat.le_refl _⟩) (fun i acc τ H x H3 hi p y => ?_) hd
  obtain ⟨rfl, hx⟩ := y
  exact hs i x acc τ _ (hx xs (hq i acc τ _ p)) p
end
end L2
namespace L2
open PySem PySem.Spec PyProof.Rows
section
variable {X : Cx} {pos : Pos}
def tPar3 (i j k : Nat) (ta : TA) : TS := fun D σ H => ta σ H fun vs H1 => ∃ u v w, vs = [u, v, w] ∧ D.nx (((σ.set i (some u)).set j (some v)).set k (some w)) H1
end
theorem gCons_c (g : TG) (gs : TGs) (x : V) (xs : List V) (σ : St) (H : Hp) (Q : St → Hp → Prop) : gCons g gs (x :: xs) σ H Q = g x σ H fun σ1 H1 => gs xs σ1 H1 Q :=
  propext ⟨fun ⟨_, _, e, h⟩ => by cases e; exact h, fun h => ⟨x, xs, rfl, h⟩⟩
theorem gNil_n (σ : St) (H : Hp) (Q : St → Hp → Prop) : gNil [] σ H Q = Q σ H := propext ⟨fun h => h.2, fun h => ⟨rfl, h⟩⟩
theorem ex_pairI {a b : Int} {P : Int → Int → Prop} : (∃ v w, (a = v ∧ b = w) ∧ P v w) = P a b := propext ⟨fun ⟨_, _, ⟨h1, h2⟩, h⟩ => h1 ▸ h2 ▸ h, fun h => ⟨a, b, ⟨rfl, rfl⟩, h⟩⟩
theorem ex_trip {a b c : V} {P : V → V → V → Prop} : (∃ u v w, (a = u ∧ b = v ∧ c = w) ∧ P u v w) = P a b c := propext ⟨fun ⟨_, _, _, ⟨h1, h2, h3⟩, h⟩ => h1 ▸ h2 ▸ h3 ▸ h, fun h => ⟨a, b, c, ⟨rfl, rfl, rfl⟩, h⟩⟩
end L2
namespace L2
open PySem PySem.Spec PyProof.Rows
theorem st_from_is : ((("from" : Str) : Str) = ("is" : Str)) = False := eq_false (by decide +kernel)
theorem st_bits_is : (("bits" : Str) = ("is" : Str)) = False := eq_false (by decide +kernel)
theorem st_bits_from : (("bits" : Str) = ("from" : Str)) = False := eq_false (by decide +kernel)
theorem st_is_from : (("is" : Str) = ("from" : Str)) = False := eq_false (by decide +kernel)
theorem st_is_bits : (("is" : Str) = ("bits" : Str)) = False := eq_false (by decide +kernel)
theorem st_from_bits : (("from" : Str) = ("bits" : Str)) = False := eq_false (by decide +kernel)
theorem ifs_k {tc : TT} {ts us : TS} {D : Ends} {σ : St} {H : Hp} (h : ∀ kt ke, kt = ts D → ke = us D → tc σ H fun b H1 => if b = true then kt σ H1 else ke σ H1) : tIfS tc ts us D σ H := h _ _ rfl rfl
end L2
namespace L2
open PySem PySem.Spec PyProof.Rows
section
variable {X : Cx} {e o : Expr} {te to : TE} {pos : Pos}
def apq (ob : Option HO) (l : Addr) (y : V) (H : Hp) (Q : VK) : Prop := match ob with
  | some (.lst xs) => xs.length < sizeLine ∧ Q .non (upd H l (.lst (xs ++ [y])))
  | _ => False
def isq (ob : Option HO) : Prop := match ob with
  | some (.lst _) => True
  | _ => False
theorem isq_lst (xs : List V) : isq (some (.lst xs)) = True := rfl
theorem apq_lst (xs : List V) (l : Addr) (y : V) (H : Hp) (Q : VK) : apq (some (.lst xs)) l y H Q = (xs.length < sizeLine ∧ Q .non (upd H l (.lst (xs ++ [y])))) := rfl
def appK (x : V) (te : TE) (σ : St) (H1 : Hp) (Q : VK) : Prop := match x with
  | .ref l => isq (H1 l) ∧ te σ H1 fun y H2 => apq (H2 l) l y H2 Q
  | _ => False
def tAppD (to te : TE) : TE := fun σ H Q => to σ H fun x H1 => appK x te σ H1 Q
theorem tAppD_eq (to te : TE) (σ : St) (H : Hp) (Q : VK) : tAppD to te σ H Q = to σ H fun x H1 => appK x te σ H1 Q := rfl
theorem appK_ref (l : Addr) (te : TE) (σ : St) (H1 : Hp) (Q : VK) : appK (.ref l) te σ H1 Q = (isq (H1 l) ∧ te σ H1 fun y H2 => apq (H2 l) l y H2 Q) := rfl
theorem pe_appD {apos cpos : Pos} (ho : PE X o to) (he : PE X e te)
    (hbase : attributeBase o "append" X.env (eval o X.env) = eval o X.env := by rfl)
    (hfew : ((backTo cpos (starEach [e] X.env)).all (fun x => !x.1) && (backToKw cpos (keywordEach [] X.env)).all (fun x => x.1.isSome)
      && decide ([e].length + ([] : List Keyword).length + (if ([] : List Keyword).isEmpty then 0 else 1) < 30)) = true := by rfl)
    (hline : (apos.endLine == cpos.line) = true := by rfl) (hs : starEach [e] X.env = (false, eval e X.env) :: starEach [] X.env := by rfl) (hplain : (backTo cpos (starEach [] X.env)).any (·.1) = false := by rfl) :
    PE X (.Call (.Attribute o "append" apos) [e] [] cpos) (tAppD to te) := by
  intro pins s σ H Q I h
  refine wpAny_Call_method_late hbase hfew hline rfl (thn (ho pins s σ H _ I h) fun v s1 ⟨x, H1, I1, r1, q⟩ => ?_)
  cases x with
  | ref l =>
    obtain ⟨q1, q2⟩ := q
    cases el : H1 l with
    | none => rw [el] at q1; exact q1.elim
    | some ob =>
      cases ob with
      | lst xs =>
        obtain ⟨h1, h2⟩ := tyV_is (T := "list") I1 r1 (.inl ⟨rfl, xs, SqL.of el⟩)
        refine ⟨"list", "list.append", PySem.F.plainAttrs_list, PySem.F.slot_list_append, PySem.F.type_list_append, h1, h2, ?_⟩
        rw [hs]
        refine Calls.callWith_builtin (by show (false || (backTo cpos (starEach [] X.env)).any (·.1)) = false; rw [hplain] <;> rfl) (Calls.evalArgs_plain ?_)
        refine Calls.spliced_cons (thn (he pins s1 σ H1 _ I1 q2) fun u s2 ⟨y, H2, I2, r2, q3⟩ => Calls.spliced_nil ?_)
        replace q3 : apq (H2 l) l y H2 Q := q3
        cases el2 : H2 l with
        | none => rw [el2] at q3; exact q3.elim
        | some ob2 =>
          cases ob2 with
          | lst ys =>
            rw [el2] at q3
            exact mt_append pins s2 σ H2 (.ref l) [y] v [u] Q I2 r1 (.cons r2 .nil) ⟨l, ys, y, rfl, rfl, el2, q3.1, q3.2⟩
          | _ => rw [el2] at q3; exact q3.elim
      | _ => rw [el] at q1; exact q1.elim
  | _ => exact q.elim
theorem qe_appD {apos cpos : Pos} (ho : QE X o to) (he : QE X e te)
    (hbase : attributeBase o "append" X.env (eval o X.env) = eval o X.env := by rfl)
    (hfew : ((backTo cpos (starEach [e] X.env)).all (fun x => !x.1) && (backToKw cpos (keywordEach [] X.env)).all (fun x => x.1.isSome)
      && decide ([e].length + ([] : List Keyword).length + (if ([] : List Keyword).isEmpty then 0 else 1) < 30)) = true := by rfl)
    (hline : (apos.endLine == cpos.line) = true := by rfl) (hs : starEach [e] X.env = (false, eval e X.env) :: starEach [] X.env := by rfl) (hplain : (backTo cpos (starEach [] X.env)).any (·.1) = false := by rfl) :
    QE X (.Call (.Attribute o "append" apos) [e] [] cpos) (tAppD to te) := ⟨pe_appD ho.h he.h hbase hfew hline hs hplain⟩
def slq (ob : Option HO) (lo hi : Option Int) (H : Hp) (Q : VK) : Prop := match ob with
  | some (.lst xs) => ∀ p, H p = none → Q (.ref p) (upd H p (.lst (cutV xs lo hi)))
  | some (.tup xs) => ¬ (HT.sIx xs.length 0 lo = 0 ∧ HT.sIx xs.length xs.length hi = xs.length) ∧ ∀ p, H p = none → Q (.ref p) (upd H p (.tup (cutV xs lo hi)))
  | _ => False
def rSlD : V → Option Int → Option Int → Hp → VK → Prop := fun x lo hi H Q => match x with
  | .ref p => slq (H p) lo hi H Q
  | _ => False
theorem rSlD_ref (p : Addr) (lo hi : Option Int) (H : Hp) (Q : VK) : rSlD (.ref p) lo hi H Q = slq (H p) lo hi H Q := rfl
theorem slq_lst (xs : List V) (lo hi : Option Int) (H : Hp) (Q : VK) : slq (some (.lst xs)) lo hi H Q = ∀ p, H p = none → Q (.ref p) (upd H p (.lst (cutV xs lo hi))) := rfl
theorem slq_tup (xs : List V) (lo hi : Option Int) (H : Hp) (Q : VK) : slq (some (.tup xs)) lo hi H Q = (¬ (HT.sIx xs.length 0 lo = 0 ∧ HT.sIx xs.length xs.length hi = xs.length) ∧ ∀ p, H p = none → Q (.ref p) (upd H p (.tup (cutV xs lo hi)))) := rfl
theorem sl_D : SlR X rSlD := by
  intro pins s σ H x v vl vu lo hi sl Q I rx hs pl pu h
  unfold rSlD at h
  split at h
  · rename_i p
    unfold slq at h
    split at h
    · rename_i xs e
      exact sl_list pins s σ H _ v vl vu lo hi sl Q I rx hs pl pu ⟨p, xs, rfl, SqL.of e, h⟩
    · rename_i xs e
      exact sl_tup pins s σ H _ v vl vu lo hi sl Q I rx hs pl pu ⟨p, xs, rfl, SqT.of e, h.1, h.2⟩
    · exact h.elim
  · exact h.elim
structure QO (X : Cx) (e : Option Expr) (t : TO) : Prop where
  h : PO X e t
theorem qo_none : QO X none tNoPart := ⟨po_none⟩
theorem qo_some (h : QE X e te) : QO X (some e) (tPart te) := ⟨po_some h.h⟩
theorem qe_slice {r : V → Option Int → Option Int → Hp → VK → Prop} {lo hi : Option Expr} {tl th : TO} {p2 : Pos} (hr : SlR X r) (he : QE X e te) (hl : QO X lo tl) (hu : QO X hi th) : QE X (.Subscript e (.Slice lo hi none p2) pos) (tSl r te tl th) := ⟨pe_slice hr he.h hl.h hu.h⟩
def rpq (ob : Option HO) (k : Int) (H : Hp) (Q : VK) : Prop := match ob with
  | some (.lst xs) => -(2 ^ 63) ≤ k ∧ k < 2 ^ 63 ∧ xs.length * k.toNat ≤ sizeLine ∧ ∀ p, H p = none → Q (.ref p) (upd H p (.lst (List.replicate k.toNat xs).flatten))
  | _ => False
def rMulD : R2 := fun x y H Q => match x, y with
  | .ref p, .int k => rpq (H p) k H Q
  | x, y => rI CMul (fun i j => .int (i * j)) x y H Q
theorem rMulD_r (p : Addr) (k : Int) (H : Hp) (Q : VK) : rMulD (.ref p) (.int k) H Q = rpq (H p) k H Q := rfl
theorem rMulD_i (i j : Int) (H : Hp) (Q : VK) : rMulD (.int i) (.int j) H Q = rI CMul (fun i j => .int (i * j)) (.int i) (.int j) H Q := rfl
theorem rpq_lst (xs : List V) (k : Int) (H : Hp) (Q : VK) : rpq (some (.lst xs)) k H Q = (-(2 ^ 63) ≤ k ∧ k < 2 ^ 63 ∧ xs.length * k.toNat ≤ sizeLine ∧ ∀ p, H p = none → Q (.ref p) (upd H p (.lst (List.replicate k.toNat xs).flatten))) := rfl
theorem op_mulD : OpR X (binaryOp .Mult) rMulD := by
  intro pins s σ H x y v u Q I rx ry h
  unfold rMulD at h
  split at h
  · rename_i p k
    unfold rpq at h
    split at h
    · rename_i xs e
      exact op_rep pins s σ H _ _ v u Q I rx ry ⟨p, k, xs, rfl, rfl, e, h.1, h.2.1, h.2.2.1, h.2.2.2⟩
    · exact h.elim
  · exact op_mul pins s σ H _ _ v u Q I rx ry h
def eqo (ob : Option HO) (H : Hp) (Q : VK) : Prop := match ob with
  | some (.lst _) => Q (.bl false) H
  | some (.tup _) => Q (.bl false) H
  | _ => False
def rEqD : R2 := fun x y H Q => match x, y with
  | .ref p, .str _ => eqo (H p) H Q
  | x, y => rEq x y H Q
theorem rEqD_rs (p : Addr) (z : Str) (H : Hp) (Q : VK) : rEqD (.ref p) (.str z) H Q = eqo (H p) H Q := rfl
theorem rEqD_ii (i j : Int) (H : Hp) (Q : VK) : rEqD (.int i) (.int j) H Q = rEq (.int i) (.int j) H Q := rfl
theorem rEqD_bb (i j : Bool) (H : Hp) (Q : VK) : rEqD (.bl i) (.bl j) H Q = rEq (.bl i) (.bl j) H Q := rfl
theorem rEqD_ss (i j : Str) (H : Hp) (Q : VK) : rEqD (.str i) (.str j) H Q = rEq (.str i) (.str j) H Q := rfl
theorem rEqD_is (i : Int) (j : Str) (H : Hp) (Q : VK) : rEqD (.int i) (.str j) H Q = rEq (.int i) (.str j) H Q := rfl
theorem rEqD_bs (i : Bool) (j : Str) (H : Hp) (Q : VK) : rEqD (.bl i) (.str j) H Q = rEq (.bl i) (.str j) H Q := rfl
theorem rEqD_ns (j : Str) (H : Hp) (Q : VK) : rEqD .non (.str j) H Q = rEq .non (.str j) H Q := rfl
theorem rEqD_nn (H : Hp) (Q : VK) : rEqD .non .non H Q = rEq .non .non H Q := rfl
theorem eqo_lst (xs : List V) (H : Hp) (Q : VK) : eqo (some (.lst xs)) H Q = Q (.bl false) H := rfl
theorem eqo_tup (xs : List V) (H : Hp) (Q : VK) : eqo (some (.tup xs)) H Q = Q (.bl false) H := rfl
theorem scal_ns (j : Str) : scal .non (.str j) = true := rfl
theorem scal_bs (i : Bool) (j : Str) : scal (.bl i) (.str j) = true := rfl
theorem op_eqD (hu : X.A.units < cLine) : OpR X (compareOp .Eq) rEqD := by
  intro pins s σ H x y v u Q I rx ry h
  unfold rEqD at h
  split at h
  · rename_i p z
    cases rx
    obtain ⟨t, rfl⟩ := ry
    unfold eqo at h
    split at h
    · rename_i xs e
      obtain ⟨its, r, pl, hz⟩ := I.list (SqL.of e)
      exact SeqAt.RcAt.list_str z t pl.isList hu X.prog X.w X.xe (EP X pins σ Q) ⟨.bl false, H, I, rfl, h⟩
    · rename_i xs e
      obtain ⟨its, r, pl, hz⟩ := I.tuple (SqT.of e)
      exact SeqAt.RcAt.tuple_str z t pl hu X.prog X.w X.xe (EP X pins σ Q) ⟨.bl false, H, I, rfl, h⟩
    · exact h.elim
  · exact op_eq pins s σ H _ _ v u Q I rx ry h
theorem qe_glob {x : Str} {v : V} {u : Value} (hg : Gl X x) (hm : X.mg x = some u) (r : RelV v u) (b : Bn x) : QE X (.Name x pos) (tC v) := ⟨pe_glob hg hm r b.hd⟩
end
end L2
namespace L2
open PySem PySem.Spec PyProof.Rows
section
variable {X : Cx} {a b c d : Expr} {ta tb tc td : TE} {pos : Pos}
def tChain3 (r r' r'' : R2) (ta tb tc td : TE) : TE := fun σ H Q => ta σ H fun x H1 => tb σ H1 fun y H2 => r x y H2 fun z H3 => ∃ k, z = .bl k ∧
  (if k = true then tc σ H3 fun w H4 => r' y w H4 fun z' H5 => ∃ k', z' = .bl k' ∧ (if k' = true then td σ H5 fun w' H6 => r'' w w' H6 Q else Q (.bl false) H5) else Q (.bl false) H3)
end
mutual
inductive TreeAt (ok : Addr → Prop) (H : Hp) : V → PyData → Prop
  | non : TreeAt ok H .non .none
  | bl (b : Bool) : TreeAt ok H (.bl b) (.bool b)
  | int (i : Int) : TreeAt ok H (.int i) (.int i)
  | str (x : Str) : TreeAt ok H (.str x) (.str x)
  | lst {p : Addr} {xs : List V} {ds : List PyData} : ok p → H p = some (.lst xs) → xs.length ≤ 9000 → TreesAt ok H xs ds → TreeAt ok H (.ref p) (.list ds)
  | tup {p : Addr} {xs : List V} {ds : List PyData} : ok p → H p = some (.tup xs) → xs.length ≤ 9000 → TreesAt ok H xs ds → TreeAt ok H (.ref p) (.tuple ds)
inductive TreesAt (ok : Addr → Prop) (H : Hp) : List V → List PyData → Prop
  | nil : TreesAt ok H [] []
  | cons {x : V} {d : PyData} {xs : List V} {ds : List PyData} : TreeAt ok H x d → TreesAt ok H xs ds → TreesAt ok H (x :: xs) (d :: ds)
end
mutual
theorem TreeAt.keep {ok ok' : Addr → Prop} {H H' : Hp} (k : ∀ a o, ok a → H a = some o → ok' a ∧ H' a = some o) : ∀ {v : V} {d : PyData}, TreeAt ok H v d → TreeAt ok' H' v d
  | _, _, .non => .non
  | _, _, .bl b => .bl b
  | _, _, .int i => .int i
  | _, _, .str x => .str x
  | _, _, .lst o e z t => .lst (k _ _ o e).1 (k _ _ o e).2 z (TreesAt.keep k t)
  | _, _, .tup o e z t => .tup (k _ _ o e).1 (k _ _ o e).2 z (TreesAt.keep k t)
theorem TreesAt.keep {ok ok' : Addr → Prop} {H H' : Hp} (k : ∀ a o, ok a → H a = some o → ok' a ∧ H' a = some o) : ∀ {vs : List V} {ds : List PyData}, TreesAt ok H vs ds → TreesAt ok' H' vs ds
  | _, _, .nil => .nil
  | _, _, .cons t r => .cons (TreeAt.keep k t) (TreesAt.keep k r)
end
theorem TreeAt.same {ok : Addr → Prop} {H H' : Hp} {v : V} {d : PyData} (t : TreeAt ok H v d) (s : Same H H') : TreeAt ok H' v d := t.keep fun a o h e => ⟨h, s a o e⟩
theorem TreesAt.same {ok : Addr → Prop} {H H' : Hp} {v : List V} {d : List PyData} (t : TreesAt ok H v d) (s : Same H H') : TreesAt ok H' v d := t.keep fun a o h e => ⟨h, s a o e⟩
theorem TreeAt.samex {p : Addr} {H H' : Hp} {v : V} {d : PyData} (t : TreeAt (· ≠ p) H v d) (s : SameX p H H') : TreeAt (· ≠ p) H' v d := t.keep fun a o h e => ⟨h, s a o h e⟩
theorem TreesAt.length {ok : Addr → Prop} {H : Hp} : ∀ {vs : List V} {ds : List PyData}, TreesAt ok H vs ds → vs.length = ds.length
  | _, _, .nil => rfl
  | _, _, .cons _ r => by rw [List.length_cons, List.length_cons, r.length]
theorem TreesAt.append {ok : Addr → Prop} {H : Hp} : ∀ {vs ws : List V} {ds es : List PyData}, TreesAt ok H vs ds → TreesAt ok H ws es → TreesAt ok H (vs ++ ws) (ds ++ es)
  | _, _, _, _, .nil, t => t
  | _, _, _, _, .cons h r, t => .cons h (r.append t)
theorem TreesAt.get {ok : Addr → Prop} {H : Hp} : ∀ {vs : List V} {ds : List PyData} {i : Nat} {v : V}, TreesAt ok H vs ds → vs[i]? = some v → ∃ d, ds[i]? = some d ∧ TreeAt ok H v d
  | _, _, 0, _, .cons h _, e => by cases e; exact ⟨_, rfl, h⟩
  | _, _, i + 1, _, .cons _ r, e => TreesAt.get r (i := i) e
section
variable {X : Cx} {pins : List (Addr × Obj)} {σ : St} {H : Hp} {s : Shared} {ok : Addr → Prop}
mutual
theorem TreeAt.reads (I : Inv X pins σ H s) : ∀ {v : V} {d : PyData} {u : Value}, TreeAt ok H v d → RelV v u → ∃ as, Reads s.heap u d as
  | _, _, _, .non, r => by cases r; exact ⟨_, .none⟩
  | _, _, _, .bl b, r => by cases r; exact ⟨_, .bool b⟩
  | _, _, _, .int i, r => by obtain ⟨t, rfl⟩ := r; exact ⟨_, .int i t⟩
  | _, _, _, .str x, r => by obtain ⟨t, rfl⟩ := r; exact ⟨_, .str x t⟩
  | _, _, _, .lst o e z t, r => by
    cases r
    obtain ⟨its, rv, pl, hz⟩ := I.list (SqL.of e)
    obtain ⟨ob, h1, h2, n, h3⟩ := pl.isList
    obtain ⟨as, h4⟩ := TreesAt.reads I t rv
    exact ⟨_, .list h1 h2 h3 (by simpa using h4)⟩
  | _, _, _, .tup o e z t, r => by
    cases r
    obtain ⟨its, rv, pl, hz⟩ := I.tuple (SqT.of e)
    obtain ⟨ob, h1, h2, n, h3⟩ := pl
    obtain ⟨as, h4⟩ := TreesAt.reads I t rv
    exact ⟨_, .tuple h1 h2 h3 (by simpa using h4)⟩
theorem TreesAt.reads (I : Inv X pins σ H s) : ∀ {vs : List V} {ds : List PyData} {us : List Value}, TreesAt ok H vs ds → Vals vs us → ∃ as, ReadsAll s.heap us ds as
  | _, _, _, .nil, r => by cases r; exact ⟨_, .nil⟩
  | _, _, _, .cons h t, r => by
    cases r with
    | cons r1 r2 =>
      obtain ⟨as, h1⟩ := TreeAt.reads I h r1
      obtain ⟨bs, h2⟩ := TreesAt.reads I t r2
      exact ⟨_, .cons h1 h2⟩
end
end
mutual
def nodes : PyData → Nat
  | .list ds => 1 + nodesAll ds
  | .tuple ds => 1 + nodesAll ds
  | _ => 1
def nodesAll : List PyData → Nat
  | [] => 0
  | d :: ds => nodes d + nodesAll ds
end
mutual
def smD : PyData → Bool
  | .none => true
  | .bool _ => true
  | .int i => decide (i.natAbs < 2 ^ 50 ∨ i.natAbs = 10 ^ 20 ∨ i.natAbs < 2 ^ 55)
  | .str x => decide ((reprText x).length ≤ 50)
  | .list ds => smAll ds
  | .tuple ds => smAll ds
  | .dict _ => false
def smAll : List PyData → Bool
  | [] => true
  | d :: ds => smD d && smAll ds
end
theorem int_len {i : Int} (h : i.natAbs < 2 ^ 70) : (Str.ofString (toString i)).length ≤ 71 := by
  rw [PySem.ofString_length]
  have := int_text_length_le10 (a := i) (k := 30) (by decide) (by omega)
  omega
mutual
theorem shown_len : ∀ (d : PyData), smD d = true → d.shown.length + 2 ≤ 80 * nodes d
  | .none, _ => by decide
  | .bool b, _ => by cases b <;> decide
  | .int i, h => by
    have h1 : i.natAbs < 2 ^ 70 := by
      have : i.natAbs < 2 ^ 50 ∨ i.natAbs = 10 ^ 20 ∨ i.natAbs < 2 ^ 55 := of_decide_eq_true (by simpa [smD] using h)
      omega
    have := int_len h1
    show (Str.ofString (toString i)).length + 2 ≤ 80 * 1
    omega
  | .str x, h => by
    have h1 : (reprText x).length ≤ 50 := by simpa [smD] using h
    show (reprText x).length + 2 ≤ 80 * 1
    omega
  | .list ds, h => by
    have h1 := shownAll_len ds (by simpa [smD] using h)
    have h2 := listText_len_le (PyData.shownAll ds)
    rw [PyData.shown.eq_5, nodes]
    omega
  | .tuple ds, h => by
    have h1 := shownAll_len ds (by simpa [smD] using h)
    have h2 := tupleText_len_le (PyData.shownAll ds)
    rw [PyData.shown.eq_6, nodes]
    omega
  | .dict kvs, h => by simp [smD] at h
theorem shownAll_len : ∀ (ds : List PyData), smAll ds = true → ((PyData.shownAll ds).map fun x => x.length).sum + 2 * (PyData.shownAll ds).length ≤ 80 * nodesAll ds
  | [], _ => by simp [PyData.shownAll, nodesAll]
  | d :: ds, h => by
    rw [smAll, Bool.and_eq_true] at h
    have h1 := shown_len d h.1
    have h2 := shownAll_len ds h.2
    rw [PyData.shownAll.eq_2, nodesAll, List.map_cons, List.sum_cons, List.length_cons]
    omega
end
mutual
theorem sm_show : ∀ (d : PyData), smD d = true → d.showable = true ∧ d.hasDict = false
  | .none, _ => ⟨rfl, rfl⟩
  | .bool b, _ => ⟨rfl, rfl⟩
  | .int i, h => by
    refine ⟨?_, rfl⟩
    have h1 : i.natAbs < 2 ^ 70 := by
      have : i.natAbs < 2 ^ 50 ∨ i.natAbs = 10 ^ 20 ∨ i.natAbs < 2 ^ 55 := of_decide_eq_true (by simpa [smD] using h)
      omega
    show decide (i.natAbs.log2 < 1920) = true
    refine decide_eq_true ?_
    by_cases z : i.natAbs = 0
    · rw [z]; decide
    · have := (Nat.log2_lt z).mpr h1
      omega
  | .str x, _ => ⟨rfl, rfl⟩
  | .list ds, h => by
    obtain ⟨h1, h2⟩ := sm_showAll ds (by simpa [smD] using h)
    exact ⟨h1, h2⟩
  | .tuple ds, h => by
    obtain ⟨h1, h2⟩ := sm_showAll ds (by simpa [smD] using h)
    exact ⟨h1, h2⟩
  | .dict kvs, h => by simp [smD] at h
theorem sm_showAll : ∀ (ds : List PyData), smAll ds = true → PyData.showableAll ds = true ∧ PyData.hasDictAll ds = false
  | [], _ => ⟨rfl, rfl⟩
  | d :: ds, h => by
    rw [smAll, Bool.and_eq_true] at h
    obtain ⟨h1, h2⟩ := sm_show d h.1
    obtain ⟨h3, h4⟩ := sm_showAll ds h.2
    refine ⟨?_, ?_⟩
    · rw [PyData.showableAll.eq_2, h1, h3]; rfl
    · rw [PyData.hasDictAll.eq_2, h2, h4]; rfl
end
end L2
namespace L2
open PySem PySem.Spec PyProof.Rows
section
variable {X : Cx} {tg l : Expr} {tl : TE}
def itq (K : PySem.W.Frag) (ob : Option HO) (a : Addr) (H : Hp) (R : It → Hp → Prop) : Prop := match ob with
  | some (.lst _) => R (Itl K a) H
  | some (.tup _) => R (Itt K a) H
  | _ => False
def itK (K : PySem.W.Frag) (x : V) (H : Hp) (R : It → Hp → Prop) : Prop := match x with
  | .ref a => itq K (H a) a H R
  | _ => False
def iSeqD (K : PySem.W.Frag) (tl : TE) : TI := fun σ H R => tl σ H fun x H1 => itK K x H1 R
theorem iSeqD_eq (K : PySem.W.Frag) (tl : TE) (σ : St) (H : Hp) (R : It → Hp → Prop) : iSeqD K tl σ H R = tl σ H fun x H1 => itK K x H1 R := rfl
theorem itK_ref (K : PySem.W.Frag) (a : Addr) (H : Hp) (R : It → Hp → Prop) : itK K (.ref a) H R = itq K (H a) a H R := rfl
theorem itq_lst (K : PySem.W.Frag) (xs : List V) (a : Addr) (H : Hp) (R : It → Hp → Prop) : itq K (some (.lst xs)) a H R = R (Itl K a) H := rfl
theorem itq_tup (K : PySem.W.Frag) (xs : List V) (a : Addr) (H : Hp) (R : It → Hp → Prop) : itq K (some (.tup xs)) a H R = R (Itt K a) H := rfl
theorem pi_seqD (hl : PE X l tl) : PI X tg l (iSeqD X.K tl) := by
  intro pins s σ H R I h
  refine thn (hl pins s σ H _ I h) fun v s1 ⟨x, H1, I1, r1, q1⟩ => ?_
  cases x with
  | ref a =>
    replace q1 : itq X.K (H1 a) a H1 R := q1
    cases r1
    unfold itq at q1
    split at q1
    · rename_i xs e
      obtain ⟨its, rv, p, hz⟩ := I1.list (SqL.of e)
      refine wpAny_pyIter_list p.isList ?_
      refine ⟨s1.heap.objs.size, [s1.heap.objs.size], _, _, H1, rfl, I1.kept (t' := s1.toks) fun b o e => Heap.get?_push_of_some _ e, turn_list a _, ⟨_, Heap.get?_push_size _ rfl, rfl, rfl⟩, fun b hb => ?_, q1⟩
      have e : b = s1.heap.objs.size := by simpa using hb
      subst e
      exact I1.fpOk (Nat.le_refl _) (I1.hok.fresh (Nat.le_refl _))
    · rename_i xs e
      obtain ⟨its, rv, p, hz⟩ := I1.tuple (SqT.of e)
      refine wpAny_pyIter_tuple (show s1.heap.IsTuple a its.toArray from p) ?_
      refine ⟨s1.heap.objs.size, [s1.heap.objs.size], _, _, H1, rfl, I1.kept (t' := s1.toks) fun b o e => Heap.get?_push_of_some _ e, turn_tuple a _, ⟨_, Heap.get?_push_size _ rfl, rfl, rfl⟩, fun b hb => ?_, q1⟩
      have e : b = s1.heap.objs.size := by simpa using hb
      subst e
      exact I1.fpOk (Nat.le_refl _) (I1.hok.fresh (Nat.le_refl _))
    · exact q1.elim
  | _ => exact q1.elim
theorem qi_seqD (hl : QE X l tl) : QI X tg l (iSeqD X.K tl) := ⟨pi_seqD hl.h⟩
end
section
variable {mp : List (Option Nat)} {g : TG} {tc : TT} {te : TE} {σ : St} {H : Hp} {Q : VK} {R : It → Hp → Prop} {K : PySem.W.Frag}
def BoolsTo (H0 : Hp) (f : V → Bool) (xs : List V) (i : Nat) (acc : List V) (H' : Hp) : Prop := Same H0 H' ∧ acc = ((xs.take i).map f).map V.bl
theorem BoolsTo.start (H0 : Hp) (f : V → Bool) (xs : List V) : BoolsTo H0 f xs 0 [] H0 := ⟨Same.refl _, by simp⟩
theorem BoolsTo.done {H0 : Hp} {f : V → Bool} {xs : List V} {acc : List V} {H' : Hp} (h : BoolsTo H0 f xs xs.length acc H') : acc = (xs.map f).map V.bl := by
  obtain ⟨_, rfl⟩ := h
  rw [List.take_length]
end
section
variable {ok : Addr → Prop} {σ : St} {H0 : Hp} {ta tb : TE} {tr : TA} {d e : PyData} {ds es : List PyData}
end
end L2
namespace L2
open PySem PySem.Spec PyProof.Rows
def rd0 := And.intro @tSeq.eq_1 (And.intro @tIfS.eq_1 (And.intro @tTest.eq_1 (And.intro @tOp.eq_1 (And.intro @rI.eq_1 (And.intro @rI0.eq_1 (And.intro @rU.eq_1 (And.intro @tUn.eq_1 (And.intro @tVar.eq_1 (And.intro @tC.eq_1 (And.intro @tRet.eq_1 (And.intro @tRetN.eq_1 (And.intro @tNext.eq_1 (And.intro @tCall.eq_1 (And.intro @tCons.eq_1 (And.intro @tNil.eq_1 (And.intro @tCB.eq_1 (And.intro @tIf.eq_1 (And.intro @tNot.eq_1 (And.intro @tB.eq_1 (And.intro @tAnd.eq_1 (And.intro @tOr.eq_1 (And.intro @tAndV.eq_1 (And.intro @tOrV.eq_1 (And.intro @tNotV.eq_1 (And.intro @tLst.eq_1 (And.intro @tTup.eq_1 (And.intro @tAsg.eq_1 (And.intro @gName.eq_1 (And.intro @gSub.eq_1 (And.intro @gTupD_ref (And.intro @gtq_tup (And.intro @rQuantD_ref (And.intro @rMinD_eq (And.intro @rMaxD_eq (And.intro @qtq_lst (And.intro @tYes.eq_1 (And.intro @gCons_c (And.intro @gNil_n (@rSetL.eq_1)))))))))))))))))))))))))))))))))))))))
def rd1 := And.intro @rIxD_ref (And.intro @rSetD_ref (And.intro @rLenD_ref (And.intro @rIntD_i (And.intro @rIntD_b (And.intro @ixq_lst (And.intro @ixq_tup (And.intro @stq_lst (And.intro @lnq_lst (And.intro @lnq_tup (And.intro ixN_3.1 (And.intro ixN_3.2.1 (And.intro ixN_3.2.2 (And.intro @atI_0 (And.intro @atI_1 (And.intro @atI_2 (And.intro @upd_same (And.intro @rIsi1_eq (And.intro @rIsi2_eq (And.intro @i2q_eq (And.intro @kc_list (And.intro @kc_tuple (And.intro @kc_int (And.intro @kc_str (And.intro @kc_bool (And.intro @ty_int (And.intro @ty_bl (And.intro @ty_str (And.intro @ty_non (And.intro @ty_ref (And.intro @tyO_lst (And.intro @tyO_tup (And.intro @sb_NoneType_bool (And.intro @sb_NoneType_int (And.intro @sb_NoneType_str (And.intro @sb_NoneType_list (And.intro @sb_NoneType_tuple (And.intro @sb_bool_bool (And.intro @sb_bool_int (@sb_bool_str)))))))))))))))))))))))))))))))))))))))
def rd2 := And.intro @sb_bool_list (And.intro @sb_bool_tuple (And.intro @sb_int_bool (And.intro @sb_int_int (And.intro @sb_int_str (And.intro @sb_int_list (And.intro @sb_int_tuple (And.intro @sb_str_bool (And.intro @sb_str_int (And.intro @sb_str_str (And.intro @sb_str_list (And.intro @sb_str_tuple (And.intro @sb_list_bool (And.intro @sb_list_int (And.intro @sb_list_str (And.intro @sb_list_list (And.intro @sb_list_tuple (And.intro @sb_tuple_bool (And.intro @sb_tuple_int (And.intro @sb_tuple_str (And.intro @sb_tuple_list (And.intro @sb_tuple_tuple (And.intro @Bool.or_false (And.intro @Bool.false_or (And.intro @Bool.or_self (And.intro @Bool.true_or (And.intro @Bool.or_true (And.intro @Bool.not_true (And.intro @Bool.not_false (And.intro @Bool.false_eq_true (And.intro @if_true.{0} (And.intro @if_true.{1} (And.intro @if_false.{0} (And.intro @if_false.{1} (And.intro @decide_true (And.intro @decide_false (And.intro @tDrop.eq_1 (And.intro @rEq.eq_1 (And.intro @rNe.eq_1 (@rAddD_i)))))))))))))))))))))))))))))))))))))))
def rd3 := And.intro @rAddD_r (And.intro @adq_ll (And.intro @rNeD_r (And.intro @rNeD_i (And.intro @rNeD_b (And.intro @rNeD_s (And.intro @neq'_ll (And.intro @rInD_r (And.intro @inq_l (And.intro @inq_t (And.intro @rSumD_ref (And.intro @smq_lst (And.intro @tLRng.eq_1 (And.intro @atI_m1_2 (And.intro @atI_m1_3 (And.intro @tPar.eq_1 (And.intro @tChain.eq_1 (And.intro @scal_int (And.intro @scal_bl (And.intro @scal_str (And.intro @scal_non (And.intro @scal_in (And.intro @scal_ni (And.intro @scal_is (And.intro @scal_si (And.intro @CMul.eq_1 (And.intro @CPow.eq_1 (And.intro @CDivL.eq_1 (And.intro @L2.start.eq_1 (And.intro @List.map_cons.{0,0} (And.intro @List.map_nil.{0,0} (And.intro @List.length_cons.{0} (And.intro @List.length_nil.{0} (And.intro @List.cons_append.{0} (And.intro @List.nil_append.{0} (And.intro @List.replicate_succ.{0} (And.intro @List.replicate_zero.{0} (And.intro @List.append_nil.{0} (And.intro @List.getElem?_cons_zero.{0} (@List.getElem?_cons_succ.{0})))))))))))))))))))))))))))))))))))))))
def rd4 := And.intro @List.set_cons_zero.{0} (And.intro @List.set_cons_succ.{0} (And.intro @Nat.sub_self (And.intro @Option.some.injEq.{0} (And.intro @exists_eq_left'.{1} (And.intro @exists_eq_left.{1} (And.intro @ex_pair (And.intro @ex_pairI (And.intro @ex_trip (And.intro @tPar3.eq_1 (And.intro @V.int.injEq (And.intro @V.str.injEq (And.intro @st_from_is (And.intro @st_bits_is (And.intro @st_bits_from (And.intro @st_is_from (And.intro @st_is_bits (And.intro @st_from_bits (And.intro @itV_one (And.intro @itV_rng (And.intro @itV_bits (And.intro @V.bl.injEq (And.intro @V.ref.injEq (And.intro @List.cons.injEq.{0} (And.intro @and_true (And.intro @true_and (And.intro @exists_and_left.{1} (And.intro @exists_and_right.{1} (And.intro @decide_eq_true_eq (And.intro @tAppD_eq (And.intro @appK_ref (And.intro @isq_lst (And.intro @apq_lst (And.intro @rSlD_ref (And.intro @slq_lst (And.intro @slq_tup (And.intro @tSl.eq_1 (And.intro @tNoPart.eq_1 (And.intro @tPart.eq_1 (@rMulD_r)))))))))))))))))))))))))))))))))))))))
def rd5 := And.intro @rMulD_i (And.intro @rpq_lst (And.intro @rEqD_rs (And.intro @rEqD_ii (And.intro @rEqD_bb (And.intro @rEqD_ss (And.intro @rEqD_is (And.intro @rEqD_bs (And.intro @rEqD_ns (And.intro @rEqD_nn (And.intro @eqo_lst (And.intro @eqo_tup (And.intro @scal_ns (And.intro @scal_bs (And.intro @tChain3.eq_1 (And.intro @iSeqD_eq (And.intro @itK_ref (And.intro @itq_lst (@itq_tup))))))))))))))))))
def isNumD : PyData → Bool
  | .int _ => true
  | _ => false
end L2
namespace L2
open PySem PySem.Spec PyProof.Rows
section
variable {X : Cx} {NX N : List Str} {kX : List (Str × NameKind)} {mp : List (Option Nat)} {scope : Scope}
set_option maxHeartbeats 8000000 in
theorem ps_setC {tg iter elt : Expr} {ifs : List Expr} {pos pos' pos2 : Pos} {wi : TI} {g : TG} {tc : TT} {te : TE} {i : Nat} {x : Str} (N : List Str) (mp : List (Option Nat)) (hn : Nm X.N X.env.scope i x) (hNd : X.N.Nodup) (hNX : X.N = NX) (hkX : X.env.scope.names = kX) (S : CmpSc NX kX N mp scope) (hc : X.calm = true)
    (hi : PI X tg iter wi) (hg : ∀ cl C s H fp, PG (cmpCx X N scope cl C s H fp) tg g) (ht : ∀ cl C s H fp, PTs (cmpCx X N scope cl C s H fp) ifs tc) (he : ∀ cl C s H fp, PE (cmpCx X N scope cl C s H fp) elt te)
    (hf : X.fn x = true ∨ X.env.scope.names.lookup x = some .local := by exact .inl rfl)
    (hsw : swapsWithSole [.Name x pos'] (.ListComp elt [⟨tg, iter, ifs, 0⟩] scope pos) pos2.line X.env = pure true := by rfl)
    (h1 : (assignEach [.Name x pos'] X.env).map (·.2) = [assign (.Name x pos') X.env] := by rfl)
    (hs : ∀ x, foldedSetIterable iter X.env x = pure x := by intro _; rfl) : PS X (.Assign [.Name x pos'] (.ListComp elt [⟨tg, iter, ifs, 0⟩] scope pos) pos2) (tAsg (tComp mp wi g tc te) (gName i)) := by
  intro pins s σ H Dn I h
  rw [exec_Assign_arm]
  refine wpAny_bind (wpAny_standAt ?_)
  rw [hsw]
  refine wpAny_bind (wpAny_pure ?_)
  rw [if_pos rfl, h1]
  replace h : tComp mp wi g tc te σ H (fun v H1 => Dn.nx (σ.set i (some v)) H1) := h
  obtain ⟨cl, hcl, hsub, hhas⟩ := clos_of (env := X.env) (scope := scope) fun y hy hf => I.ok.has y.1 (by
    rcases S.fre y hy hf with q | q
    · exact .inl (show X.env.scope.names.lookup y.1 = _ by rw [hkX]; exact q)
    · exact .inr (show X.env.scope.names.lookup y.1 = _ by rw [hkX]; exact q))
  generalize hQ : (fun (v : V) (H1 : Hp) => Dn.nx (σ.set i (some v)) H1) = Q at h
  let QQ : Value → Shared → Prop := fun _ s' => ∃ τ H', Inv X pins τ H' s' ∧ Dn.nx τ H'
  refine wpAny_bind (wpAny_bind (thn (Q := QQ) (wpAny_comprehension_free (e := .ListComp elt [⟨tg, iter, ifs, 0⟩] scope pos) (use := some fun v => assignAll v [assign (.Name x pos') X.env]) rfl hs hcl S.kind S.locs ?_) fun _ s' ⟨τ, H', I', q'⟩ => wpAny_pure (wpAny_pure ⟨τ, H', I', q'⟩)))
  refine thn (hi pins s σ H _ I h) fun v s1 h1 => thn h1 fun itv s2 h2 => ?_
  obtain ⟨it, fp, tn, J, H2, e, I2, T, st2, f2, W, ⟨m0, w0⟩, turn⟩ := h2
  subst e
  refine wpAny_newObj_type (wpAny_newFunctionEnv S.nocell (by intro y hy; simp at hy) (fun h3 hns hsb => ?_) S.kind)
  dsimp only at hns hsb ⊢
  have hold : ∀ b ∈ fp, b < s2.heap.objs.size := fun b hb => by
    obtain ⟨o, q, _⟩ := T.obj _ _ st2 b hb
    exact Heap.lt_size q
  generalize hD : s2.heap.objs.size = D at hns hsb
  generalize hH2 : s2.heap.push { cls := .type "list", dict := none, data := .seq ([] : List Value).toArray } = P2 at hns hsb ⊢
  have hC : P2.objs.size = D + 1 := by rw [← hH2, Heap.size_push, hD]
  generalize hC' : P2.objs.size = C at hns hsb ⊢
  rw [hC'] at hC
  have old : ∀ b o, s2.heap.get? b = some o → h3.get? b = some o := fun b o q => by
    have hb := Heap.lt_size q
    exact hsb.extBut b o (na1 hb hD hC) (Heap.get?_push_of_some _ (hH2 ▸ Heap.get?_push_of_some _ q))
  have accD : h3.get? D = some { cls := .type "list", data := .seq ([] : List Value).toArray } :=
    hsb.extBut _ _ (na2 hC) (Heap.get?_push_of_some _ (by rw [← hH2, ← hD]; exact Heap.get?_push_size _ rfl))
  have hfr : D ∉ frs X.stack := fun z => by
    rcases List.mem_cons.mp (I2.stkSub D z) with q | q
    · exact na0 I2.lt hD q.symm
    · exact I2.nofs (na4 hD) q
  have I0 : Inv (cmpCx X N scope cl C s2 H2 fp) [(D, { cls := .type "list", data := .seq ([] : List Value).toArray })] (subSt mp σ) H2 { s2 with heap := h3, toks := s2.toks + ([] : List (Str × Value)).length } :=
    cmp_inv (s' := { s2 with heap := h3, toks := s2.toks + ([] : List (Str × Value)).length }) hNX hkX S I2 f2 hold (na3 hD hC) hsub hhas rfl rfl ⟨_, hns⟩ old fun p hp => by
      have ep := List.mem_singleton.mp hp
      subst ep
      exact ⟨accD, I2.hok.fresh (na4 hD), na2 hC, hfr, fun v z => by cases z⟩
  have T0 : tn 0 h3 := T.keep _ _ _ st2 fun b _ o q => old b o q
  have loop : ∀ z : Shared, z = { s2 with heap := h3, toks := s2.toks + ([] : List (Str × Value)).length } →
      codeAny (model X.prog X.w) X.A (.compLoop (.ListComp elt [⟨tg, iter, ifs, 0⟩] scope pos) 0 (.ref it) (.ref D) (compEnvC scope cl C X.env))
        (compPost (model X.prog X.w) X.A X.xe (some fun v => assignAll v [assign (.Name x pos') X.env]) QQ (.ref D) C) z := by
    rintro z rfl
    have stat : ∀ {H' : Hp} {pl : List (Addr × Obj)}, (∀ b ∈ fp, H' b = none) → (∀ p ∈ pl, p.1 = D) → ∀ b ∈ fp, FpOk (cmpCx X N scope cl C s2 H2 fp) pl H' b := fun hn hp b hb => by
      have hb2 := hold b hb
      refine ⟨hn b hb, na1 hb2 hD hC, (cmp_ok hkX S I2 f2 hold (na3 hD hC) hsub hhas).exfs b hb, .inl hb, fun x c q => (f2 b hb).2.2.2.2.1 x c (hsub x c q), fun p hpp => ?_⟩
      have hpD := hp p (by simpa [cmpCx] using hpp)
      rw [hpD]
      exact (na0 hb2 hD).symm
    refine comp_loop (env := compEnvC scope cl C X.env) (fun n z => ∃ i acc τ H' its k, Inv (cmpCx X N scope cl C s2 H2 fp) [(D, { cls := .type "list", data := .seq (List.toArray its) k })] τ H' z ∧ tn i z.heap ∧ (∀ b ∈ fp, H' b = none) ∧ Vals acc its ∧ acc.length ≤ sizeLine ∧ W i n acc τ H')
      ?_ m0 ⟨0, [], _, H2, [], 0, I0, T0, fun b hb => (f2 b hb).1, .nil, Nat.zero_le _, w0⟩
    rintro n s5 ⟨i, acc, τ, H5, its, k, I5, st5, fr5, va, hz, w5⟩
    rcases turn i n acc τ H5 w5 with ⟨stop, qn⟩ | ⟨go, hz2, N9, hN9, step⟩
    · refine thn (T.done (cmpCx X N scope cl C s2 H2 fp) rfl rfl rfl hc i _ s5 τ H5 _ I5 (stat fr5 (by simp)) st5 stop) fun r s6 ⟨hr, I6⟩ => ?_
      subst hr
      obtain ⟨m6, hn6, _⟩ := I6.loc
      obtain ⟨dD, nD, _, _, _⟩ := I6.pin (D, _) (List.mem_append_right _ (List.mem_singleton.mpr rfl))
      have U := I6.base
      have nC : H5 C = none := I6.free
      have ne : ∀ b o, s2.heap.get? b = some o → b ≠ C ∧ b ≠ D := fun b o q => by
        exact ⟨na1 (Heap.lt_size q) hD hC, na0 (Heap.lt_size q) hD⟩
      have key : ∀ h', Heap.SameBut C s6.heap h' → Inv X pins σ (upd H5 D (.lst acc)) { s6 with heap := h' } := fun h' sb => by
        have keepC : ∀ b o, b ≠ C → s6.heap.get? b = some o → h'.get? b = some o := fun b o hb q => (sb.2 b hb).trans q
        have U' : Un (frs X.stack) fp H2 (upd H5 D (.lst acc)) s2.heap h' := by
          refine ⟨fun b o q n1 hb hx => keepC b o (ne b o q).1 (U.keep b o q n1 hb hx), fun b o q n1 hb hx => ?_, fun b o q n1 hx => ?_, fun b o q hx => ?_, fun b xs q => ?_, fun b o xs q => ?_, fun b ps q => ?_⟩
          · obtain ⟨sl, z⟩ := U.slot b o q n1 hb hx
            exact ⟨sl, keepC b _ (ne b o q).1 z⟩
          · rw [upd_ne (ne b o q).2]
            exact U.free b o q n1 hx
          · obtain ⟨o', z⟩ := U.there b o q hx
            exact ⟨o', keepC b _ (ne b o q).1 z⟩
          · have z := U.tups b xs q
            rw [upd_ne (ne_of_none z nD)]
            exact z
          · have z := U.frzs b o xs q
            rw [upd_ne (ne_of_none z nD)]
            exact z
          · obtain ⟨more, z⟩ := U.tbls b ps q
            exact ⟨more, by rw [upd_ne (ne_of_none z nD)]; exact z⟩
        have hok : HOk X.prog X.w (upd H5 D (.lst acc)) h' := fun b u q => by
          by_cases hb : b = D
          · subst hb
            rw [upd_same] at q
            cases q
            exact ⟨hz, its, k, va, keepC _ _ (na2 hC) dD⟩
          · rw [upd_ne hb] at q
            refine (I6.hok b u q).stay (fun c v hcc z => keepC c v ?_ z) (fun c z => by rw [upd_ne (ne_of_none z nD)]; exact z) fun c xs z => by rw [upd_ne (ne_of_none z nD)]; exact z
            rcases hcc with z1 | z1
            · subst z1
              exact ne_of_none q nC
            · exact ne_of_none z1 nC
        have I7 : Inv X pins σ (upd H5 D (.lst acc)) { s6 with heap := h' } := I2.call' (s' := { s6 with heap := h' }) (ch := fp) I6.os U' hok I6.bare fun b hb => by
          obtain ⟨_, a2, _, a4, a5, a6⟩ := f2 b hb
          exact ⟨a4, a2, a5, a6⟩
        exact I7
      have I7 : Inv X pins σ (upd H5 D (.lst acc)) s6 := key s6.heap (Heap.SameBut.refl _ _)
      have lC : X.env.locals ≠ C := na1 I2.lt hD hC
      have cC : ∀ y c, X.env.cells.lookup y = some c → c ≠ C := fun y c z => by
        obtain ⟨_, o, h1, _⟩ := I2.cell y c z
        exact na1 (Heap.lt_size h1) hD hC
      show wpAny _ _ (assign (.Name x pos') X.env (.ref D)) _ _ s6
      refine wpAny_assign_Name (store_ok2 (v := .ref D) I7 hNd hn.hN hn.hv rfl (fun s7 I8 ⟨a, sa, ha⟩ => ?_) hf)
      have aC : a ≠ C := by
        rcases ha with rfl | ha
        · exact lC
        · exact cC _ _ ha
      obtain ⟨o6, es6, ep6, g1, g2, g3, g4⟩ := hn6
      refine ⟨m6, ⟨o6, es6, ep6, (sa.2 C (Ne.symm aC)).trans g1, g2, g3, g4⟩, fun h' sb => ?_⟩
      have q9 := qn D nD
      rw [← hQ] at q9
      refine ⟨_, _, I8.turned (it := C) (t' := s7.toks) (fun b o hb q => (sb.2 b hb).trans q) ?_ (Ne.symm lC) (.inr (Nat.le_trans I2.sz (na3 hD hC))) cC (fun p hp => ?_), q9⟩
      · rw [upd_ne (Ne.symm (na2 hC))]
        exact nC
      · obtain ⟨h1, _⟩ := I2.pin p hp
        exact na1 (Heap.lt_size h1) hD hC
    · refine thn (T.item (cmpCx X N scope cl C s2 H2 fp) rfl rfl rfl hc i _ s5 τ H5 _ I5 (stat fr5 (by simp)) st5 go) fun r s6 ⟨u, hr, h6⟩ => ?_
      subst hr
      refine thn h6 fun _ s7 ⟨x, H7, I7, r7, y7, st7, fr7⟩ => ?_
      have I7' := I7.pinned (stat fr7 (by simp)) (T.obj _ _ st7)
      have no : ∀ {α : Type} {t : Sem α} {Q1 Q2 : α → Shared → Prop} {E : Value → Shared → Prop} {z : Shared}, wpAny (model X.prog X.w) X.A t Q1 (fun _ _ => False) z → (∀ a z, Q1 a z → Q2 a z) → wpAny (model X.prog X.w) X.A t Q2 E z :=
        fun q f => wpAny_mono q f fun _ _ z => z.elim
      refine no (hg cl C s2 H2 fp _ s7 τ H7 x u _ I7' r7 (step x H7 y7)) fun _ s8 ⟨τ1, H8, I8, q8⟩ => ?_
      refine no (ht cl C s2 H2 fp _ s8 τ1 H8 _ I8 q8) fun ok s9 ⟨H9, I9, q9⟩ => ?_
      have again : ∀ {H' : Hp} {z : Shared} {its' : List Value} {k' : Nat}, Inv (cmpCx X N scope cl C s2 H2 fp) ([(D, { cls := .type "list", data := .seq (List.toArray its') k' })] ++ pinsAt fp s7.heap) τ1 H' z →
          tn (i + 1) z.heap ∧ (∀ b ∈ fp, H' b = none) ∧ Inv (cmpCx X N scope cl C s2 H2 fp) [(D, { cls := .type "list", data := .seq (List.toArray its') k' })] τ1 H' z := fun {H' z its' k'} Iz => by
        have get : ∀ b ∈ fp, ∀ o, s7.heap.get? b = some o → z.heap.get? b = some o ∧ H' b = none := fun b hb o q => by
          obtain ⟨a1, a2, _⟩ := Iz.pin (b, o) (List.mem_append_right _ (List.mem_append_right _ (mem_pinsAt hb q)))
          exact ⟨a1, a2⟩
        refine ⟨T.keep _ _ _ st7 fun b hb o q => (get b hb o q).1, fun b hb => ?_, Iz.unpinned⟩
        obtain ⟨o, q, _⟩ := T.obj _ _ st7 b hb
        exact (get b hb o q).2
      cases ok with
      | false =>
        rw [if_neg Bool.false_ne_true] at q9 ⊢
        obtain ⟨m', hm, w9⟩ := hN9 _ _ _ q9
        obtain ⟨a1, a2, a3⟩ := again I9
        exact ⟨m', hm, i + 1, acc, τ1, H9, its, k, a3, a1, a2, va, hz, w9⟩
      | true =>
        rw [if_pos rfl] at q9 ⊢
        refine no (he cl C s2 H2 fp _ s9 τ1 H9 _ I9 q9) fun y s10 ⟨v, H10, I10, rv, q10⟩ => ?_
        obtain ⟨m', hm, w10⟩ := hN9 _ _ _ q10
        obtain ⟨a1, a2, a3⟩ := again I10
        obtain ⟨dD, nD, _, _, _⟩ := a3.pin (D, _) (List.mem_append_right _ (List.mem_singleton.mpr rfl))
        have hlen := va.length
        refine call_meets F.slot_list_append ⟨_, dD, rfl⟩ F.entry_list_append (F.args_list_append_2 _ _) (PySem.list_append D its.toArray k y (by rw [List.size_toArray]; omega)) ⟨dD, ?_⟩
        obtain ⟨k', q⟩ : ∃ k', (s10.heap.update D (Obj.mapSeq fun a => a.push y)).get? D = some { cls := .type "list", data := .seq (its ++ [y]).toArray k' } := by
          have q := PySem.IsL.update dD (fun a => a.push y)
          rw [show its.toArray.push y = (its ++ [y]).toArray by simp] at q
          exact ⟨_, q⟩
        have a4 : Inv (cmpCx X N scope cl C s2 H2 fp) (pinsAt fp s7.heap) τ1 H10 s10 := I10.pins_of fun p hp => I10.pin p (List.mem_append_right _ (List.mem_append_right _ hp))
        have a5 : Inv (cmpCx X N scope cl C s2 H2 fp) (pinsAt fp s7.heap) τ1 H10 { s10 with heap := s10.heap.update D (Obj.mapSeq fun a => a.push y), toks := s10.toks } :=
          a4.turned (it := D) (fun b o hb z => (Heap.get?_update_other _ _ (Ne.symm hb)).trans z) nD (na2 hC) (.inr (na4 hD))
            (fun x c z => by
              obtain ⟨_, o, h1, _⟩ := I2.cell x c (hsub x c z)
              exact na0 (Heap.lt_size h1) hD) fun p hp => by
              have hb := (of_pinsAt (by simpa [cmpCx] using hp)).1
              exact na0 (hold _ hb) hD
        obtain ⟨b1, b2, b3⟩ := (show tn (i + 1) (s10.heap.update D (Obj.mapSeq fun a => a.push y)) ∧ (∀ b ∈ fp, H10 b = none) ∧ True from
          ⟨T.keep _ _ _ a1 fun b hb o z => (Heap.get?_update_other _ _ (na0 (hold b hb) hD).symm).trans z, a2, trivial⟩)
        refine ⟨m', hm, i + 1, acc ++ [v], τ1, H10, its ++ [y], k', a5.pins_of fun p hp => ?_, b1, b2, va.append (.cons rv .nil), by rw [List.length_append, List.length_singleton]; omega, w10⟩
        have ep := List.mem_singleton.mp hp
        subst ep
        exact ⟨q, nD, na2 hC, hfr, fun v z => by cases z⟩
  have e1 : { newEnv scope C X.env.globals cl X.env.qual none .none (some X.env) X.env.builtins with scope := relabel scope X.env } = compEnvC scope cl C X.env := rfl
  exact codeAny_compStart_list (loop _ rfl) (T.self _ 0 _ _ _ T0 (loop _ rfl))
theorem qs_setC {tg iter elt : Expr} {ifs : List Expr} {pos pos' pos2 : Pos} {wi : TI} {g : TG} {tc : TT} {te : TE} {i : Nat} {x : Str} (N : List Str) (mp : List (Option Nat)) (hn : Nm X.N X.env.scope i x) (hNd : X.N.Nodup) (hNX : X.N = NX) (hkX : X.env.scope.names = kX) (S : CmpSc NX kX N mp scope) (hc : X.calm = true)
    (hi : QI X tg iter wi) (hg : ∀ cl C s H fp, QG (cmpCx X N scope cl C s H fp) tg g) (ht : ∀ cl C s H fp, QC (cmpCx X N scope cl C s H fp) ifs tc) (he : ∀ cl C s H fp, QE (cmpCx X N scope cl C s H fp) elt te)
    (hf : X.fn x = true ∨ X.env.scope.names.lookup x = some .local := by exact .inl rfl)
    (hsw : swapsWithSole [.Name x pos'] (.ListComp elt [⟨tg, iter, ifs, 0⟩] scope pos) pos2.line X.env = pure true := by rfl)
    (h1 : (assignEach [.Name x pos'] X.env).map (·.2) = [assign (.Name x pos') X.env] := by rfl)
    (hs : ∀ x, foldedSetIterable iter X.env x = pure x := by intro _; rfl) : QS X (.Assign [.Name x pos'] (.ListComp elt [⟨tg, iter, ifs, 0⟩] scope pos) pos2) (tAsg (tComp mp wi g tc te) (gName i)) :=
  ⟨ps_setC N mp hn hNd hNX hkX S hc hi.h (fun cl C s H fp => (hg cl C s H fp).h) (fun cl C s H fp => (ht cl C s H fp).h) (fun cl C s H fp => (he cl C s H fp).h) hf hsw h1 hs⟩
end
end L2
namespace L2
open PySem PySem.Spec PyProof.Rows
section
variable {mp : List (Option Nat)} {g : TG} {te : TE} {σ : St} {H : Hp} {Q : VK} {R : It → Hp → Prop} {K : PySem.W.Frag} {a : Addr} {xs : List V} {ds : List PyData} {ok : Addr → Prop}
theorem take_snoc {α : Type} {l : List α} {i : Nat} {x : α} (h : l[i]? = some x) : l.take (i + 1) = l.take i ++ [x] := by
  rw [List.take_add_one, h]
  rfl
end
def isStrD (d : PyData) (z : Str) : Bool := match d with
  | .str x => decide (x = z)
  | _ => false
end L2
namespace L2
open PySem PySem.Spec PyProof.Rows
theorem fresh_of {p c : Addr} {H Hk : Hp} {B : Int} (s : SameX p H Hk) (t : TapeAt Hk p B) (h : Hk c = none) : c ≠ p ∧ H c = none := by
  have n := t.ne h
  refine ⟨n, ?_⟩
  cases e : H c with
  | none => rfl
  | some o => rw [s _ _ n e] at h; cases h
theorem samex_upd {p c : Addr} {H H' : Hp} {o : HO} (s : SameX p H H') (h : H c = none) : SameX p H (upd H' c o) := fun b u n e => by
  rw [upd_ne (ne_of_none e h)]
  exact s b u n e
theorem TapeAt.upd {H : Hp} {p c : Addr} {B : Int} {o : HO} (t : TapeAt H p B) (n : c ≠ p) : TapeAt (upd H c o) p B := by
  obtain ⟨a, b, c', e, r⟩ := t
  exact ⟨a, b, c', by rw [upd_ne (Ne.symm n)]; exact e, r⟩
end L2
namespace L2
open PySem PySem.Spec PyProof.Rows
section
variable {ok : Addr → Prop} {σ : St} {H0 H : Hp} {ta tb te : TE} {tr : TA} {d e : PyData} {ds es : List PyData} {D : Ends} {i : Nat}
end
theorem Room.un200 {k : Nat} {A : Around} (r : Room k A) : A.units + 200 < cLine := by have := r.un; omega
end L2
namespace L2
open PySem PySem.Spec PyProof.Rows
theorem ixN_nat {n : Nat} {i : Int} (h0 : 0 ≤ i) (h : i < n) : ixN n i = some i.toNat := by
  unfold ixN
  rw [if_pos h0, if_pos h]
theorem TreesAt.one {ok : Addr → Prop} {H : Hp} {vs : List V} {d : PyData} (t : TreesAt ok H vs [d]) : ∃ v, vs = [v] ∧ TreeAt ok H v d := by
  cases t with
  | cons t r =>
    cases r
    exact ⟨_, rfl, t⟩
end L2
namespace L2
open PySem PySem.Spec PyProof.Rows
theorem nextOf_tuple_item {prog : Program} {w : World} {A : Around} {E : Value → Shared → Prop} {s : Shared} {it t : Addr} {i : Nat} {items : Array Value} {x : Value} {Q : Value → Shared → Prop} (hit : s.heap.IsTupleIter it t i) (ht : s.heap.IsTuple t items) (hx : items[i]? = some x)
    (hQ : ∀ h', h'.IsTupleIter it t (i + 1) → Heap.SameBut it s.heap h' → Q x { s with heap := h' }) : wpAny (model prog w) A (Builtin.SmallTypes.nextOf (Value.ref it)) Q E s := by
  obtain ⟨o, ho, hc, hd⟩ := id hit
  obtain ⟨ol, hol, hcl, nl, hdl⟩ := ht
  unfold Builtin.SmallTypes.nextOf
  refine wpAny_bind (wpAny_callSpecial?_slot hit.typeIs F.slot_tuple_iterator_next (wpAny_call_entry F.slot_tuple_iterator_next hit.typeIs F.entry_tuple_iterator_next ?_ (F.args_tuple_iterator_next_1 _)))
  refine wpAny_bind (wpAny_pure (wpAny_bind (wpAny_field ho hd (i := 0) rfl ?_)))
  refine wpAny_ite_false rfl (wpAny_bind (wpAny_field ho hd (i := 1) rfl ?_))
  refine wpAny_bind (wpAny_seqItems hol hdl ?_)
  show wpAny _ _ (match items[(i : Int).toNat]? with
    | some x => (do setField (.ref it) 1 (rawInt ((i : Int) + 1)); ret x)
    | none => _) _ _ _
  rw [Int.toNat_natCast, hx]
  refine wpAny_bind (wpAny_setField ho hd (Nat.lt_succ_self 1) (wpAny_pure ⟨x, rfl, wpAny_pure (hQ _ ?_ ?_)⟩))
  · refine ⟨_, Heap.get?_update_self _ ho (Obj.isFreed_of_fields (Obj.data_mapFields hd _)), (Obj.cls_mapFields o _).trans hc, ?_⟩
    rw [Obj.data_mapFields hd]
    rfl
  · exact Heap.SameBut.update s.heap it _
theorem nextOf_tuple_end {prog : Program} {w : World} {A : Around} {E : Value → Shared → Prop} {s : Shared} {it t : Addr} {i : Nat} {items : Array Value} {Q : Value → Shared → Prop} (hh : A.handled = none) (hit : s.heap.IsTupleIter it t i) (ht : s.heap.IsTuple t items) (hx : items[i]? = none)
    (hE : ∀ h' e, Heap.ExtBut it s.heap h' → (∃ o, h'.get? e = some o ∧ o.cls = Value.type "StopIteration") → E (.ref e) { s with heap := h' }) : wpAny (model prog w) A (Builtin.SmallTypes.nextOf (Value.ref it)) Q E s := by
  obtain ⟨o, ho, hc, hd⟩ := id hit
  obtain ⟨ol, hol, hcl, nl, hdl⟩ := ht
  unfold Builtin.SmallTypes.nextOf
  refine wpAny_bind (wpAny_callSpecial?_slot hit.typeIs F.slot_tuple_iterator_next (wpAny_call_entry F.slot_tuple_iterator_next hit.typeIs F.entry_tuple_iterator_next ?_ (F.args_tuple_iterator_next_1 _)))
  refine wpAny_bind (wpAny_pure (wpAny_bind (wpAny_field ho hd (i := 0) rfl ?_)))
  refine wpAny_ite_false rfl (wpAny_bind (wpAny_field ho hd (i := 1) rfl ?_))
  refine wpAny_bind (wpAny_seqItems hol hdl ?_)
  show wpAny _ _ (match items[(i : Int).toNat]? with
    | some x => _
    | none => (do rule (toString "tuple_iterator.__next__" ++ toString ".end"); setField (.ref it) 0 .none; Builtin.SmallTypes.stopIteration)) _ _ _
  rw [Int.toNat_natCast, hx]
  refine wpAny_bind (wpAny_rule (wpAny_bind (wpAny_setField ho hd (Nat.zero_lt_succ 1) ?_)))
  unfold Builtin.SmallTypes.stopIteration newExc
  refine wpAny_bind (wpAny_bind (wpAny_newObj_type ?_))
  refine wpAny_bind (wpAny_of_eq (a := .none) rfl ?_)
  refine wpAny_newObj_type ?_
  refine wpAny_raiseNew_none hh (hE _ _ ?_ ?_)
  · exact fun b ob hb e => Heap.get?_push_of_some _ (Heap.get?_push_of_some _ ((Heap.get?_update_other _ _ (Ne.symm hb)).trans e))
  · exact ⟨_, Heap.get?_push_size _ rfl, rfl⟩
section
variable {X : Cx}
end
theorem for_by {J : It} {g : TG} {tb : TS} {D : Ends} {σ : St} {H : Hp} {R : It → Hp → Prop} (hR : R = (fun J H1 => ∃ W : Nat → Nat → St → Hp → Prop, (∃ m, W 0 m σ H1) ∧ ∀ i m σ H, W i m σ H →
    (J.stop i H ∧ D.nx σ H) ∨ (J.go i H ∧ ∃ N : St → Hp → Prop, (∀ σ' H', N σ' H' → ∃ m', m' < m ∧ W (i + 1) m' σ' H') ∧ ∀ x H', J.yld i H x H' → g x σ H' fun σ2 H2 => tb { D with nx := N, ct := N, bk := D.nx } σ2 H2)))
    (n : Nat) (Pv : Nat → St → Hp → Prop) (h0 : Pv 0 σ H) (hgo : ∀ i σ H, i < n → Pv i σ H → J.go i H) (hst : ∀ σ H, Pv n σ H → J.stop n H)
    (hs : ∀ i σ H x H3, i < n → Pv i σ H → J.yld i H x H3 → g x σ H3 fun σ2 H2 => tb { D with nx := Pv (i + 1), ct := Pv (i + 1), bk := D.nx } σ2 H2) (hd : ∀ σ H, Pv n σ H → D.nx σ H) : R J H := by
  subst hR
  refine ⟨fun i m σ H2 => m = n - i ∧ i ≤ n ∧ Pv i σ H2, ⟨_, rfl, Nat.zero_le _, h0⟩, ?_⟩
  rintro i m σ H2 ⟨rfl, hi, p⟩
  by_cases hlt : i < n
  · exact .inr ⟨hgo i σ H2 hlt p, Pv (i + 1), fun σ' H' q => ⟨_, by omega, rfl, hlt, q⟩, fun x H3 y => hs i σ H2 x H3 hlt p y⟩
  · have e : i = n := by omega
    subst e
    exact .inl ⟨hst σ H2 p, hd σ H2 p⟩
end L2
namespace L2
open PySem PySem.Spec PyProof.Rows
section
variable {X : Cx} {e o : Expr} {te to : TE} {pos : Pos}
theorem fm_congr {α β : Type} {f g : α → Option β} : ∀ {l : List α}, (∀ x ∈ l, f x = g x) → l.filterMap f = l.filterMap g
  | [], _ => rfl
  | x :: l, h => by
    rw [List.filterMap_cons, List.filterMap_cons, h x List.mem_cons_self, fm_congr fun y hy => h y (List.mem_cons_of_mem _ hy)]
end
end L2
namespace L2
open PySem PySem.Spec PyProof.Rows
mutual
def szD (a : Nat) : PyData → Prop
  | .none => True
  | .bool _ => True
  | .int i => i.natAbs ≤ 10 ^ 20 * 2 ^ a
  | .str x => x.length ≤ 30 + a ∧ ∀ c ∈ x.cps.toList, c < 16 ^ 8
  | .list ds => ds.length ≤ 210 * 5 ^ a ∧ szAll a ds
  | .tuple ds => ds.length ≤ 210 * 5 ^ a ∧ szAll a ds
  | .dict _ => False
def szAll (a : Nat) : List PyData → Prop
  | [] => True
  | d :: ds => szD a d ∧ szAll a ds
end
theorem szAll_iff {a : Nat} : ∀ {ds : List PyData}, szAll a ds ↔ ∀ d ∈ ds, szD a d
  | [] => ⟨fun _ d h => (nomatch h), fun _ => trivial⟩
  | x :: ds => by
    show szD a x ∧ szAll a ds ↔ _
    rw [szAll_iff (ds := ds)]
    constructor
    · intro ⟨h1, h2⟩ d hd
      rcases List.mem_cons.mp hd with rfl | z
      · exact h1
      · exact h2 d z
    · intro h
      exact ⟨h x List.mem_cons_self, fun d hd => h d (List.mem_cons_of_mem _ hd)⟩
theorem pow5_le (a : Nat) : 210 * 5 ^ a ≤ 210 * 5 ^ (a + 1) := by rw [Nat.pow_succ]; omega
mutual
theorem szD_up {a : Nat} : ∀ {d : PyData}, szD a d → szD (a + 1) d
  | .none, _ => trivial
  | .bool _, _ => trivial
  | .int i, h => by
    have h' : i.natAbs ≤ 10 ^ 20 * 2 ^ a := h
    show i.natAbs ≤ 10 ^ 20 * 2 ^ (a + 1)
    rw [Nat.pow_succ]
    omega
  | .str x, h => ⟨by have := h.1; omega, h.2⟩
  | .list ds, h => ⟨Nat.le_trans h.1 (pow5_le a), szAll_up h.2⟩
  | .tuple ds, h => ⟨Nat.le_trans h.1 (pow5_le a), szAll_up h.2⟩
  | .dict _, h => h.elim
theorem szAll_up {a : Nat} : ∀ {ds : List PyData}, szAll a ds → szAll (a + 1) ds
  | [], _ => trivial
  | d :: ds, h => ⟨szD_up h.1, szAll_up h.2⟩
end
mutual
theorem shown_len3 : ∀ (d : PyData), szD 2 d → d.shown.length + 2 ≤ 400 * nodes d
  | .none, _ => by decide
  | .bool b, _ => by cases b <;> decide
  | .int i, h => by
    have h' : i.natAbs ≤ 10 ^ 20 * 2 ^ 2 := h
    have := int_len (i := i) (by omega)
    show (Str.ofString (toString i)).length + 2 ≤ 400 * 1
    omega
  | .str x, h => by
    have h1 := StrLaws.reprText_len x h.2
    have h2 := h.1
    show (reprText x).length + 2 ≤ 400 * 1
    omega
  | .list ds, h => by
    have h1 := shownAll_len3 ds h.2
    have h2 := listText_len_le (PyData.shownAll ds)
    rw [PyData.shown.eq_5, nodes]
    omega
  | .tuple ds, h => by
    have h1 := shownAll_len3 ds h.2
    have h2 := tupleText_len_le (PyData.shownAll ds)
    rw [PyData.shown.eq_6, nodes]
    omega
  | .dict kvs, h => h.elim
theorem shownAll_len3 : ∀ (ds : List PyData), szAll 2 ds → ((PyData.shownAll ds).map fun x => x.length).sum + 2 * (PyData.shownAll ds).length ≤ 400 * nodesAll ds
  | [], _ => by simp [PyData.shownAll, nodesAll]
  | d :: ds, h => by
    have h1 := shown_len3 d h.1
    have h2 := shownAll_len3 ds h.2
    rw [PyData.shownAll.eq_2, nodesAll, List.map_cons, List.sum_cons, List.length_cons]
    omega
end
mutual
theorem sz_show : ∀ (d : PyData), szD 2 d → d.showable = true ∧ d.hasDict = false
  | .none, _ => ⟨rfl, rfl⟩
  | .bool b, _ => ⟨rfl, rfl⟩
  | .int i, h => by
    refine ⟨?_, rfl⟩
    have h' : i.natAbs ≤ 10 ^ 20 * 2 ^ 2 := h
    show decide (i.natAbs.log2 < 1920) = true
    refine decide_eq_true ?_
    by_cases z : i.natAbs = 0
    · rw [z]; decide
    · have := (Nat.log2_lt (k := 70) z).mpr (by omega)
      omega
  | .str x, _ => ⟨rfl, rfl⟩
  | .list ds, h => by
    obtain ⟨h1, h2⟩ := sz_showAll ds h.2
    exact ⟨h1, h2⟩
  | .tuple ds, h => by
    obtain ⟨h1, h2⟩ := sz_showAll ds h.2
    exact ⟨h1, h2⟩
  | .dict kvs, h => h.elim
theorem sz_showAll : ∀ (ds : List PyData), szAll 2 ds → PyData.showableAll ds = true ∧ PyData.hasDictAll ds = false
  | [], _ => ⟨rfl, rfl⟩
  | d :: ds, h => by
    obtain ⟨h1, h2⟩ := sz_show d h.1
    obtain ⟨h3, h4⟩ := sz_showAll ds h.2
    refine ⟨?_, ?_⟩
    · rw [PyData.showableAll.eq_2, h1, h3]; rfl
    · rw [PyData.hasDictAll.eq_2, h2, h4]; rfl
end
structure Shw (d : PyData) : Prop where
  sh : d.showable = true
  nd : d.hasDict = false
  dp : d.depth ≤ 100
  ln : d.shown.length ≤ sizeLine
theorem shw_of {d : PyData} (h : szD 2 d) (hn : nodes d ≤ 40000) (hd : d.depth ≤ 100) : Shw d := by
  obtain ⟨h1, h2⟩ := sz_show d h
  have h3 := shown_len3 d h
  have h4 : 16000000 ≤ sizeLine := by decide
  exact ⟨h1, h2, hd, by omega⟩
def rReprS : List V → Hp → VK → Prop := fun xs H Q => ∃ v ok d, xs = [v] ∧ TreeAt ok H v d ∧ Shw d ∧ Q (.str d.shown) H
theorem call_reprS {X : Cx} (hg : X.A.guards = some []) (hu : X.A.units + 200 < cLine) : CallR X (.builtin "repr") rReprS := by
  intro pins s σ H xs us Q I r h
  obtain ⟨v, ok, d, rfl, t, ⟨sh, hd, hdp, hl⟩, q⟩ := h
  obtain ⟨u, rfl, rv⟩ := vals1 r
  have nodict : ∀ as : List Addr, d.hasDict = true → ¬ sysModules ∈ as := fun as z => by rw [hd] at z; cases z
  cases t with
  | non => cases rv; exact P.repr_of_none ⟨.str _, H, I.tok _, ⟨_, rfl⟩, q⟩
  | bl b => cases rv; exact P.repr_of_bool ⟨.str _, H, I.tok _, ⟨_, rfl⟩, q⟩
  | int i =>
    obtain ⟨t, rfl⟩ := rv
    exact P.repr_of_int (of_decide_eq_true sh) ⟨.str _, H, I.tok _, ⟨_, rfl⟩, q⟩
  | str x =>
    obtain ⟨t, rfl⟩ := rv
    exact P.repr_of_str ⟨.str _, H, I.tok _, ⟨_, rfl⟩, q⟩ hl
  | lst o e z t =>
    obtain ⟨as, rd⟩ := TreeAt.reads I (TreeAt.lst o e z t) rv
    cases rv
    exact repr_of_reads' rd sh (nodict as) hg (by omega) (fun _ _ z => z) (fun h' u tk k => ⟨.str _, H, I.kept k, ⟨_, rfl⟩, q⟩) hl
  | tup o e z t =>
    obtain ⟨as, rd⟩ := TreeAt.reads I (TreeAt.tup o e z t) rv
    cases rv
    exact repr_of_reads' rd sh (nodict as) hg (by omega) (fun _ _ z => z) (fun h' u tk k => ⟨.str _, H, I.kept k, ⟨_, rfl⟩, q⟩) hl
def okS (a : Nat) (x : Str) : Prop := x.length ≤ 30 + a ∧ ∀ c ∈ x.cps.toList, c < 16 ^ 8
theorem okS_of (s : String) (a : Nat) (h : s.length ≤ 30 + a) : okS a (Str.ofString s) := by
  refine ⟨by rw [PySem.ofString_length]; exact h, ?_⟩
  rw [PySem.Str.ofString_eq_toList]
  intro c hc
  obtain ⟨ch, _, rfl⟩ := List.mem_map.mp (by simpa using hc)
  have := ch.valid
  have h2 : ch.toNat < 1114112 := by
    rcases ch.valid with z | ⟨_, z⟩
    · have : ch.val.toNat < 55296 := z
      show ch.val.toNat < _
      omega
    · exact z
  omega
def valid : PyData → List Nat → Prop
  | _, [] => True
  | .list ds, i :: r => ∃ d, ds[i]? = some d ∧ valid d r
  | .tuple ds, i :: r => ∃ d, ds[i]? = some d ∧ valid d r
  | _, _ :: _ => False
theorem depthAll_mem {x : PyData} : ∀ {ds : List PyData}, x ∈ ds → x.depth ≤ PyData.depthAll ds
  | y :: ds, h => by
    rw [PyData.depthAll.eq_2]
    rcases List.mem_cons.mp h with rfl | z
    · omega
    · have := depthAll_mem z; omega
theorem depthAll_le {k : Nat} : ∀ {ds : List PyData}, (∀ d ∈ ds, d.depth ≤ k) → PyData.depthAll ds ≤ k
  | [], _ => Nat.zero_le _
  | x :: ds, h => by
    rw [PyData.depthAll.eq_2]
    have h1 := h x List.mem_cons_self
    have h2 := depthAll_le fun d hd => h d (List.mem_cons_of_mem _ hd)
    omega
end L2
namespace L2
open PySem PySem.Spec PyProof.Rows
theorem same_upd2 {H H' : Hp} {l : Addr} {o : HO} (s : Same H H') (h : H l = none) : Same H (upd H' l o) := fun b u e => by
  rw [upd_ne (ne_of_none e h)]
  exact s b u e
end L2
namespace L2
open PySem PySem.Spec PyProof.Rows
theorem szD_le {a : Nat} {d : PyData} (h : szD 0 d) : szD a d := by
  induction a with
  | zero => exact h
  | succ a ih => exact szD_up ih
end L2
namespace L2
open PySem PySem.Spec PyProof.Rows
section
variable {ok : Addr → Prop} {σ : St} {H0 : Hp}
end
end L2
namespace L2
open PySem PySem.Spec PyProof.Rows
theorem nodesAll_le {n : Nat} : ∀ {ds : List PyData}, (∀ d ∈ ds, nodes d ≤ n) → nodesAll ds ≤ ds.length * n
  | [], _ => Nat.zero_le _
  | x :: ds, h => by
    have h1 := h x List.mem_cons_self
    have h2 := nodesAll_le fun d hd => h d (List.mem_cons_of_mem _ hd)
    rw [nodesAll, List.length_cons, Nat.succ_mul]
    omega
end L2
namespace L2
open PySem PySem.Spec PyProof.Rows
section
variable {X : Cx} {a : Expr} {ta : TE}
def trq (ob : Option HO) (H : Hp) (Q : Bool → Hp → Prop) : Prop := match ob with
  | some (.lst xs) => Q (!xs.isEmpty) H
  | some (.tup xs) => Q (!xs.isEmpty) H
  | _ => False
def truK (x : V) (H : Hp) (Q : Bool → Hp → Prop) : Prop := match x with
  | .ref p => trq (H p) H Q
  | .bl b => Q b H
  | .int i => Q (i != 0) H
  | .non => Q false H
  | _ => False
def tTru (te : TE) : TT := fun σ H Q => te σ H fun x H1 => truK x H1 Q
theorem tTru_eq (te : TE) (σ : St) (H : Hp) (Q : Bool → Hp → Prop) : tTru te σ H Q = te σ H fun x H1 => truK x H1 Q := rfl
theorem truK_ref (p : Addr) (H : Hp) (Q : Bool → Hp → Prop) : truK (.ref p) H Q = trq (H p) H Q := rfl
theorem truK_int (i : Int) (H : Hp) (Q : Bool → Hp → Prop) : truK (.int i) H Q = Q (i != 0) H := rfl
theorem truK_bl (b : Bool) (H : Hp) (Q : Bool → Hp → Prop) : truK (.bl b) H Q = Q b H := rfl
theorem truK_non (H : Hp) (Q : Bool → Hp → Prop) : truK .non H Q = Q false H := rfl
theorem trq_lst (xs : List V) (H : Hp) (Q : Bool → Hp → Prop) : trq (some (.lst xs)) H Q = Q (!xs.isEmpty) H := rfl
theorem trq_tup (xs : List V) (H : Hp) (Q : Bool → Hp → Prop) : trq (some (.tup xs)) H Q = Q (!xs.isEmpty) H := rfl
end
def rd6 := And.intro @tTru_eq (And.intro @truK_ref (And.intro @truK_int (And.intro @truK_bl (And.intro @truK_non (And.intro @trq_lst @trq_tup)))))
end L2
namespace L2
open PySem PySem.Spec PyProof.Rows
end L2
namespace L2
open PySem PySem.Spec PyProof.Rows
theorem pick_int {is : List Int} {r : Int} (h0 : 0 ≤ r) (h : r < is.length) : ∃ i, i ∈ is ∧ atI (is.map V.int) r = some (.int i) := by
  have h1 : r.toNat < is.length := by omega
  refine ⟨is[r.toNat], List.getElem_mem h1, ?_⟩
  unfold atI
  rw [ixN_nat h0 (by rw [List.length_map]; omega)]
  show (is.map V.int)[r.toNat]? = _
  rw [List.getElem?_map, List.getElem?_eq_getElem h1]
  rfl
structure RowS (ss : List (Int × Int × Int)) : Prop where
  lh : ∀ (i : Nat) s, ss[i]? = some s → s.1 ≤ s.2.1 ∧ 0 ≤ s.2.2 ∧ s.2.2 ≤ 9
  nx : ∀ (i : Nat) s t, ss[i]? = some s → ss[i + 1]? = some t → t.1 = s.2.1 + 1
  bd : ∀ (i : Nat) s, ss[i]? = some s → -(10 ^ 12) ≤ s.1 ∧ s.2.1 ≤ 10 ^ 9 + (10 ^ 12 + 10) * (i + 1)
theorem RowS.nil : RowS [] := ⟨fun i s h => (by cases h), fun i s t h => (by cases h), fun i s h => (by cases h)⟩
end L2
namespace L2
open PySem PySem.Spec PyProof.Rows
theorem while_m {c : TT} {tb : TS} {D : Ends} {σ : St} {H : Hp} (Pv : St → Hp → Prop) (μ : St → Nat) (h0 : Pv σ H)
    (hs : ∀ σ H, Pv σ H → c σ H fun b H1 => if b = true then ∃ N : St → Hp → Prop, (∀ σ' H', N σ' H' → ∃ m', m' < μ σ ∧ m' = μ σ' ∧ Pv σ' H') ∧ tb { D with nx := N, ct := N, bk := D.nx } σ H1 else D.nx σ H1) : tWhile c tb D σ H :=
  ⟨fun m σ H => m = μ σ ∧ Pv σ H, ⟨_, rfl, h0⟩, by rintro m σ H ⟨rfl, p⟩; exact hs σ H p⟩
def optV : Option Int → V
  | some i => .int i
  | none => .non
end L2
namespace L2
open PySem PySem.Spec PyProof.Rows
end L2
namespace L2
open PySem PySem.Spec PyProof.Rows
section
variable {κ : Type} [DecidableEq κ]
def valV (kvs : List (κ × V)) (k : κ) : Option V := (kvs.find? fun kv => decide (kv.1 = k)).map (·.2)
def putK (kvs : List (κ × V)) (k : κ) (v : V) : List (κ × V) :=
  if (kvs.any fun kv => decide (kv.1 = k)) = true then kvs.map (fun kv => if kv.1 = k then (kv.1, v) else kv) else kvs ++ [(k, v)]
theorem valV_nil {k : κ} : valV ([] : List (κ × V)) k = none := rfl
theorem valV_pos {p : κ × V} {r : List (κ × V)} {k : κ} (e : p.1 = k) : valV (p :: r) k = some p.2 := by simp [valV, List.find?_cons, e]
theorem valV_neg {p : κ × V} {r : List (κ × V)} {k : κ} (e : ¬ p.1 = k) : valV (p :: r) k = valV r k := by simp [valV, List.find?_cons, e]
theorem valV_any (k : κ) : ∀ kvs : List (κ × V), (kvs.any fun kv => decide (kv.1 = k)) = (valV kvs k).isSome
  | [] => rfl
  | p :: r => by
    rw [List.any_cons]
    by_cases e : p.1 = k
    · simp only [valV_pos e, decide_eq_true e, Bool.true_or, Option.isSome_some]
    · rw [valV_neg e, decide_eq_false e, Bool.false_or]; exact valV_any k r
theorem valV_map (k j : κ) (y : V) : ∀ kvs : List (κ × V), valV (kvs.map fun kv => if kv.1 = k then (kv.1, y) else kv) j = (valV kvs j).map fun x => if j = k then y else x
  | [] => rfl
  | p :: r => by
    have ih := valV_map k j y r
    rw [List.map_cons]
    by_cases h : p.1 = k
    · rw [if_pos h]
      by_cases e : p.1 = j
      · rw [valV_pos (p := (p.1, y)) e, valV_pos e, Option.map_some, if_pos (e.symm.trans h)]
      · rw [valV_neg (p := (p.1, y)) e, valV_neg e, ih]
    · rw [if_neg h]
      by_cases e : p.1 = j
      · rw [valV_pos (p := p) e, valV_pos e, Option.map_some, if_neg (fun z => h (e.trans z))]
      · rw [valV_neg (p := p) e, valV_neg e, ih]
theorem valV_snoc (k j : κ) (y : V) : ∀ kvs : List (κ × V), valV kvs k = none → valV (kvs ++ [(k, y)]) j = if j = k then some y else valV kvs j
  | [], _ => by
    by_cases e : k = j
    · rw [if_pos e.symm]; exact valV_pos (p := (k, y)) e
    · rw [if_neg (fun z => e z.symm)]; exact valV_neg (p := (k, y)) e
  | p :: r, hn => by
    rw [List.cons_append]
    have hk : ¬ p.1 = k := fun z => by rw [valV_pos z] at hn; cases hn
    rw [valV_neg hk] at hn
    have ih := valV_snoc k j y r hn
    by_cases e : p.1 = j
    · rw [valV_pos e, valV_pos e, if_neg (fun z => hk (e.trans z))]
    · rw [valV_neg e, valV_neg e, ih]
theorem valV_put (kvs : List (κ × V)) (k j : κ) (y : V) : valV (putK kvs k y) j = if j = k then some y else valV kvs j := by
  unfold putK
  by_cases a : (kvs.any fun kv => decide (kv.1 = k)) = true
  · rw [if_pos a, valV_map]
    rw [valV_any] at a
    by_cases e : j = k
    · obtain ⟨x, hx⟩ := Option.isSome_iff_exists.mp a
      rw [if_pos e, e, hx, Option.map_some, if_pos rfl]
    · rw [if_neg e]
      cases valV kvs j with
      | none => rfl
      | some x => rw [Option.map_some, if_neg e]
  · rw [if_neg a]
    refine valV_snoc k j y kvs ?_
    rw [valV_any] at a
    cases q : valV kvs k with
    | none => rfl
    | some x => rw [q] at a; exact (a rfl).elim
theorem length_putK (kvs : List (κ × V)) (k : κ) (v : V) : (putK kvs k v).length ≤ kvs.length + 1 := by
  unfold putK
  split
  · rw [List.length_map]; omega
  · rw [List.length_append, List.length_cons, List.length_nil]; omega
theorem RelO.getD {o : Option V} {u : Option Value} {d : V} {d' : Value} (r : RelO o u) (rd : RelV d d') : RelV (o.getD d) (u.getD d') := by
  cases o with
  | none => cases u with
    | none => exact rd
    | some _ => exact (show False from r).elim
  | some _ => cases u with
    | none => exact (show False from r).elim
    | some _ => exact r
theorem KV.val {kvs : List (κ × V)} {vs : List (κ × Value)} (r : KV kvs vs) (k : κ) : RelO (valV kvs k) (valueAt vs k) := by
  unfold KV at r
  induction r with
  | nil => exact True.intro
  | @cons p q ps qs h t ih =>
    obtain ⟨h1, h2⟩ := h
    by_cases e : p.1 = k
    · have e' : q.1 = k := h1.symm.trans e
      have b : valueAt (q :: qs) k = some q.2 := by simp [valueAt, List.find?_cons, e']
      rw [valV_pos e, b]; exact h2
    · have e' : ¬ q.1 = k := fun z => e (h1.trans z)
      have b : valueAt (q :: qs) k = valueAt qs k := by simp [valueAt, List.find?_cons, e']
      rw [valV_neg e, b]; exact ih
theorem KV.any {kvs : List (κ × V)} {vs : List (κ × Value)} (r : KV kvs vs) (k : κ) : (kvs.any fun kv => decide (kv.1 = k)) = vs.any fun kv => decide (kv.1 = k) := by
  unfold KV at r
  induction r with
  | nil => rfl
  | cons h t ih => rw [List.any_cons, List.any_cons, ih, h.1]
theorem KV.repl {kvs : List (κ × V)} {vs : List (κ × Value)} (r : KV kvs vs) (k : κ) {y : V} {u : Value} (ry : RelV y u) :
    KV (kvs.map fun kv => if kv.1 = k then (kv.1, y) else kv) (vs.map fun kv => if kv.1 = k then (kv.1, u) else kv) := by
  unfold KV at r ⊢
  induction r with
  | nil => exact .nil
  | @cons p q ps qs h t ih =>
    rw [List.map_cons, List.map_cons]
    refine .cons ?_ ih
    obtain ⟨h1, h2⟩ := h
    by_cases e : p.1 = k
    · rw [if_pos e, if_pos (h1.symm.trans e)]; exact ⟨h1, ry⟩
    · rw [if_neg e, if_neg (fun z => e (h1.trans z))]; exact ⟨h1, h2⟩
theorem KV.put {kvs : List (κ × V)} {vs : List (κ × Value)} (r : KV kvs vs) (k : κ) {y : V} {u : Value} (ry : RelV y u) : KV (putK kvs k y) (stored vs k u) := by
  unfold putK stored
  rw [r.any k]
  by_cases e : (vs.any fun kv => decide (kv.1 = k)) = true
  · rw [if_pos e, if_pos e]; exact r.repl k ry
  · rw [if_neg e, if_neg e]; exact Paired.snoc r ⟨rfl, ry⟩
end
theorem kV_is {P : Program} {w : World} {k : Key} {u : Value} (r : RelV (kV k) u) : (mixKind P w).is k u = true := by
  cases k with
  | inl i => obtain ⟨t, e⟩ := (show ∃ t, u = Value.int i t from r); subst e; exact mixKind_int P w i t
  | inr x => obtain ⟨t, e⟩ := (show ∃ t, u = Value.str x t from r); subst e; exact mixKind_str P w x t
theorem items_are {P : Program} {w : World} : ∀ {ks : List Key} {us : List Value}, Vals (ks.map kV) us → ItemsAre (mixKind P w) ks us
  | [], _, r => by rw [List.map_nil] at r; cases r; exact .nil
  | k :: ks, _, r => by
    rw [List.map_cons] at r
    cases r with
    | cons h t => exact .cons (kV_is h) (items_are t)
abbrev KT (H : Hp) : List (List Key × V) → List (List Key × Addr × Value) → Prop := Paired fun p q => p.1 = q.1 ∧ H q.2.1 = some (.tup (p.1.map kV)) ∧ RelV p.2 q.2.2
theorem KT.val {H : Hp} {kvs : List (List Key × V)} {xs : List (List Key × Addr × Value)} (r : KT H kvs xs) (k : List Key) : RelO (valV kvs k) ((atKey xs k).map (·.2)) := by
  induction r with
  | nil => exact True.intro
  | @cons p q ps qs h t ih =>
    obtain ⟨h1, _, h2⟩ := h
    by_cases e : p.1 = k
    · have e' : q.1 = k := h1.symm.trans e
      have b : atKey (q :: qs) k = some q.2 := by simp [atKey, List.find?_cons, e']
      rw [valV_pos e, b]; exact h2
    · have e' : ¬ q.1 = k := fun z => e (h1.trans z)
      have b : atKey (q :: qs) k = atKey qs k := by simp [atKey, List.find?_cons, e']
      rw [valV_neg e, b]; exact ih
section
variable {P : Program} {w : World} {H : Hp} {h : Heap} {a : Addr}
theorem rd_of {u : HO} (ok : HOk P w H h) (e : Rd H a u) : ObjOk P w H h a u := e.ok ok
theorem dk_rd {kvs : List (Key × V)} (ok : HOk P w H h) (e : Rd H a (.dK kvs)) : kvs.length ≤ sizeLine ∧ (a == sysModules) = false ∧ ∃ vs, KV kvs vs ∧ h.DictOf (mixKind P w) a vs :=
  show ObjOk P w H h a (.dK kvs) from rd_of ok e
theorem key_of {ks : List Key} (ok : HOk P w H h) (e : H a = some (.tup (ks.map kV))) : (tupleKind (mixKind P w)).is h ks a := by
  obtain ⟨_, its, r, o, h1, h2, n, h3⟩ := (show ObjOk P w H h a (.tup (ks.map kV)) from ok a _ e)
  exact ⟨o, its.toArray, n, h1, h2, h3, by simpa using items_are r⟩
theorem dt_rd {kvs : List (List Key × V)} (ok : HOk P w H h) (e : Rd H a (.dT kvs)) : kvs.length ≤ sizeLine ∧ (a == sysModules) = false ∧
    ∃ xs, KT H kvs xs ∧ h.DictOfH (tupleKind (mixKind P w)) a xs := by
  obtain ⟨z, y, xs, r, o, es, ep, h1, h2, h3, h4, h5⟩ := (show ObjOk P w H h a (.dT kvs) from rd_of ok e)
  refine ⟨z, y, xs, r, o, es, ep, h1, h2, h3, h4, fun x hx => ?_, h5⟩
  have all : ∀ {l : List (List Key × V)} {m : List (List Key × Addr × Value)}, KT H l m → ∀ x ∈ m, (tupleKind (mixKind P w)).is h x.1 x.2.1 := by
    intro l m q
    induction q with
    | nil => intro x hx; exact nomatch hx
    | @cons p q ps qs hq t ih =>
      intro x hx
      rcases List.mem_cons.mp hx with e | hx
      · subst e
        exact key_of ok (by rw [← hq.1]; exact hq.2.1)
      · exact ih x hx
  exact all r x hx
end
def DGet (H : Hp) (a : Addr) (y : V) (r : Option V) : Prop :=
  (∃ kvs k, Rd H a (.dK kvs) ∧ y = kV k ∧ r = valV kvs k) ∨ ∃ kvs k b, Rd H a (.dT kvs) ∧ y = .ref b ∧ H b = some (.tup (k.map kV)) ∧ r = valV kvs k
def DPut (H : Hp) (a : Addr) (y v : V) (H' : Hp) : Prop :=
  (∃ kvs k, H a = some (.dK kvs) ∧ y = kV k ∧ kvs.length < sizeLine ∧ H' = upd H a (.dK (putK kvs k v))) ∨
  ∃ kvs k b, H a = some (.dT kvs) ∧ y = .ref b ∧ H b = some (.tup (k.map kV)) ∧ kvs.length < sizeLine ∧ H' = upd H a (.dT (putK kvs k v))
theorem DGet.k {H : Hp} {a : Addr} {kvs : List (Key × V)} {k : Key} (e : H a = some (.dK kvs)) : DGet H a (kV k) (valV kvs k) := .inl ⟨kvs, k, .inl e, rfl, rfl⟩
section
variable {X : Cx} {pins : List (Addr × Obj)} {σ : St} {H : Hp} {s : Shared} {a : Addr} {y v : V} {u r : Value} {o : Option V} {A : Around} {E : Value → Shared → Prop}
theorem Inv.big (I : Inv X pins σ H s) : sysModules < s.heap.objs.size := by
  have h : mainGlobals < s.heap.objs.size := (I.mod.glob.keeps I.bk).lt
  exact Nat.lt_trans (by decide) h
theorem d_getItem {Q : Value → Shared → Prop} (hu : A.units + 1 < cLine) (I : Inv X pins σ H s) (g : DGet H a y (some v)) (ry : RelV y u) (h : ∀ w' s', Inv X pins σ H s' → RelV v w' → Q w' s') :
    wpAny (model X.prog X.w) A (getItem (.ref a) u) Q E s := by
  rcases g with ⟨kvs, k, e, ey, l⟩ | ⟨kvs, k, b, e, ey, eb, l⟩
  · subst ey
    obtain ⟨z, hd, vs, rel, dd⟩ := dk_rd I.hok e
    obtain ⟨w', hw, rw'⟩ := RelO.some_of (v := v) (o := valueAt vs k) (by rw [l]; exact rel.val k)
    exact wpAny_getItem_of (kV_is ry) dd.mapOf hw (h w' _ (I.tok _) rw')
  · subst ey
    cases (show u = Value.ref b from ry)
    obtain ⟨z, hd, xs, rel, dd⟩ := dt_rd I.hok e
    obtain ⟨w', hw, rw'⟩ := RelO.some_of (v := v) (o := (atKey xs k).map (·.2)) (by rw [l]; exact rel.val k)
    obtain ⟨p, hp, hp2⟩ := Option.map_eq_some_iff.mp hw
    refine wpAny_getItem_heap (tupleKind_room_in1 hu) (key_of I.hok eb) dd hp ?_
    rw [hp2]
    exact h w' _ (I.tok _) rw'
theorem dk_new {P : Program} {w : World} {H' : Hp} {h' : Heap} {kvs : List (Key × V)} {vs : List (Key × Value)} (z : kvs.length ≤ sizeLine) (hd : (a == sysModules) = false) (rel : KV kvs vs) (dd : h'.DictOf (mixKind P w) a vs) :
    ObjOk P w H' h' a (.dK kvs) := ⟨z, hd, vs, rel, dd⟩
end
section
variable {X : Cx} {pins : List (Addr × Obj)} {σ : St} {H : Hp} {s : Shared} {a : Addr} {kvs : List (Key × V)} {k : Key} {u : Value} {A : Around} {E : Value → Shared → Prop}
end
def NoSl (i : Expr) : Prop := ∀ ov iv, subscripted i false ov iv = operate [ov, iv] (getItem ov iv)
theorem subD_of {prog : Program} {w : World} {A : Around} {E : Value → Shared → Prop} {s : Shared} {env : Env} {value slice : Expr} {pos : Pos} {T id : String} {Q : Value → Shared → Prop}
    (hl : typeLookup (.type T) "__getitem__" = pure (some (.builtin id))) (hs : NoSl slice)
    (h : wpAny (model prog w) A (eval value env) (fun o s₁ => wpAny (model prog w) A (eval slice env) (fun i s₂ => s₂.TypeIs o T ∧ wpAny (model prog w) A (getItem o i) Q E s₂) E s₁) E s) :
    wpAny (model prog w) A (eval (.Subscript value slice pos) env) Q E s := by
  refine Subscript_ (wpAny_mono h (fun o s₁ h₁ => wpAny_mono h₁ (fun i s₂ h₂ => ?_) fun _ _ x => x) fun _ _ x => x)
  obtain ⟨hT, h₂⟩ := h₂
  unfold subscriptTail
  refine wpAny_bind ?_
  rw [getitemInPython_of_ne hT.not_modules]
  refine wpAny_bind (wpAny_specialOf hT hl ?_)
  have fin : wpAny (model prog w) A (subscripted slice false o i) (fun r s₃ => wpAny (model prog w) A (letTemporaryGo value o r >>= fun _ => pure r) Q E s₃) E s₂ := by
    rw [hs o i]
    exact wpAny_operating (wpAny_mono h₂ (fun r s₃ h₃ => wpAny_bind (wpAny_letTemporaryGo (wpAny_pure h₃))) fun _ _ x => x)
  first
    | exact wpAny_pure (wpAny_bind fin)
    | exact wpAny_bind (wpAny_pure (wpAny_bind fin))
    | exact wpAny_bind fin
theorem dict_typeIs {X : Cx} {pins : List (Addr × Obj)} {σ : St} {H : Hp} {s : Shared} {a : Addr} {y : V} {o : Option V} (I : Inv X pins σ H s) (g : DGet H a y o) : s.TypeIs (.ref a) "dict" := by
  rcases g with ⟨kvs, k, e, _, _⟩ | ⟨kvs, k, b, e, _, _, _⟩
  · obtain ⟨_, _, vs, _, dd⟩ := dk_rd I.hok e
    exact dd.typeIs
  · obtain ⟨_, _, xs, _, dd⟩ := dt_rd I.hok e
    exact dd.typeIs
def tDGet (td ty : TE) : TE := fun σ H Q => td σ H fun x H1 => ty σ H1 fun y H2 => ∃ a v, x = .ref a ∧ DGet H2 a y (some v) ∧ Q v H2
section
variable {X : Cx} {o i e value : Expr} {pos pos' tpos : Pos} {td ty tv : TE}
theorem pe_dget (hu : X.A.units + 1 < cLine) (ho : PE X o td) (hi : PE X i ty) (hs : NoSl i) : PE X (.Subscript o i pos) (tDGet td ty) := by
  intro pins s σ H Q I h
  refine subD_of PySem.F.slot_dict_getitem.lookup hs (thn (ho pins s σ H _ I h) fun u s1 ⟨x, H1, I1, rx, q1⟩ => thn (hi pins s1 σ H1 _ I1 q1) fun iv s2 ⟨y, H2, I2, ry, a, v, ex, g, q2⟩ => ?_)
  subst ex
  obtain rfl : u = Value.ref a := rx
  exact ⟨dict_typeIs I2 g, d_getItem hu I2 g ry fun w' s3 I3 rw' => ⟨v, H2, I3, rw', q2⟩⟩
end
theorem dk_empty {P : Program} {w : World} {H : Hp} (h : Heap) (hb : sysModules < h.objs.size) : ObjOk P w H (h.push { cls := .type "dict", data := .dict #[] }) h.objs.size (.dK []) :=
  ⟨Nat.zero_le _, beq_eq_false_iff_ne.mpr (Ne.symm (Nat.ne_of_lt hb)), [], .nil, Heap.DictOf.new h⟩
section
variable {X : Cx} {pos : Pos}
end
def tPairs : List (TE × TE) → St → Hp → (List (V × V) → Hp → Prop) → Prop
  | [], _, H, Q => Q [] H
  | (tk, tv) :: r, σ, H, Q => tk σ H fun x H1 => tv σ H1 fun y H2 => tPairs r σ H2 fun ps H3 => Q ((x, y) :: ps) H3
def mergeK (kvs more : List (Key × V)) : List (Key × V) := more.foldl (fun acc kv => putK acc kv.1 kv.2) kvs
theorem KV.merge : ∀ {more : List (Key × V)} {rs : List (Key × Value)} {kvs : List (Key × V)} {vs : List (Key × Value)}, KV more rs → KV kvs vs → KV (mergeK kvs more) (merged vs rs) := by
  intro more rs kvs vs r
  unfold KV at r
  induction r generalizing kvs vs with
  | nil => intro q; exact q
  | @cons p q ps qs h t ih =>
    intro r0
    have e : KV (putK kvs p.1 p.2) (stored vs q.1 q.2) := by
      have := r0.put p.1 h.2
      rw [← h.1]; exact this
    exact ih e
theorem length_mergeK : ∀ (more kvs : List (Key × V)), (mergeK kvs more).length ≤ kvs.length + more.length
  | [], kvs => by show kvs.length ≤ kvs.length + 0; omega
  | p :: r, kvs => by
    have h1 := length_mergeK r (putK kvs p.1 p.2)
    have h2 := length_putK kvs p.1 p.2
    show (mergeK (putK kvs p.1 p.2) r).length ≤ _
    rw [List.length_cons]; omega
def tDisp (trs : List (TE × TE)) : TE := fun σ H Q => ∀ p, H p = none → tPairs trs σ (upd H p (.dK [])) fun ps H2 => H2 p = some (.dK []) ∧ ∃ kvs : List (Key × V), ps = kvs.map (fun kv => (kV kv.1, kv.2)) ∧ kvs.length ≤ 15 ∧ Q (.ref p) (upd H2 p (.dK (mergeK [] kvs)))
structure M2 (X : Cx) (o : Expr) (m : Str) (apos : Pos) (e f : Expr) (cpos : Pos) : Prop where
  base : attributeBase o m X.env (eval o X.env) = eval o X.env
  few : ((backTo cpos (starEach [e, f] X.env)).all (fun x => !x.1) && (backToKw cpos (keywordEach [] X.env)).all (fun x => x.1.isSome)
    && decide (([e, f] : List Expr).length + ([] : List Keyword).length + (if ([] : List Keyword).isEmpty then 0 else 1) < 30)) = true
  line : (apos.endLine == cpos.line) = true
  trees : backTo cpos (starEach [e, f] X.env) = [(false, eval e X.env), (false, eval f X.env)]
def IsD (H : Hp) (a : Addr) : Prop := (∃ kvs, Rd H a (.dK kvs)) ∨ ∃ kvs, Rd H a (.dT kvs)
theorem isD_at {X : Cx} {pins : List (Addr × Obj)} {σ : St} {H : Hp} {s : Shared} {a : Addr} (I : Inv X pins σ H s) (d : IsD H a) :
    s.TypeIs (.ref a) "dict" ∧ (∀ b, Value.ref a = .ref b → ∃ ob, s.heap.get? b = some ob ∧ ob.dict = none) ∧ (a == sysModules) = false := by
  rcases d with ⟨kvs, e⟩ | ⟨kvs, e⟩
  · obtain ⟨_, hd, vs, _, dd⟩ := dk_rd I.hok e
    refine ⟨dd.typeIs, fun b q => ?_, hd⟩
    cases q
    obtain ⟨ob, _, _, h1, h2, _⟩ := dd
    exact ⟨ob, h1, h2.2.1⟩
  · obtain ⟨_, hd, xs, _, dd⟩ := dt_rd I.hok e
    refine ⟨dd.typeIs, fun b q => ?_, hd⟩
    cases q
    obtain ⟨ob, _, _, h1, h2, _⟩ := dd
    exact ⟨ob, h1, h2.2.1⟩
section
variable {X : Cx} {pins : List (Addr × Obj)} {σ : St} {H : Hp} {s : Shared} {a : Addr} {y d : V} {u r : Value} {o : Option V} {A : Around} {E : Value → Shared → Prop}
theorem d_get2 {Q : Value → Shared → Prop} (hu : A.units + 1 < cLine) (I : Inv X pins σ H s) (g : DGet H a y o) (ry : RelV y u) (rd : RelV d r) (h : ∀ w' s', Inv X pins σ H s' → RelV (o.getD d) w' → Q w' s') :
    wpAny (model X.prog X.w) A (call (.builtin "dict.get") [.ref a, u, r]) Q E s := by
  rcases g with ⟨kvs, k, e, ey, l⟩ | ⟨kvs, k, b, e, ey, eb, l⟩
  · subst ey
    obtain ⟨z, hd, vs, rel, dd⟩ := dk_rd I.hok e
    refine call_meetsIn PySem.F.slot_dict_get dd.typeIs PySem.F.entry_dict_get (PySem.F.args_dict_get_3 _ _ _) (meets_dict_get_default (mixKind X.prog X.w) a (kV_is ry) hd r) ⟨_, dd.mapOf, h _ _ (I.tok _) ?_⟩
    rw [l]
    exact (rel.val k).getD rd
  · subst ey
    cases (show u = Value.ref b from ry)
    obtain ⟨z, hd, xs, rel, dd⟩ := dt_rd I.hok e
    refine call_meetsIn PySem.F.slot_dict_get dd.typeIs PySem.F.entry_dict_get (PySem.F.args_dict_get_3 _ _ _) (meetsH_dict_get_default (tupleKind (mixKind X.prog X.w)) a b hd r) ⟨tupleKind_room_in1 hu, k, xs, key_of I.hok eb, dd, h _ _ (I.tok _) ?_⟩
    rw [l]
    exact (rel.val k).getD rd
end
def tDGet2 (td ty tx : TE) : TE := fun σ H Q => td σ H fun x H1 => ∃ a, x = .ref a ∧ IsD H1 a ∧ ty σ H1 fun y H2 => tx σ H2 fun z H3 => ∃ o, DGet H3 a y o ∧ Q (o.getD z) H3
section
variable {X : Cx} {o e f : Expr} {apos cpos : Pos} {td ty tx : TE}
theorem pe_dget2 (hu : X.A.units + 1 < cLine) (ho : PE X o td) (he : PE X e ty) (hf : PE X f tx) (m : M2 X o "get" apos e f cpos) : PE X (.Call (.Attribute o "get" apos) [e, f] [] cpos) (tDGet2 td ty tx) := by
  intro pins s σ H Q I h
  refine wpAny_Call_method m.base m.few m.line PySem.F.plainAttrs_dict PySem.F.slot_dict_get PySem.F.type_dict_get (thn (ho pins s σ H _ I h) fun u s1 ⟨x, H1, I1, rx, a, ex, d, q1⟩ => ?_)
  subst ex
  obtain rfl : u = Value.ref a := rx
  obtain ⟨t1, t2, _⟩ := isD_at I1 d
  refine ⟨t1, t2, ?_⟩
  rw [m.trees]
  refine Calls.callWith_builtin rfl (Calls.evalArgs_plain (Calls.spliced_cons (thn (he pins s1 σ H1 _ I1 q1) fun iv s2 ⟨y, H2, I2, ry, q2⟩ =>
    Calls.spliced_cons (thn (hf pins s2 σ H2 _ I2 q2) fun fv s3 ⟨z, H3, I3, rz, ov, g, q3⟩ => Calls.spliced_nil ?_))))
  exact d_get2 hu I3 g ry rz fun w' s4 I4 rw' => ⟨_, H3, I4, rw', q3⟩
end
section
variable {X : Cx} {pins : List (Addr × Obj)} {σ : St} {H : Hp} {s : Shared} {a : Addr} {kvs : List (Key × V)} {A : Around} {E : Value → Shared → Prop}
end
section
variable {X : Cx} {pins : List (Addr × Obj)} {σ : St} {H : Hp} {s : Shared} {a : Addr} {y : V} {u : Value} {A : Around} {E : Value → Shared → Prop}
end
end L2
namespace L2
open PySem PySem.Spec PyProof.Rows
theorem Room.units1 {k : Nat} {A : Around} (r : Room k A) : A.units + 1 < cLine := by have := r.un; omega
theorem Room.un1 {k : Nat} {A : Around} (r : Room k A) : A.in1.units < cLine := by
  have := r.un
  show A.units + 1 < cLine
  omega
section
variable {X : Cx} {pos : Pos}
theorem qe_dget2 {o e f : Expr} {apos cpos : Pos} {td ty tx : TE} (hu : X.A.units + 1 < cLine) (ho : QE X o td) (he : QE X e ty) (hf : QE X f tx) (m : M2 X o "get" apos e f cpos) : QE X (.Call (.Attribute o "get" apos) [e, f] [] cpos) (tDGet2 td ty tx) := ⟨pe_dget2 hu ho.h he.h hf.h m⟩
end
def numD : PyData → Int
  | .int i => i
  | _ => 0
def shapeI (w : Str) : List Int → Bool
  | [a] => decide (w = "pick") && decide (0 ≤ a)
  | [_, _] => decide (w = "is") || decide (w = "below")
  | [a, b, _] => decide (w = "within") && decide (a ≤ b)
  | [_, wd, bits, _] => decide (w = "mask") && ((decide (1 ≤ wd) && decide (wd ≤ 64)) && (decide (0 ≤ bits) && decide (bits < 2 ^ wd.toNat)))
  | _ => false
def lastI (is : List Int) : List Int := match is.getLast? with
  | some t => [t]
  | none => []
def goalI (w : Str) (is : List Int) : List Int := if w = "pick" then [] else lastI is
def tabD : List PyData → Option (List PyData)
  | [.int _, .tuple gs] => if (!gs.isEmpty && gs.all isNumD) = true then some gs else none
  | _ => none
def shapeD : PyData → Bool
  | .tuple (.str w :: ps) => if w = "table" then (tabD ps).isSome else ps.all isNumD && shapeI w (ps.map numD)
  | _ => false
def goalsD : PyData → List Int
  | .tuple (.str w :: ps) => if w = "table" then ((tabD ps).getD []).map numD else goalI w (ps.map numD)
  | _ => []
def btw (own many : Int) (t : Int) : Bool := decide (own < t) && decide (t < many)
def rowOkD (own many : Int) (d : PyData) : Bool := shapeD d && (goalsD d).all (btw own many)
theorem TreesAt.ints {ok : Addr → Prop} {H : Hp} : ∀ {xs : List V} {is : List Int}, TreesAt ok H xs (is.map PyData.int) → xs = is.map V.int
  | _, [], .nil => rfl
  | _, i :: is, .cons h r => by
    cases h
    rw [r.ints]
    rfl
theorem treesInts {ok : Addr → Prop} {H : Hp} : ∀ (is : List Int), TreesAt ok H (is.map V.int) (is.map PyData.int)
  | [] => .nil
  | i :: is => .cons (.int i) (treesInts is)
def rd7 := And.intro @tDisp.eq_1 (And.intro @tPairs.eq_1 (And.intro @tPairs.eq_2 @tDGet2.eq_1))
end L2
namespace L2
open PySem PySem.Spec PyProof.Rows
end L2
namespace L2
open PySem PySem.Spec PyProof.Rows
end L2
namespace L2
open PySem PySem.Spec PyProof.Rows
theorem andF {p : Prop} [Decidable p] {b : Bool} (h : ¬ p) : (decide p && b) = false := by rw [decide_eq_false h, Bool.false_and]
theorem andT {p : Prop} [Decidable p] {b : Bool} (h : p) : (decide p && b) = b := by rw [decide_eq_true h, Bool.true_and]
theorem numD_map (is : List Int) : (is.map PyData.int).map numD = is := by
  rw [List.map_map]
  exact (List.map_congr_left fun a _ => rfl).trans (List.map_id is)
theorem isNum_map (is : List Int) : (is.map PyData.int).all isNumD = true := by
  rw [List.all_eq_true]
  intro d hd
  obtain ⟨i, _, rfl⟩ := List.mem_map.mp hd
  rfl
theorem row_ints {own many : Int} {dw : PyData} {is : List Int} (h1 : isStrD dw "table" = false) : rowOkD own many (.tuple (dw :: is.map PyData.int)) = (match dw with | .str w => shapeI w is && (goalI w is).all (btw own many) | _ => false) := by
  cases dw with
  | str w =>
    have : w ≠ "table" := fun z => by rw [z] at h1; exact absurd h1 (by decide +kernel)
    unfold rowOkD shapeD goalsD
    simp only [if_neg this, isNum_map, numD_map, Bool.true_and]
  | _ => rfl
theorem row_pick (own many : Int) (is : List Int) : rowOkD own many (.tuple (.str "pick" :: is.map PyData.int)) = (match is with | [a] => decide (0 ≤ a) | _ => false) := by
  rw [row_ints (by decide +kernel)]
  show (shapeI "pick" is && (goalI "pick" is).all (btw own many)) = _
  rw [show goalI "pick" is = [] from if_pos rfl, List.all_nil, Bool.and_true]
  match is with
  | [] => rfl
  | [a] => show (decide (("pick" : Str) = "pick") && decide (0 ≤ a)) = decide (0 ≤ a); rw [decide_eq_true rfl, Bool.true_and]
  | [a, b] => exact (by decide +kernel : (decide (("pick" : Str) = "is") || decide (("pick" : Str) = "below")) = false)
  | [a, b, c] => exact andF (p := ("pick" : Str) = "within") (b := decide (a ≤ b)) (by decide +kernel)
  | [a, b, c, d] => exact andF (p := ("pick" : Str) = "mask") (b := (decide (1 ≤ b) && decide (b ≤ 64)) && (decide (0 ≤ c) && decide (c < 2 ^ b.toNat))) (by decide +kernel)
  | a :: b :: c :: d :: e :: r => rfl
theorem goalI_last {w : Str} {is : List Int} {t : Int} (h : w ≠ "pick") (hl : is.getLast? = some t) : goalI w is = [t] := by
  unfold goalI lastI
  rw [if_neg h, hl]
theorem shape_isbelow {w : Str} (h : w = "is" ∨ w = "below") (is : List Int) : shapeI w is = decide (is.length = 2) := by
  have h3 : decide (w = "pick") = false := decide_eq_false (by rcases h with rfl | rfl <;> decide +kernel)
  have h4 : decide (w = "within") = false := decide_eq_false (by rcases h with rfl | rfl <;> decide +kernel)
  have h5 : decide (w = "mask") = false := decide_eq_false (by rcases h with rfl | rfl <;> decide +kernel)
  match is with
  | [] => rfl
  | [a] => show (decide (w = "pick") && _) = _; rw [h3]; rfl
  | [a, b] =>
    show (decide (w = "is") || decide (w = "below")) = true
    rcases h with z | z
    · rw [decide_eq_true z, Bool.true_or]
    · rw [decide_eq_true z, Bool.or_true]
  | [a, b, c] => show (decide (w = "within") && _) = _; rw [h4]; rfl
  | [a, b, c, d] => show (decide (w = "mask") && _) = _; rw [h5]; rfl
  | a :: b :: c :: d :: e :: r => show false = decide (r.length + 5 = 2); exact (decide_eq_false (by omega)).symm
theorem shape_within (is : List Int) : shapeI "within" is = (match is with | [a, b, _] => decide (a ≤ b) | _ => false) := by
  match is with
  | [] => rfl
  | [a] => exact andF (p := ("within" : Str) = "pick") (b := decide (0 ≤ a)) (by decide +kernel)
  | [a, b] => exact (by decide +kernel : (decide (("within" : Str) = "is") || decide (("within" : Str) = "below")) = false)
  | [a, b, c] => show (decide (("within" : Str) = "within") && decide (a ≤ b)) = decide (a ≤ b); rw [decide_eq_true rfl, Bool.true_and]
  | [a, b, c, d] => exact andF (p := ("within" : Str) = "mask") (b := (decide (1 ≤ b) && decide (b ≤ 64)) && (decide (0 ≤ c) && decide (c < 2 ^ b.toNat))) (by decide +kernel)
  | a :: b :: c :: d :: e :: r => rfl
theorem shape_mask (is : List Int) : shapeI "mask" is = (match is with | [_, wd, bits, _] => (decide (1 ≤ wd) && decide (wd ≤ 64)) && (decide (0 ≤ bits) && decide (bits < 2 ^ wd.toNat)) | _ => false) := by
  match is with
  | [] => rfl
  | [a] => exact andF (p := ("mask" : Str) = "pick") (b := decide (0 ≤ a)) (by decide +kernel)
  | [a, b] => exact (by decide +kernel : (decide (("mask" : Str) = "is") || decide (("mask" : Str) = "below")) = false)
  | [a, b, c] => exact andF (p := ("mask" : Str) = "within") (b := decide (a ≤ b)) (by decide +kernel)
  | [a, b, c, d] => exact andT (p := ("mask" : Str) = "mask") (b := (decide (1 ≤ b) && decide (b ≤ 64)) && (decide (0 ≤ c) && decide (c < 2 ^ b.toNat))) rfl
  | a :: b :: c :: d :: e :: r => rfl
theorem shape_other {w : Str} (h1 : w ≠ "is") (h2 : w ≠ "below") (h3 : w ≠ "within") (h4 : w ≠ "mask") (h5 : w ≠ "pick") (is : List Int) : shapeI w is = false := by
  match is with
  | [] => rfl
  | [a] => exact andF h5
  | [a, b] => show (decide (w = "is") || decide (w = "below")) = _; rw [decide_eq_false h1, decide_eq_false h2]; rfl
  | [a, b, c] => exact andF h3
  | [a, b, c, d] => exact andF h4
  | a :: b :: c :: d :: e :: r => rfl
end L2
namespace L2
open PySem PySem.Spec PyProof.Rows
end L2
namespace L2
open PySem PySem.Spec PyProof.Rows
end L2
namespace L2
open PySem PySem.Spec PyProof.Rows
theorem nw_is_within : (("is" : Str) = "within") = False := eq_false (by decide +kernel)
theorem nw_is_below : (("is" : Str) = "below") = False := eq_false (by decide +kernel)
theorem nw_is_mask : (("is" : Str) = "mask") = False := eq_false (by decide +kernel)
theorem nw_is_pick : (("is" : Str) = "pick") = False := eq_false (by decide +kernel)
theorem nw_is_table : (("is" : Str) = "table") = False := eq_false (by decide +kernel)
theorem nw_within_is : (("within" : Str) = "is") = False := eq_false (by decide +kernel)
theorem nw_within_below : (("within" : Str) = "below") = False := eq_false (by decide +kernel)
theorem nw_within_mask : (("within" : Str) = "mask") = False := eq_false (by decide +kernel)
theorem nw_within_pick : (("within" : Str) = "pick") = False := eq_false (by decide +kernel)
theorem nw_within_table : (("within" : Str) = "table") = False := eq_false (by decide +kernel)
theorem nw_below_is : (("below" : Str) = "is") = False := eq_false (by decide +kernel)
theorem nw_below_within : (("below" : Str) = "within") = False := eq_false (by decide +kernel)
theorem nw_below_mask : (("below" : Str) = "mask") = False := eq_false (by decide +kernel)
theorem nw_below_pick : (("below" : Str) = "pick") = False := eq_false (by decide +kernel)
theorem nw_below_table : (("below" : Str) = "table") = False := eq_false (by decide +kernel)
theorem nw_mask_is : (("mask" : Str) = "is") = False := eq_false (by decide +kernel)
theorem nw_mask_within : (("mask" : Str) = "within") = False := eq_false (by decide +kernel)
theorem nw_mask_below : (("mask" : Str) = "below") = False := eq_false (by decide +kernel)
theorem nw_mask_pick : (("mask" : Str) = "pick") = False := eq_false (by decide +kernel)
theorem nw_mask_table : (("mask" : Str) = "table") = False := eq_false (by decide +kernel)
theorem nw_pick_is : (("pick" : Str) = "is") = False := eq_false (by decide +kernel)
theorem nw_pick_within : (("pick" : Str) = "within") = False := eq_false (by decide +kernel)
theorem nw_pick_below : (("pick" : Str) = "below") = False := eq_false (by decide +kernel)
theorem nw_pick_mask : (("pick" : Str) = "mask") = False := eq_false (by decide +kernel)
theorem nw_pick_table : (("pick" : Str) = "table") = False := eq_false (by decide +kernel)
theorem nw_table_is : (("table" : Str) = "is") = False := eq_false (by decide +kernel)
theorem nw_table_within : (("table" : Str) = "within") = False := eq_false (by decide +kernel)
theorem nw_table_below : (("table" : Str) = "below") = False := eq_false (by decide +kernel)
theorem nw_table_mask : (("table" : Str) = "mask") = False := eq_false (by decide +kernel)
theorem nw_table_pick : (("table" : Str) = "pick") = False := eq_false (by decide +kernel)
def rdW := And.intro @nw_is_within (And.intro @nw_is_below (And.intro @nw_is_mask (And.intro @nw_is_pick (And.intro @nw_is_table (And.intro @nw_within_is (And.intro @nw_within_below (And.intro @nw_within_mask (And.intro @nw_within_pick (And.intro @nw_within_table (And.intro @nw_below_is (And.intro @nw_below_within (And.intro @nw_below_mask (And.intro @nw_below_pick (And.intro @nw_below_table (And.intro @nw_mask_is (And.intro @nw_mask_within (And.intro @nw_mask_below (And.intro @nw_mask_pick (And.intro @nw_mask_table (And.intro @nw_pick_is (And.intro @nw_pick_within (And.intro @nw_pick_below (And.intro @nw_pick_mask (And.intro @nw_pick_table (And.intro @nw_table_is (And.intro @nw_table_within (And.intro @nw_table_below (And.intro @nw_table_mask (@nw_table_pick)))))))))))))))))))))))))))))
def sizeW (w : Str) : Int := if w = "is" then 3 else if w = "within" then 4 else if w = "below" then 3 else if w = "mask" then 5 else if w = "pick" then 2 else 0
theorem size_cases (w : Str) : (w = "is" ∧ sizeW w = 3) ∨ (w = "within" ∧ sizeW w = 4) ∨ (w = "below" ∧ sizeW w = 3) ∨ (w = "mask" ∧ sizeW w = 5) ∨ (w = "pick" ∧ sizeW w = 2) ∨ (sizeW w = 0 ∧ w ≠ "is" ∧ w ≠ "below" ∧ w ≠ "within" ∧ w ≠ "mask" ∧ w ≠ "pick") := by
  unfold sizeW
  by_cases h1 : w = "is"
  · exact .inl ⟨h1, if_pos h1⟩
  by_cases h2 : w = "within"
  · exact .inr (.inl ⟨h2, by rw [if_neg h1, if_pos h2]⟩)
  by_cases h3 : w = "below"
  · exact .inr (.inr (.inl ⟨h3, by rw [if_neg h1, if_neg h2, if_pos h3]⟩))
  by_cases h4 : w = "mask"
  · exact .inr (.inr (.inr (.inl ⟨h4, by rw [if_neg h1, if_neg h2, if_neg h3, if_pos h4]⟩)))
  by_cases h5 : w = "pick"
  · exact .inr (.inr (.inr (.inr (.inl ⟨h5, by rw [if_neg h1, if_neg h2, if_neg h3, if_neg h4, if_pos h5]⟩))))
  · exact .inr (.inr (.inr (.inr (.inr ⟨by rw [if_neg h1, if_neg h2, if_neg h3, if_neg h4, if_neg h5], h1, h3, h2, h4, h5⟩))))
theorem shapeI_len {w : Str} {is : List Int} (h : sizeW w ≠ (is.length : Int) + 1) : shapeI w is = false := by
  rcases size_cases w with ⟨rfl, e⟩ | ⟨rfl, e⟩ | ⟨rfl, e⟩ | ⟨rfl, e⟩ | ⟨rfl, e⟩ | ⟨e, h1, h2, h3, h4, h5⟩
  · rw [shape_isbelow (.inl rfl)]; exact decide_eq_false (by rw [e] at h; omega)
  · rw [shape_within]
    match is, h with
    | [], _ => rfl
    | [a], _ => rfl
    | [a, b], _ => rfl
    | [a, b, c], h => exact absurd e h
    | a :: b :: c :: d :: r, _ => rfl
  · rw [shape_isbelow (.inr rfl)]; exact decide_eq_false (by rw [e] at h; omega)
  · rw [shape_mask]
    match is, h with
    | [], _ => rfl
    | [a], _ => rfl
    | [a, b], _ => rfl
    | [a, b, c], _ => rfl
    | [a, b, c, d], h => exact absurd e h
    | a :: b :: c :: d :: f :: r, _ => rfl
  · have := row_pick 0 0 is
    rw [row_ints (by decide +kernel)] at this
    replace this : (shapeI "pick" is && (goalI "pick" is).all (btw 0 0)) = _ := this
    rw [show goalI "pick" is = [] from if_pos rfl, List.all_nil, Bool.and_true] at this
    rw [this]
    match is, h with
    | [], _ => rfl
    | [a], h => exact absurd e h
    | a :: b :: r, _ => rfl
  · exact shape_other h1 h2 h3 h4 h5 is
end L2
namespace L2
open PySem PySem.Spec PyProof.Rows
theorem Same.none {H H' : Hp} (s : Same H H') {p : Addr} (h : H' p = none) : H p = none := by
  cases e : H p with
  | none => rfl
  | some o => rw [s _ _ e] at h; cases h
end L2
namespace L2
open PySem PySem.Spec PyProof.Rows
theorem len2 {is : List Int} (h : is.length = 2) : ∃ a b, is = [a, b] := by
  match is, h with
  | [a, b], _ => exact ⟨a, b, rfl⟩
theorem len1 {is : List Int} (h : is.length = 1) : ∃ a, is = [a] := by
  match is, h with
  | [a], _ => exact ⟨a, rfl⟩
end L2
namespace L2
open PySem PySem.Spec PyProof.Rows
end L2
namespace L2
open PySem PySem.Spec PyProof.Rows
end L2
namespace L2
open PySem PySem.Spec PyProof.Rows
inductive RowI where
  | ins (w : Str) (is : List Int)
  | tab (n : Int) (gs : List Int)
def rowD : RowI → PyData
  | .ins w is => .tuple (.str w :: is.map PyData.int)
  | .tab n gs => .tuple [.str "table", .int n, .tuple (gs.map PyData.int)]
def RowOk (many own : Int) : RowI → Prop
  | .ins w is => w ≠ "table" ∧ shapeI w is = true ∧ (goalI w is).all (btw own many) = true ∧ (∀ i ∈ is, i.natAbs ≤ 2 ^ 64) ∧ is.length ≤ 4 ∧ w.length ≤ 10
  | .tab n gs => gs ≠ [] ∧ gs.length ≤ 200 ∧ gs.all (btw own many) = true ∧ n.natAbs ≤ 1000
def spRows : Sp := fun vs H Q _ => ∃ (p : Addr) (m B : Int), vs = [.ref p, .int m] ∧ TapeAt H p B ∧ 0 ≤ B ∧ B ≤ 900000 ∧ 1 ≤ m ∧ m ≤ 21 ∧
  ∀ (l : Addr) (rs : List RowI) H', SameX p H H' → TapeAt H' p (B + 20000) → TreeAt (· ≠ p) H' (.ref l) (.list (rs.map rowD)) → (rs.length : Int) = m → (∀ (j : Nat) r, rs[j]? = some r → RowOk m j r) → Q (.ref l) H'
theorem pow_le_64 {k : Nat} (h : k ≤ 64) : (2 : Int) ^ k ≤ 2 ^ 64 := by
  have := Nat.pow_le_pow_right (n := 2) (by decide) h
  exact_mod_cast this
theorem rows_snoc {rs : List RowI} {m : Int} {r : RowI} (h : ∀ (j : Nat) r, rs[j]? = some r → RowOk m j r) (hr : RowOk m rs.length r) : ∀ (j : Nat) r', (rs ++ [r])[j]? = some r' → RowOk m j r' := fun j r' e => by
  rcases Nat.lt_or_ge j rs.length with z | z
  · rw [List.getElem?_append_left z] at e
    exact h j r' e
  · rw [List.getElem?_append_right z] at e
    cases hk : j - rs.length with
    | zero =>
      rw [hk] at e
      cases e
      rw [show j = rs.length by omega]
      exact hr
    | succ k => rw [hk] at e; cases e
theorem ok_is {m o n t : Int} (h1 : n.natAbs ≤ 2 ^ 64) (h2 : t.natAbs ≤ 2 ^ 64) (h : btw o m t = true) : RowOk m o (.ins "is" [n, t]) ∧ RowOk m o (.ins "below" [n, t]) := by
  constructor <;> exact ⟨by decide +kernel, by rw [shape_isbelow (by first | exact .inl rfl | exact .inr rfl)]; rfl, by rw [goalI_last (by decide +kernel) (show [n, t].getLast? = some t from rfl)]; simp [h], by simp [h1, h2], by simp, by decide +kernel⟩
theorem ok_within {m o a b t : Int} (hab : a ≤ b) (h1 : a.natAbs ≤ 2 ^ 64) (h2 : b.natAbs ≤ 2 ^ 64) (h3 : t.natAbs ≤ 2 ^ 64) (h : btw o m t = true) : RowOk m o (.ins "within" [a, b, t]) :=
  ⟨by decide +kernel, by rw [shape_within]; exact decide_eq_true hab, by rw [goalI_last (by decide +kernel) (show [a, b, t].getLast? = some t from rfl)]; simp [h], by simp [h1, h2, h3], by simp, by decide +kernel⟩
theorem ok_mask {m o a wd bits t : Int} (hw : 1 ≤ wd ∧ wd ≤ 64) (hb : 0 ≤ bits ∧ bits < 2 ^ wd.toNat) (h1 : a.natAbs ≤ 2 ^ 64) (h3 : t.natAbs ≤ 2 ^ 64) (h : btw o m t = true) : RowOk m o (.ins "mask" [a, wd, bits, t]) := by
  have p := pow_le_64 (k := wd.toNat) (by omega)
  refine ⟨by decide +kernel, ?_, by rw [goalI_last (by decide +kernel) (show [a, wd, bits, t].getLast? = some t from rfl)]; simp [h], ?_, by simp, by decide +kernel⟩
  · rw [shape_mask]
    show ((decide (1 ≤ wd) && decide (wd ≤ 64)) && (decide (0 ≤ bits) && decide (bits < 2 ^ wd.toNat))) = true
    rw [decide_eq_true hw.1, decide_eq_true hw.2, decide_eq_true hb.1, decide_eq_true hb.2]
    rfl
  · intro i hi
    simp only [List.mem_cons, List.not_mem_nil, or_false] at hi
    rcases hi with rfl | rfl | rfl | rfl <;> omega
theorem ok_pick {m o l : Int} (h : 0 ≤ l) (h2 : l.natAbs ≤ 2 ^ 64) : RowOk m o (.ins "pick" [l]) :=
  ⟨by decide +kernel, by show (decide (("pick" : Str) = "pick") && decide (0 ≤ l)) = true; rw [decide_eq_true rfl, decide_eq_true h]; rfl, by rw [show goalI "pick" [l] = [] from if_pos rfl]; rfl, by simp [h2], by simp, by decide +kernel⟩
theorem btw_goal {o m r : Int} (h0 : 0 ≤ r) (h1 : r < m - o - 1) : btw o m (o + 1 + r) = true := by
  unfold btw
  rw [decide_eq_true (by omega), decide_eq_true (by omega)]
  rfl
end L2
namespace L2
open PySem PySem.Spec PyProof.Rows
mutual
def szB : PyData → Bool
  | .none => true
  | .bool _ => true
  | .int i => decide (i.natAbs ≤ 10 ^ 20)
  | .str x => decide (x.length ≤ 30) && x.cps.toList.all fun c => decide (c < 16 ^ 8)
  | .list ds => decide (ds.length ≤ 210) && szBs ds
  | .tuple ds => decide (ds.length ≤ 210) && szBs ds
  | .dict _ => false
def szBs : List PyData → Bool
  | [] => true
  | d :: ds => szB d && szBs ds
end
mutual
theorem szB_ok : ∀ (d : PyData), szB d = true → szD 0 d
  | .none, _ => trivial
  | .bool _, _ => trivial
  | .int i, h => by
    have : i.natAbs ≤ 10 ^ 20 := of_decide_eq_true (by simpa [szB] using h)
    show i.natAbs ≤ 10 ^ 20 * 2 ^ 0
    omega
  | .str x, h => by
    rw [szB, Bool.and_eq_true, decide_eq_true_eq, List.all_eq_true] at h
    exact ⟨h.1, fun c hc => of_decide_eq_true (h.2 c hc)⟩
  | .list ds, h => by
    rw [szB, Bool.and_eq_true, decide_eq_true_eq] at h
    exact ⟨h.1, szBs_ok ds h.2⟩
  | .tuple ds, h => by
    rw [szB, Bool.and_eq_true, decide_eq_true_eq] at h
    exact ⟨h.1, szBs_ok ds h.2⟩
  | .dict _, h => by rw [szB] at h; cases h
theorem szBs_ok : ∀ (ds : List PyData), szBs ds = true → szAll 0 ds
  | [], _ => trivial
  | d :: ds, h => by
    rw [szBs, Bool.and_eq_true] at h
    exact ⟨szB_ok d h.1, szBs_ok ds h.2⟩
end
theorem for_t {K : PySem.W.Frag} {a : Addr} {xs : List V} {g : TG} {tb : TS} {D : Ends} {σ : St} {H : Hp} {R : It → Hp → Prop} (hR : R = (fun J H1 => ∃ W : Nat → Nat → St → Hp → Prop, (∃ m, W 0 m σ H1) ∧ ∀ i m σ H, W i m σ H →
    (J.stop i H ∧ D.nx σ H) ∨ (J.go i H ∧ ∃ N : St → Hp → Prop, (∀ σ' H', N σ' H' → ∃ m', m' < m ∧ W (i + 1) m' σ' H') ∧ ∀ x H', J.yld i H x H' → g x σ H' fun σ2 H2 => tb { D with nx := N, ct := N, bk := D.nx } σ2 H2)))
    (Pv : Nat → St → Hp → Prop) (h0 : Pv 0 σ H) (hl : ∀ i σ H, Pv i σ H → H a = some (.tup xs))
    (hs : ∀ i x σ H, xs[i]? = some x → Pv i σ H → g x σ H fun σ2 H2 => tb { D with nx := Pv (i + 1), ct := Pv (i + 1), bk := D.nx } σ2 H2) (hd : ∀ σ H, Pv xs.length σ H → D.nx σ H) : R (Itt K a) H := by
  refine for_by hR xs.length Pv h0 (fun i σ H hi p => ?_) (fun σ H p => ?_) (fun i σ H x H3 hi p y => ?_) hd
  · exact ⟨xs, _, SqT.of (hl i σ H p), List.getElem?_eq_getElem hi⟩
  · exact ⟨xs, SqT.of (hl _ σ H p), Nat.le_refl _⟩
  · obtain ⟨rfl, hx⟩ := y
    exact hs i x σ _ (hx _ (SqT.of (hl i σ _ p))) p
theorem word_in {w : Str} {is : List Int} (h : shapeI w is = true) : w = "is" ∨ w = "within" ∨ w = "below" ∨ w = "mask" ∨ w = "pick" := by
  rcases size_cases w with ⟨e, _⟩ | ⟨e, _⟩ | ⟨e, _⟩ | ⟨e, _⟩ | ⟨e, _⟩ | ⟨_, h1, h2, h3, h4, h5⟩
  · exact .inl e
  · exact .inr (.inl e)
  · exact .inr (.inr (.inl e))
  · exact .inr (.inr (.inr (.inl e)))
  · exact .inr (.inr (.inr (.inr e)))
  · rw [shape_other h1 h2 h3 h4 h5] at h
    cases h
theorem sz_ints {gs : List Int} (h : ∀ g ∈ gs, g.natAbs ≤ 2 ^ 64) : szAll 0 (gs.map PyData.int) ∧ nodesAll (gs.map PyData.int) = gs.length ∧ PyData.depthAll (gs.map PyData.int) = 0 := by
  induction gs with
  | nil => exact ⟨trivial, rfl, rfl⟩
  | cons g gs ih =>
    obtain ⟨a, b, c⟩ := ih fun x hx => h x (List.mem_cons_of_mem _ hx)
    have hg := h g List.mem_cons_self
    refine ⟨⟨by show g.natAbs ≤ 10 ^ 20 * 2 ^ 0; omega, a⟩, ?_, ?_⟩
    · rw [List.map_cons, nodesAll, b, List.length_cons]; show 1 + gs.length = _; omega
    · rw [List.map_cons, PyData.depthAll.eq_2, c]; rfl
theorem goal_small {own many : Int} {gs : List Int} (h : gs.all (btw own many) = true) (h0 : 0 ≤ own) (hm : many ≤ 100) : ∀ g ∈ gs, g.natAbs ≤ 2 ^ 64 := fun g hg => by
  have := List.all_eq_true.mp h g hg
  unfold btw at this
  rw [Bool.and_eq_true, decide_eq_true_eq, decide_eq_true_eq] at this
  omega
theorem sz_row {many own : Int} {r : RowI} (h : RowOk many own r) (h0 : 0 ≤ own) (hm : many ≤ 100) : szD 0 (rowD r) ∧ nodes (rowD r) ≤ 204 ∧ (rowD r).depth ≤ 2 := by
  cases r with
  | ins w is =>
    obtain ⟨_, hs, _, hi, hl, _⟩ := h
    obtain ⟨a, b, c⟩ := sz_ints hi
    have hw : szD 0 (.str w) := by rcases word_in hs with rfl | rfl | rfl | rfl | rfl <;> exact okS_of _ 0 (by decide)
    refine ⟨⟨by rw [List.length_cons, List.length_map]; show is.length + 1 ≤ 210; omega, hw, a⟩, ?_, ?_⟩
    · show 1 + (1 + nodesAll (is.map PyData.int)) ≤ 204; omega
    · show max 0 (PyData.depthAll (is.map PyData.int)) + 1 ≤ 2; rw [c]; decide
  | tab n gs =>
    obtain ⟨_, hl, hg, hn⟩ := h
    obtain ⟨a, b, c⟩ := sz_ints (goal_small hg h0 hm)
    refine ⟨⟨by show 3 ≤ 210; decide, okS_of "table" 0 (by decide), by show n.natAbs ≤ 10 ^ 20 * 2 ^ 0; omega, ⟨by rw [List.length_map]; show gs.length ≤ 210; omega, a⟩, trivial⟩, ?_, ?_⟩
    · show 1 + (1 + (1 + (1 + nodesAll (gs.map PyData.int) + 0))) ≤ 204; omega
    · show max 0 (max 0 (max (PyData.depthAll (gs.map PyData.int) + 1) 0)) + 1 ≤ 2; rw [c]; decide
end L2
namespace L2
open PySem PySem.Spec PyProof.Rows
end L2
namespace L2
open PySem PySem.Spec PyProof.Rows
theorem zip_next_itemT {prog : Program} {w : World} {A : Around} {E : Value → Shared → Prop} {s : Shared} {z TI TO i1 i2 l1 l2 : Addr} {k1 k2 : Nat} {xs ys : Array Value} {x y a b : Value} {Q : Value → Shared → Prop} (D : ZipApart z TI TO i1 i2 l1 l2) (hz : IsZip s.heap z TI TO Value.none) (hTI : IsPair s.heap TI (Value.ref i1) (Value.ref i2)) (hTO : IsPair s.heap TO a b)
    (h1 : s.heap.IsTupleIter i1 l1 k1) (h2 : s.heap.IsTupleIter i2 l2 k2) (hl1 : s.heap.IsTuple l1 xs) (hl2 : s.heap.IsTuple l2 ys) (hx : xs[k1]? = some x) (hy : ys[k2]? = some y)
    (hQ : ∀ h' : Heap, IsZip h' z TI TO (rawInt s.heap.objs.size) → IsPair h' TO x y → h'.IsTupleIter i1 l1 (k1 + 1) → h'.IsTupleIter i2 l2 (k2 + 1) → IsPair h' s.heap.objs.size x y → h'.objs.size = s.heap.objs.size + 1 → (∀ c o, c ≠ z → c ≠ TO → c ≠ i1 → c ≠ i2 → s.heap.get? c = some o → h'.get? c = some o) → Q (Value.ref s.heap.objs.size) { s with heap := h' }) :
    wpAny (model prog w) A (Builtin.«zip.__next__» { pos := [Value.ref z] }) (fun fin s' => ∃ v, fin = Fin.done (Flow.ret v) ∧ Q v s') E s := by
  show wpAny _ _ (field (Value.ref z) 2 >>= _) _ _ _
  refine wpAny_bind (wpAny_field hz rfl rfl ?_)
  show wpAny _ _ (field (Value.ref z) 3 >>= _) _ _ _
  refine wpAny_bind (wpAny_field hz rfl rfl ?_)
  refine wpAny_bind (wpAny_seqItems hTI rfl ?_)
  show wpAny _ _ (Builtin.SmallTypes.ownedTupleIsFree (Value.ref z) >>= _) _ _ _
  refine wpAny_bind ?_
  show wpAny _ _ (field (Value.ref z) 0 >>= _) _ _ _
  refine wpAny_bind (wpAny_field hz rfl rfl (wpAny_pure ?_))
  show wpAny _ _ (rule _ >>= _) _ _ _
  refine wpAny_bind (wpAny_rule (wpAny_bind (wpAny_field hz rfl rfl ?_)))
  show wpAny _ _ (setField (Value.ref z) 0 Value.ellipsis >>= _) _ _ _
  refine wpAny_bind (wpAny_setField_rec hz (Nat.lt_of_sub_pos (Nat.zero_lt_succ 4)) fun h₁ hz₁ hs₁ => ?_)
  have old1 : ∀ c o, c ≠ z → s.heap.get? c = some o → h₁.get? c = some o := fun c o hc e => (hs₁.2 c hc).trans e
  have h1a : h₁.IsTupleIter i1 l1 k1 := h1.at fun o e => old1 i1 o D.i1z e
  have h2a : h₁.IsTupleIter i2 l2 k2 := h2.at fun o e => old1 i2 o D.i2z e
  have tup : ∀ {h : Heap} {l : Addr} {vs : Array Value}, s.heap.IsTuple l vs → (∀ o, s.heap.get? l = some o → h.get? l = some o) → h.IsTuple l vs := fun ⟨o, e, r⟩ k => ⟨o, k o e, r⟩
  refine wpAny_bind ?_
  show wpAny _ _ (forIn [(Value.ref i1, 0), (Value.ref i2, 1)] (none, ()) _) _ _ _
  rw [List.forIn_cons]
  refine wpAny_bind ?_
  show wpAny _ _ ((Sem.onRaise (Builtin.SmallTypes.nextOf (Value.ref i1) >>= fun v => pure (some v)) (fun _ => setField (Value.ref z) 0 Value.none)) >>= _) _ _ _
  refine wpAny_bind (wpAny_onRaise (wpAny_bind (nextOf_tuple_item (s := { s with heap := h₁ }) h1a (tup hl1 fun o e => old1 l1 o D.l1z e) hx fun h₂ h1b sb₂ => wpAny_pure ?_)))
  have old2 : ∀ c o, c ≠ z → c ≠ i1 → s.heap.get? c = some o → h₂.get? c = some o := fun c o hc hc1 e => (sb₂.2 c hc1).trans (old1 c o hc e)
  have hTO2 : IsPair h₂ TO a b := old2 TO _ D.TOz D.TOi1 hTO
  show wpAny _ _ (seqItems? (Value.ref TO) >>= _) _ _ _
  refine wpAny_bind (wpAny_seqItems (s := { s with heap := h₂ }) hTO2 rfl ?_)
  show wpAny _ _ (updateSeq TO _ >>= _) _ _ _
  refine wpAny_bind (wpAny_updateSeq_pair (s := { s with heap := h₂ }) hTO2 fun h₃ g₃ sb₃ => ?_)
  refine wpAny_bind (wpAny_letGo (wpAny_pure ?_))
  show wpAny _ _ (forIn [(Value.ref i2, 1)] (none, ()) _) _ _ _
  rw [List.forIn_cons]
  refine wpAny_bind ?_
  have old3 : ∀ c o, c ≠ z → c ≠ i1 → c ≠ TO → s.heap.get? c = some o → h₃.get? c = some o := fun c o hc hc1 hc2 e => (sb₃.2 c hc2).trans (old2 c o hc hc1 e)
  have h2c : h₃.IsTupleIter i2 l2 k2 := h2.at fun o e => old3 i2 o D.i2z (Ne.symm D.i12) (Ne.symm D.TOi2) e
  have g₃' : IsPair h₃ TO x b := g₃
  show wpAny _ _ ((Sem.onRaise (Builtin.SmallTypes.nextOf (Value.ref i2) >>= fun v => pure (some v)) (fun _ => setField (Value.ref z) 0 Value.none)) >>= _) _ _ _
  refine wpAny_bind (wpAny_onRaise (wpAny_bind (nextOf_tuple_item (s := { s with heap := h₃ }) h2c (tup hl2 fun o e => old3 l2 o D.l2z D.l2i1 D.l2TO e) hy fun h₄ h2d sb₄ => wpAny_pure ?_)))
  have hTO4 : IsPair h₄ TO x b := (sb₄.2 TO D.TOi2).trans g₃'
  show wpAny _ _ (seqItems? (Value.ref TO) >>= _) _ _ _
  refine wpAny_bind (wpAny_seqItems (s := { s with heap := h₄ }) hTO4 rfl ?_)
  show wpAny _ _ (updateSeq TO _ >>= _) _ _ _
  refine wpAny_bind (wpAny_updateSeq_pair (s := { s with heap := h₄ }) hTO4 fun h₅ g₅ sb₅ => ?_)
  refine wpAny_bind (wpAny_letGo (wpAny_pure ?_))
  have g₅' : IsPair h₅ TO x y := g₅
  show wpAny _ _ (forIn [] (none, ()) _) _ _ _
  rw [List.forIn_nil]
  refine wpAny_pure ?_
  show wpAny _ _ (seqItems? (Value.ref TO) >>= _) _ _ _
  refine wpAny_bind (wpAny_seqItems (s := { s with heap := h₅ }) g₅' rfl ?_)
  show wpAny _ _ (newTuple [x, y] >>= _) _ _ _
  refine wpAny_bind (wpAny_newTuple ?_ (by show 2 ≤ sizeLine; decide))
  have sz : h₅.objs.size = s.heap.objs.size := by
    rw [sb₅.1, sb₄.1, sb₃.1, sb₂.1, hs₁.1]
  have z5 : h₅.get? z = _ := (sb₅.2 z (Ne.symm D.TOz)).trans ((sb₄.2 z (Ne.symm D.i2z)).trans ((sb₃.2 z (Ne.symm D.TOz)).trans ((sb₂.2 z (Ne.symm D.i1z)).trans hz₁)))
  have z6 : (h₅.push { cls := Value.type "tuple", data := Data.seq #[x, y] }).get? z = _ := Heap.get?_push_of_some _ z5
  refine wpAny_bind ?_
  show wpAny _ _ (setField (Value.ref z) 0 (rawInt h₅.objs.size) >>= fun _ => setField (Value.ref z) 1 (Value.bool false)) _ _ _
  refine wpAny_bind (wpAny_setField_rec (s := { s with heap := h₅.push { cls := Value.type "tuple", data := Data.seq #[x, y] } }) z6 (Nat.lt_of_sub_pos (Nat.zero_lt_succ 4)) fun h₇ hz₇ hs₇ => ?_)
  refine wpAny_setField_rec (s := { s with heap := h₇ }) hz₇ (Nat.lt_of_sub_pos (Nat.zero_lt_succ 3)) fun h₈ hz₈ hs₈ => ?_
  have nzs : s.heap.objs.size ≠ z := fun q => by
    have := Heap.lt_size hz
    rw [← q] at this
    exact Nat.lt_irrefl _ this
  have old6 : ∀ c o, h₅.get? c = some o → (h₅.push { cls := Value.type "tuple", data := Data.seq #[x, y] }).get? c = some o := fun c o e => Heap.get?_push_of_some _ e
  have old8 : ∀ c o, c ≠ z → h₅.get? c = some o → h₈.get? c = some o := fun c o hc e => (hs₈.2 c hc).trans ((hs₇.2 c hc).trans (old6 c o e))
  have new8 : h₈.get? s.heap.objs.size = some { cls := Value.type "tuple", data := Data.seq #[x, y] } := by
    refine (hs₈.2 _ nzs).trans ((hs₇.2 _ nzs).trans ?_)
    show (h₅.push { cls := Value.type "tuple", data := Data.seq #[x, y] }).get? s.heap.objs.size = _
    rw [← sz]
    exact Heap.get?_push_size _ rfl
  refine wpAny_pure ⟨_, rfl, ?_⟩
  rw [show (({ s with heap := h₅ } : Shared).heap.objs.size) = s.heap.objs.size from sz]
  refine hQ h₈ ?_ ?_ ?_ ?_ new8 ?_ ?_
  · rw [sz] at hz₈
    exact hz₈
  · exact old8 TO _ D.TOz g₅'
  · refine h1b.at fun o e => old8 i1 o D.i1z ?_
    exact (sb₅.2 i1 (Ne.symm D.TOi1)).trans ((sb₄.2 i1 D.i12).trans ((sb₃.2 i1 (Ne.symm D.TOi1)).trans e))
  · refine h2d.at fun o e => old8 i2 o D.i2z ?_
    exact (sb₅.2 i2 (Ne.symm D.TOi2)).trans e
  · rw [hs₈.1, hs₇.1]
    show (h₅.push { cls := Value.type "tuple", data := Data.seq #[x, y] }).objs.size = _
    rw [Heap.size_push, sz]
  · intro c o hc1 hc2 hc3 hc4 e
    exact old8 c o hc1 ((sb₅.2 c hc2).trans ((sb₄.2 c hc4).trans (old3 c o hc1 hc3 hc2 e)))
theorem wpAny_pyNext_zip_itemT {prog : Program} {w : World} {A : Around} {E : Value → Shared → Prop} {s : Shared} {z TI TO i1 i2 l1 l2 : Addr} {k1 k2 : Nat} {xs ys : Array Value} {x y a b : Value} {Q : Option Value → Shared → Prop} (D : ZipApart z TI TO i1 i2 l1 l2) (hz : IsZip s.heap z TI TO Value.none) (hTI : IsPair s.heap TI (Value.ref i1) (Value.ref i2)) (hTO : IsPair s.heap TO a b)
    (h1 : s.heap.IsTupleIter i1 l1 k1) (h2 : s.heap.IsTupleIter i2 l2 k2) (hl1 : s.heap.IsTuple l1 xs) (hl2 : s.heap.IsTuple l2 ys) (hx : xs[k1]? = some x) (hy : ys[k2]? = some y)
    (hQ : ∀ h' : Heap, IsZip h' z TI TO (rawInt s.heap.objs.size) → IsPair h' TO x y → h'.IsTupleIter i1 l1 (k1 + 1) → h'.IsTupleIter i2 l2 (k2 + 1) → IsPair h' s.heap.objs.size x y → h'.objs.size = s.heap.objs.size + 1 → (∀ c o, c ≠ z → c ≠ TO → c ≠ i1 → c ≠ i2 → s.heap.get? c = some o → h'.get? c = some o) → Q (some (Value.ref s.heap.objs.size)) { s with heap := h' }) :
    wpAny (model prog w) A (pyNext (Value.ref z)) Q E s := by
  have hT : ∃ o, s.heap.get? z = some o ∧ o.cls = Value.type "zip" := ⟨_, hz, rfl⟩
  exact wpAny_bind (wpAny_attempt (wpAny_callSpecial?_slot hT F.slot_zip_next (wpAny_call_entry F.slot_zip_next hT F.entry_zip_next
    (zip_next_itemT D hz hTI hTO h1 h2 hl1 hl2 hx hy fun h' a1 a2 a3 a4 a5 a6 a7 => wpAny_pure (hQ h' a1 a2 a3 a4 a5 a6 a7)) (F.args_zip_next_1 (Value.ref z)))))
theorem zip_next_endT {prog : Program} {w : World} {A : Around} {E : Value → Shared → Prop} {s : Shared} {z TI TO i1 i2 l1 l2 : Addr} {k1 k2 : Nat} {xs ys : Array Value} {a b : Value} {Q : PySem.Fin → Shared → Prop} (hh : A.handled = none) (D : ZipApart z TI TO i1 i2 l1 l2) (hz : IsZip s.heap z TI TO Value.none) (hTI : IsPair s.heap TI (Value.ref i1) (Value.ref i2)) (hTO : IsPair s.heap TO a b)
    (h1 : s.heap.IsTupleIter i1 l1 k1) (h2 : s.heap.IsTupleIter i2 l2 k2) (hl1 : s.heap.IsTuple l1 xs) (hl2 : s.heap.IsTuple l2 ys) (hend : xs[k1]? = none ∨ ys[k2]? = none)
    (hE : ∀ (h' : Heap) (e : Addr), (∀ c o, c ≠ z → c ≠ TO → c ≠ i1 → c ≠ i2 → s.heap.get? c = some o → h'.get? c = some o) → (∃ o, h'.get? e = some o ∧ o.cls = Value.type "StopIteration") → E (Value.ref e) { s with heap := h' }) :
    wpAny (model prog w) A (Builtin.«zip.__next__» { pos := [Value.ref z] }) Q E s := by
  show wpAny _ _ (field (Value.ref z) 2 >>= _) _ _ _
  refine wpAny_bind (wpAny_field hz rfl rfl ?_)
  show wpAny _ _ (field (Value.ref z) 3 >>= _) _ _ _
  refine wpAny_bind (wpAny_field hz rfl rfl ?_)
  refine wpAny_bind (wpAny_seqItems hTI rfl ?_)
  show wpAny _ _ (Builtin.SmallTypes.ownedTupleIsFree (Value.ref z) >>= _) _ _ _
  refine wpAny_bind ?_
  show wpAny _ _ (field (Value.ref z) 0 >>= _) _ _ _
  refine wpAny_bind (wpAny_field hz rfl rfl (wpAny_pure ?_))
  show wpAny _ _ (rule _ >>= _) _ _ _
  refine wpAny_bind (wpAny_rule (wpAny_bind (wpAny_field hz rfl rfl ?_)))
  show wpAny _ _ (setField (Value.ref z) 0 Value.ellipsis >>= _) _ _ _
  refine wpAny_bind (wpAny_setField_rec hz (Nat.lt_of_sub_pos (Nat.zero_lt_succ 4)) fun h₁ hz₁ hs₁ => ?_)
  have old1 : ∀ c o, c ≠ z → s.heap.get? c = some o → h₁.get? c = some o := fun c o hc e => (hs₁.2 c hc).trans e
  have h1a : h₁.IsTupleIter i1 l1 k1 := h1.at fun o e => old1 i1 o D.i1z e
  have tup : ∀ {h : Heap} {l : Addr} {vs : Array Value}, s.heap.IsTuple l vs → (∀ o, s.heap.get? l = some o → h.get? l = some o) → h.IsTuple l vs := fun ⟨o, e, r⟩ k => ⟨o, k o e, r⟩
  have out : ∀ {h : Heap} {e : Addr} {vs : Array Value}, h.get? z = some { cls := Value.type "zip", data := Data.fields vs } → 0 < vs.size → (∀ c o, c ≠ z → c ≠ TO → c ≠ i1 → c ≠ i2 → s.heap.get? c = some o → h.get? c = some o) → (∃ o, h.get? e = some o ∧ o.cls = Value.type "StopIteration") →
      wpAny (model prog w) A (setField (Value.ref z) 0 Value.none) (fun _ s'' => E (Value.ref e) s'') E { s with heap := h } := fun {h e vs} ez hv hk he => by
    refine wpAny_setField_rec (s := { s with heap := h }) ez hv fun h' _ hs => hE h' e (fun c o c1 c2 c3 c4 g => (hs.2 c c1).trans (hk c o c1 c2 c3 c4 g)) ?_
    obtain ⟨o, ho, hc⟩ := he
    refine ⟨o, (hs.2 e fun q => ?_).trans ho, hc⟩
    rw [q, ez] at ho
    cases ho
    injection hc with hc
    exact absurd hc (by decide)
  refine wpAny_bind ?_
  show wpAny _ _ (forIn [(Value.ref i1, 0), (Value.ref i2, 1)] (none, ()) _) _ _ _
  rw [List.forIn_cons]
  refine wpAny_bind ?_
  show wpAny _ _ ((Sem.onRaise (Builtin.SmallTypes.nextOf (Value.ref i1) >>= fun v => pure (some v)) (fun _ => setField (Value.ref z) 0 Value.none)) >>= _) _ _ _
  cases hx : xs[k1]? with
  | none =>
    refine wpAny_bind (wpAny_onRaise (wpAny_bind (nextOf_tuple_end (s := { s with heap := h₁ }) hh h1a (tup hl1 fun o e => old1 l1 o D.l1z e) hx fun h₂ e ext he => ?_)))
    exact out (h := h₂) (ext z _ (Ne.symm D.i1z) hz₁) (Nat.lt_of_sub_pos (Nat.zero_lt_succ 4)) (fun c o c1 c2 c3 c4 g => ext c o c3 (old1 c o c1 g)) he
  | some x =>
    have hy : ys[k2]? = none := by
      rcases hend with q | q
      · rw [hx] at q; cases q
      · exact q
    refine wpAny_bind (wpAny_onRaise (wpAny_bind (nextOf_tuple_item (s := { s with heap := h₁ }) h1a (tup hl1 fun o e => old1 l1 o D.l1z e) hx fun h₂ h1b sb₂ => wpAny_pure ?_)))
    have old2 : ∀ c o, c ≠ z → c ≠ i1 → s.heap.get? c = some o → h₂.get? c = some o := fun c o hc hc1 e => (sb₂.2 c hc1).trans (old1 c o hc e)
    have hTO2 : IsPair h₂ TO a b := old2 TO _ D.TOz D.TOi1 hTO
    show wpAny _ _ (seqItems? (Value.ref TO) >>= _) _ _ _
    refine wpAny_bind (wpAny_seqItems (s := { s with heap := h₂ }) hTO2 rfl ?_)
    show wpAny _ _ (updateSeq TO _ >>= _) _ _ _
    refine wpAny_bind (wpAny_updateSeq_pair (s := { s with heap := h₂ }) hTO2 fun h₃ g₃ sb₃ => ?_)
    refine wpAny_bind (wpAny_letGo (wpAny_pure ?_))
    show wpAny _ _ (forIn [(Value.ref i2, 1)] (none, ()) _) _ _ _
    rw [List.forIn_cons]
    refine wpAny_bind ?_
    have old3 : ∀ c o, c ≠ z → c ≠ i1 → c ≠ TO → s.heap.get? c = some o → h₃.get? c = some o := fun c o hc hc1 hc2 e => (sb₃.2 c hc2).trans (old2 c o hc hc1 e)
    have h2c : h₃.IsTupleIter i2 l2 k2 := h2.at fun o e => old3 i2 o D.i2z (Ne.symm D.i12) (Ne.symm D.TOi2) e
    have z3 : h₃.get? z = _ := (sb₃.2 z (Ne.symm D.TOz)).trans ((sb₂.2 z (Ne.symm D.i1z)).trans hz₁)
    show wpAny _ _ ((Sem.onRaise (Builtin.SmallTypes.nextOf (Value.ref i2) >>= fun v => pure (some v)) (fun _ => setField (Value.ref z) 0 Value.none)) >>= _) _ _ _
    refine wpAny_bind (wpAny_onRaise (wpAny_bind (nextOf_tuple_end (s := { s with heap := h₃ }) hh h2c (tup hl2 fun o e => old3 l2 o D.l2z D.l2i1 D.l2TO e) hy fun h₄ e ext he => ?_)))
    exact out (h := h₄) (ext z _ (Ne.symm D.i2z) z3) (Nat.lt_of_sub_pos (Nat.zero_lt_succ 4)) (fun c o c1 c2 c3 c4 g => ext c o c4 (old3 c o c1 c3 c2 g)) he
theorem wpAny_pyNext_zip_endT {prog : Program} {w : World} {A : Around} {E : Value → Shared → Prop} {s : Shared} {z TI TO i1 i2 l1 l2 : Addr} {k1 k2 : Nat} {xs ys : Array Value} {a b : Value} {Q : Option Value → Shared → Prop} (hh : A.handled = none) (D : ZipApart z TI TO i1 i2 l1 l2) (hz : IsZip s.heap z TI TO Value.none) (hTI : IsPair s.heap TI (Value.ref i1) (Value.ref i2)) (hTO : IsPair s.heap TO a b)
    (h1 : s.heap.IsTupleIter i1 l1 k1) (h2 : s.heap.IsTupleIter i2 l2 k2) (hl1 : s.heap.IsTuple l1 xs) (hl2 : s.heap.IsTuple l2 ys) (hend : xs[k1]? = none ∨ ys[k2]? = none)
    (hQ : ∀ h' : Heap, (∀ c o, c ≠ z → c ≠ TO → c ≠ i1 → c ≠ i2 → s.heap.get? c = some o → h'.get? c = some o) → Q none { s with heap := h' }) : wpAny (model prog w) A (pyNext (Value.ref z)) Q E s := by
  have hT : ∃ o, s.heap.get? z = some o ∧ o.cls = Value.type "zip" := ⟨_, hz, rfl⟩
  exact wpAny_bind (wpAny_attempt (wpAny_callSpecial?_slot hT F.slot_zip_next (wpAny_call_entry F.slot_zip_next hT F.entry_zip_next
    (zip_next_endT hh D hz hTI hTO h1 h2 hl1 hl2 hend fun h' e hk he => by
      obtain ⟨o, ho, hc⟩ := he
      exact wpAny_bind (wpAny_isInstance ⟨o, ho, hc⟩ isSubtype_stop (wpAny_pure (hQ h' hk)))) (F.args_zip_next_1 (Value.ref z)))))
def tz1 (h : Heap) (l1 : Addr) : Heap := h.push { cls := Value.type "tuple_iterator", data := Data.fields #[Value.ref l1, Value.int 0 0] }
def tz2 (h : Heap) (l1 l2 : Addr) : Heap := (tz1 h l1).push { cls := Value.type "tuple_iterator", data := Data.fields #[Value.ref l2, Value.int 0 0] }
def tz3 (h : Heap) (l1 l2 : Addr) : Heap := (tz2 h l1 l2).push { cls := Value.type "tuple", data := Data.seq #[Value.ref h.objs.size, Value.ref (tz1 h l1).objs.size] }
def tz4 (h : Heap) (l1 l2 : Addr) : Heap := (tz3 h l1 l2).push { cls := Value.type "tuple", data := Data.seq #[Value.none, Value.none] }
def tz5 (h : Heap) (l1 l2 : Addr) : Heap := (tz4 h l1 l2).push { cls := Value.type "zip", data := Data.fields #[Value.none, Value.bool false, Value.bool false, Value.ref (tz2 h l1 l2).objs.size, Value.ref (tz3 h l1 l2).objs.size] }
theorem zip_newT (l1 l2 : Addr) (xs ys : Array Value) : Meets (Builtin.«zip.__new__» { pos := [Value.type "zip", Value.ref l1, Value.ref l2] }) fun _ R s =>
    s.heap.IsTuple l1 xs ∧ s.heap.IsTuple l2 ys ∧ R (.ok (.ret (.ref (tz4 s.heap l1 l2).objs.size))) { s with heap := tz5 s.heap l1 l2 } := by
  refine Meets.of_wp fun prog w A R s h => ?_
  obtain ⟨ht1, ht2, hR⟩ := h
  unfold Builtin.«zip.__new__» Builtin.SmallTypes.newClass
  refine wpAny_bind (wpAny_bind (wpAny_pure (wpAny_ite_false rfl (wpAny_bind (wpAny_of_eq sub_zip (wpAny_ite_false rfl (wpAny_pure ?_)))))))
  show wpAny _ _ (Builtin.SmallTypes.iterAll [Value.ref l1, Value.ref l2] >>= _) _ _ _
  refine wpAny_bind ?_
  unfold Builtin.SmallTypes.iterAll
  refine wpAny_bind ?_
  rw [List.forIn_cons]
  refine wpAny_bind (wpAny_bind (wpAny_holding (wpAny_pyIter_tuple ht1 (wpAny_pure ?_))))
  show wpAny _ _ (forIn [Value.ref l2] #[Value.ref s.heap.objs.size] _) _ _ _
  rw [List.forIn_cons]
  have ht2' : (tz1 s.heap l1).IsTuple l2 ys := by
    obtain ⟨o, e, r⟩ := ht2
    exact ⟨o, Heap.get?_push_of_some _ e, r⟩
  refine wpAny_bind (wpAny_bind (wpAny_holding (wpAny_pyIter_tuple (s := { s with heap := tz1 s.heap l1 }) ht2' (wpAny_pure ?_))))
  show wpAny _ _ (forIn [] #[Value.ref s.heap.objs.size, Value.ref (tz1 s.heap l1).objs.size] _) _ _ _
  rw [List.forIn_nil]
  refine wpAny_pure (wpAny_pure ?_)
  show wpAny _ _ (newTuple [Value.ref s.heap.objs.size, Value.ref (tz1 s.heap l1).objs.size] >>= _) _ _ { s with heap := tz2 s.heap l1 l2 }
  refine wpAny_bind (wpAny_newTuple ?_ (by show 2 ≤ sizeLine; decide))
  show wpAny _ _ (newTuple [Value.none, Value.none] >>= _) _ _ { s with heap := tz3 s.heap l1 l2 }
  refine wpAny_bind (wpAny_newTuple ?_ (by show 2 ≤ sizeLine; decide))
  show wpAny _ _ (newObj (.type "zip") (.fields #[.none, .bool false, .bool false, .ref (tz2 s.heap l1 l2).objs.size, .ref (tz3 s.heap l1 l2).objs.size]) >>= fun r => ret r) _ _ { s with heap := tz4 s.heap l1 l2 }
  refine wpAny_bind (wpAny_newObj_type ?_)
  exact wpAny_pure ⟨_, rfl, hR⟩
theorem call_zip_2T {prog : Program} {w : World} {A : Around} {E : Value → Shared → Prop} {s : Shared} {l1 l2 : Addr} {xs ys : Array Value} {Q : Value → Shared → Prop} (hl1 : s.heap.IsTuple l1 xs) (hl2 : s.heap.IsTuple l2 ys)
    (h : ∀ h' : Heap, IsZip h' (s.heap.objs.size + 4) (s.heap.objs.size + 2) (s.heap.objs.size + 3) Value.none → IsPair h' (s.heap.objs.size + 2) (Value.ref s.heap.objs.size) (Value.ref (s.heap.objs.size + 1)) → IsPair h' (s.heap.objs.size + 3) Value.none Value.none → h'.IsTupleIter s.heap.objs.size l1 0 → h'.IsTupleIter (s.heap.objs.size + 1) l2 0 →
      h'.objs.size = s.heap.objs.size + 5 → (∀ c o, s.heap.get? c = some o → h'.get? c = some o) → Q (Value.ref (s.heap.objs.size + 4)) { s with heap := h' }) : wpAny (model prog w) A (call (Value.type "zip") [Value.ref l1, Value.ref l2]) Q E s := by
  refine callType_new F.called_zip (by decide) (F.typeCall_zip_2 _ _) (F.newCall_zip_2 _ _) (fun obj => F.args_object_init_3 obj _ _) F.entry_zip_new (zip_newT l1 l2 xs ys) ⟨hl1, hl2, ?_⟩
  have z1 : (tz1 s.heap l1).objs.size = s.heap.objs.size + 1 := Heap.size_push ..
  have z2 : (tz2 s.heap l1 l2).objs.size = s.heap.objs.size + 2 := (Heap.size_push ..).trans (by rw [z1])
  have z3 : (tz3 s.heap l1 l2).objs.size = s.heap.objs.size + 3 := (Heap.size_push ..).trans (by rw [z2])
  have z4 : (tz4 s.heap l1 l2).objs.size = s.heap.objs.size + 4 := (Heap.size_push ..).trans (by rw [z3])
  have z5 : (tz5 s.heap l1 l2).objs.size = s.heap.objs.size + 5 := (Heap.size_push ..).trans (by rw [z4])
  have g5 : (tz5 s.heap l1 l2).get? (tz4 s.heap l1 l2).objs.size = _ := Heap.get?_push_size _ rfl
  have g4 : (tz5 s.heap l1 l2).get? (tz3 s.heap l1 l2).objs.size = _ := Heap.get?_push_of_some _ (Heap.get?_push_size _ rfl)
  have g3 : (tz5 s.heap l1 l2).get? (tz2 s.heap l1 l2).objs.size = _ := Heap.get?_push_of_some _ (Heap.get?_push_of_some _ (Heap.get?_push_size _ rfl))
  have g2 : (tz5 s.heap l1 l2).get? (tz1 s.heap l1).objs.size = _ := Heap.get?_push_of_some _ (Heap.get?_push_of_some _ (Heap.get?_push_of_some _ (Heap.get?_push_size _ rfl)))
  have g1 : (tz5 s.heap l1 l2).get? s.heap.objs.size = _ := Heap.get?_push_of_some _ (Heap.get?_push_of_some _ (Heap.get?_push_of_some _ (Heap.get?_push_of_some _ (Heap.get?_push_size _ rfl))))
  have hk : ∀ c o, s.heap.get? c = some o → (tz5 s.heap l1 l2).get? c = some o := fun c o e => Heap.get?_push_of_some _ (Heap.get?_push_of_some _ (Heap.get?_push_of_some _ (Heap.get?_push_of_some _ (Heap.get?_push_of_some _ e))))
  rw [z4, z2, z3] at g5
  rw [z3] at g4
  rw [z2, z1] at g3
  rw [z1] at g2
  rw [z4]
  generalize tz5 s.heap l1 l2 = h' at z5 g5 g4 g3 g2 g1 hk
  exact ⟨⟨_, g5, rfl⟩, h h' g5 g3 g4 ⟨_, g1, rfl, rfl⟩ ⟨_, g2, rfl, rfl⟩ z5 hk⟩
def Itu (K : PySem.W.Frag) (a b : Addr) : It :=
  ⟨fun i H => ∃ xs ys x y, SqT K H a xs ∧ SqT K H b ys ∧ xs[i]? = some x ∧ ys[i]? = some y,
   fun i H v H' => ∃ p x y, v = .ref p ∧ H p = none ∧ H' = upd H p (.tup [x, y]) ∧ (∀ xs, SqT K H a xs → xs[i]? = some x) ∧ ∀ ys, SqT K H b ys → ys[i]? = some y,
   fun i H => ∃ xs ys, SqT K H a xs ∧ SqT K H b ys ∧ (xs[i]? = none ∨ ys[i]? = none)⟩
theorem turn_zipT {P : Program} {w : World} {K : PySem.W.Frag} {es : List Expr} {kk : Nat} {tpos : Pos} {z TI TO i1 i2 l1 l2 : Addr} (D : ZipApart z TI TO i1 i2 l1 l2) :
    Turn P w K (.Tuple es kk tpos) (Itu K l1 l2) [z, TI, TO, i1, i2] z (fun i h => IsZip h z TI TO .none ∧ IsPair h TI (.ref i1) (.ref i2) ∧ (∃ a b, IsPair h TO a b) ∧ h.IsTupleIter i1 l1 i ∧ h.IsTupleIter i2 l2 i) where
  mem := by simp
  obj := fun i h st b hb => by
    obtain ⟨hz, hTI, ⟨a, b', hTO⟩, ⟨o1, e1, c1, d1⟩, ⟨o2, e2, c2, d2⟩⟩ := st
    simp only [List.mem_cons, List.not_mem_nil, or_false] at hb
    rcases hb with rfl | rfl | rfl | rfl | rfl
    · exact ⟨_, hz, fun v q => by cases q⟩
    · exact ⟨_, hTI, fun v q => by cases q⟩
    · exact ⟨_, hTO, fun v q => by cases q⟩
    · exact ⟨o1, e1, fun v q => by rw [d1] at q; cases q⟩
    · exact ⟨o2, e2, fun v q => by rw [d2] at q; cases q⟩
  keep := fun i h h' st k => by
    obtain ⟨hz, hTI, ⟨a, b', hTO⟩, h1, h2⟩ := st
    exact ⟨k z (by simp) _ hz, k TI (by simp) _ hTI, ⟨a, b', k TO (by simp) _ hTO⟩, h1.at fun o e => k i1 (by simp) o e, h2.at fun o e => k i2 (by simp) o e⟩
  item := by
    intro X hP hw hK hc i pins s σ H E I hf st hg
    subst hP hw hK
    obtain ⟨xs, ys, x, y, q1, q2, hx, hy⟩ := hg
    obtain ⟨its1, rv1, p1, hz1⟩ := I.tuple q1
    obtain ⟨its2, rv2, p2, hz2⟩ := I.tuple q2
    obtain ⟨u1, hu1, ru1⟩ := rv1.get hx
    obtain ⟨u2, hu2, ru2⟩ := rv2.get hy
    obtain ⟨hz, hTI, ⟨a, b', hTO⟩, h1, h2⟩ := st
    refine wpAny_pyNext_zip_itemT D hz hTI hTO h1 h2 p1 p2 (x := u1) (y := u2) (by simpa using hu1) (by simpa using hu2) fun h' a1 a2 a3 a4 a5 a6 hk => ?_
    have new : ObjOk X.prog X.w (upd H s.heap.objs.size (.tup [x, y])) h' s.heap.objs.size (.tup [x, y]) := ⟨by show 2 ≤ sizeLine; decide, [u1, u2], .cons ru1 (.cons ru2 .nil), _, a5, rfl, _, rfl⟩
    have I1 : Inv X pins σ (upd H s.heap.objs.size (.tup [x, y])) { s with heap := h' } := I.turnN (t' := s.toks) (ch := [z, TO, i1, i2]) (fun b hb => hf b (by
      simp only [List.mem_cons, List.not_mem_nil, or_false] at hb ⊢
      rcases hb with r | r | r | r <;> simp [r]))
      (fun b o hb e => hk b o (fun q => hb (by simp [q])) (fun q => hb (by simp [q])) (fun q => hb (by simp [q])) (fun q => hb (by simp [q])) e) (Nat.le_refl _) new
    have hTI' : IsPair h' TI (.ref i1) (.ref i2) := hk _ _ D.TIz D.TITO D.TIi1 D.TIi2 hTI
    have hsz : ∀ b, b ∈ [z, TI, TO, i1, i2] → b ≠ s.heap.objs.size := fun b hb => by
      obtain ⟨_, _, hlt, _⟩ := hf b hb
      have lt : ∃ o, s.heap.get? b = some o := by
        simp only [List.mem_cons, List.not_mem_nil, or_false] at hb
        rcases hb with rfl | rfl | rfl | rfl | rfl
        · exact ⟨_, hz⟩
        · exact ⟨_, hTI⟩
        · exact ⟨_, hTO⟩
        · obtain ⟨o, e, _⟩ := h1; exact ⟨o, e⟩
        · obtain ⟨o, e, _⟩ := h2; exact ⟨o, e⟩
      obtain ⟨o, e⟩ := lt
      exact Nat.ne_of_lt (Heap.lt_size e)
    refine ⟨_, rfl, wpAny_letOwnedTupleGo_zip (s := { s with heap := h' }) a1 fun h'' z2 sb => ?_⟩
    have fz := hf z (by simp)
    have I2 : Inv X pins σ (upd H s.heap.objs.size (.tup [x, y])) { s with heap := h'' } := Inv.turned (s := { s with heap := h' }) (it := z) (t' := s.toks) I1 (fun b o hb e => (sb.2 b hb).trans e) (by rw [upd_ne (hsz z (by simp))]; exact fz.1) fz.2.1 fz.2.2.2.1 fz.2.2.2.2.1 fz.2.2.2.2.2
    refine ⟨.ref s.heap.objs.size, _, I2, rfl, ⟨_, x, y, rfl, I.fresh, rfl, fun xs' q => by rw [I.tuple_inj q q1]; exact hx, fun ys' q => by rw [I.tuple_inj q q2]; exact hy⟩,
      ⟨z2, (sb.2 _ D.TIz).trans hTI', ⟨_, _, (sb.2 _ D.TOz).trans a2⟩, a3.extBut sb.extBut D.i1z, a4.extBut sb.extBut D.i2z⟩, fun b hb => by rw [upd_ne (hsz b hb)]; exact (hf b hb).1⟩
  done := by
    intro X hP hw hK hc i pins s σ H E I hf st hg
    subst hP hw hK
    obtain ⟨xs, ys, q1, q2, hx⟩ := hg
    obtain ⟨its1, rv1, p1, hz1⟩ := I.tuple q1
    obtain ⟨its2, rv2, p2, hz2⟩ := I.tuple q2
    obtain ⟨hz, hTI, ⟨a, b', hTO⟩, h1, h2⟩ := st
    have hend : its1.toArray[i]? = none ∨ its2.toArray[i]? = none := by
      rcases hx with r | r
      · exact .inl (by simpa using rv1.none_of r)
      · exact .inr (by simpa using rv2.none_of r)
    refine wpAny_pyNext_zip_endT (I.ok.hd hc) D hz hTI hTO h1 h2 p1 p2 hend fun h' hk => ⟨rfl, ?_⟩
    exact I.turnL (t' := s.toks) (ch := [z, TO, i1, i2]) (fun b hb => hf b (by
      simp only [List.mem_cons, List.not_mem_nil, or_false] at hb ⊢
      rcases hb with r | r | r | r <;> simp [r]))
      (fun b o hb e => hk b o (fun q => hb (by simp [q])) (fun q => hb (by simp [q])) (fun q => hb (by simp [q])) (fun q => hb (by simp [q])) e)
  self := fun _ _ _ _ _ st h => wpAny_pyIter_zip st.1 h
def zpq (K : PySem.W.Frag) (o1 o2 : Option HO) (a b : Addr) (H : Hp) (R : It → Hp → Prop) : Prop := match o1, o2 with
  | some (.lst _), some (.lst _) => R (Itz K a b) H
  | some (.tup _), some (.tup _) => R (Itu K a b) H
  | _, _ => False
def zpK (K : PySem.W.Frag) (vs : List V) (H : Hp) (R : It → Hp → Prop) : Prop := match vs with
  | [.ref a, .ref b] => zpq K (H a) (H b) a b H R
  | _ => False
def iZipD (K : PySem.W.Frag) (ta : TA) : TI := fun σ H R => ta σ H fun vs H1 => zpK K vs H1 R
theorem iZipD_eq (K : PySem.W.Frag) (ta : TA) (σ : St) (H : Hp) (R : It → Hp → Prop) : iZipD K ta σ H R = ta σ H fun vs H1 => zpK K vs H1 R := rfl
theorem zpK_rr (K : PySem.W.Frag) (a b : Addr) (H : Hp) (R : It → Hp → Prop) : zpK K [.ref a, .ref b] H R = zpq K (H a) (H b) a b H R := rfl
theorem zpq_ll (K : PySem.W.Frag) (xs ys : List V) (a b : Addr) (H : Hp) (R : It → Hp → Prop) : zpq K (some (.lst xs)) (some (.lst ys)) a b H R = R (Itz K a b) H := rfl
theorem zpq_tt (K : PySem.W.Frag) (xs ys : List V) (a b : Addr) (H : Hp) (R : It → Hp → Prop) : zpq K (some (.tup xs)) (some (.tup ys)) a b H R = R (Itu K a b) H := rfl
section
variable {X : Cx}
theorem pi_zipD {es : List Expr} {kk : Nat} {tpos : Pos} {a b : Expr} {ta : TA} {p pos : Pos} (hg : Gl X "zip") (hm : X.mg "zip" = none) (ha : PA X [a, b] ta) (hs : starEach [a, b] X.env = [(false, eval a X.env), (false, eval b X.env)] := by rfl) (hs2 : starEach [b] X.env = [(false, eval b X.env)] := by rfl) :
    PI X (.Tuple es kk tpos) (.Call (.Name "zip" p) [a, b] [] pos) (iZipD X.K ta) := by
  intro pins s σ H R I h
  refine Call_ (ld_blt I hg hm boot_zip (PyProof.Rows.callWith_type1 (thn (ha pos pins s σ H _ I h) fun us s1 ⟨vs, H1, I1, r1, q1⟩ => ?_) (by rw [hs, hs2]) (by rw [hs2]; rfl)))
  replace q1 : zpK X.K vs H1 R := q1
  unfold zpK at q1
  split at q1
  · rename_i l1 l2
    unfold zpq at q1
    cases r1 with
    | cons r rr =>
      cases rr with
      | cons r' rr =>
        cases rr
        cases r
        cases r'
        have apart : l1 < s1.heap.objs.size → l2 < s1.heap.objs.size → ZipApart (s1.heap.objs.size + 4) (s1.heap.objs.size + 2) (s1.heap.objs.size + 3) s1.heap.objs.size (s1.heap.objs.size + 1) l1 l2 := by
          generalize s1.heap.objs.size = n
          intro lt1 lt2
          have lt1' : @LT.lt Nat _ l1 n := lt1
          have lt2' : @LT.lt Nat _ l2 n := lt2
          constructor <;> (intro (z : @Eq Nat _ _); omega)
        have fp : ∀ b ∈ [s1.heap.objs.size + 4, s1.heap.objs.size + 2, s1.heap.objs.size + 3, s1.heap.objs.size, s1.heap.objs.size + 1], FpOk X pins H1 b := fun b hb => by
          have hle : s1.heap.objs.size ≤ b := by
            simp only [List.mem_cons, List.not_mem_nil, or_false] at hb
            rcases hb with rfl | rfl | rfl | rfl | rfl <;> simp
          exact I1.fpOk hle (I1.hok.fresh hle)
        split at q1
        · rename_i xs ys e1 e2
          obtain ⟨its1, rv1, p1, hz1⟩ := I1.list (SqL.of e1)
          obtain ⟨its2, rv2, p2, hz2⟩ := I1.list (SqL.of e2)
          have lt1 : l1 < s1.heap.objs.size := by obtain ⟨_, e, _⟩ := p1.isList; exact Heap.lt_size e
          have lt2 : l2 < s1.heap.objs.size := by obtain ⟨_, e, _⟩ := p2.isList; exact Heap.lt_size e
          refine call_zip_2 p1.isList p2.isList fun h' b1 b2 b3 b4 b5 b6 hk => ?_
          refine wpAny_pyIter_zip (s := { s1 with heap := h' }) b1 ?_
          exact ⟨_, _, _, _, H1, rfl, I1.kept (t' := s1.toks) hk, turn_zip (apart lt1 lt2), ⟨b1, b2, ⟨_, _, b3⟩, b4, b5⟩, fp, q1⟩
        · rename_i xs ys e1 e2
          obtain ⟨its1, rv1, p1, hz1⟩ := I1.tuple (SqT.of e1)
          obtain ⟨its2, rv2, p2, hz2⟩ := I1.tuple (SqT.of e2)
          have lt1 : l1 < s1.heap.objs.size := by obtain ⟨_, e, _⟩ := p1; exact Heap.lt_size e
          have lt2 : l2 < s1.heap.objs.size := by obtain ⟨_, e, _⟩ := p2; exact Heap.lt_size e
          refine call_zip_2T p1 p2 fun h' b1 b2 b3 b4 b5 b6 hk => ?_
          refine wpAny_pyIter_zip (s := { s1 with heap := h' }) b1 ?_
          exact ⟨_, _, _, _, H1, rfl, I1.kept (t' := s1.toks) hk, turn_zipT (apart lt1 lt2), ⟨b1, b2, ⟨_, _, b3⟩, b4, b5⟩, fp, q1⟩
        · exact q1.elim
  · exact q1.elim
theorem qi_zipD {es : List Expr} {kk : Nat} {tpos : Pos} {a b : Expr} {t : TA} {p pos : Pos} (hg : Gl X "zip") (hm : X.mg "zip" = none) (ha : QA X [a, b] t) (hs : starEach [a, b] X.env = [(false, eval a X.env), (false, eval b X.env)] := by rfl) (hs2 : starEach [b] X.env = [(false, eval b X.env)] := by rfl) : QI X (.Tuple es kk tpos) (.Call (.Name "zip" p) [a, b] [] pos) (iZipD X.K t) := ⟨pi_zipD hg hm ha.h hs hs2⟩
end
end L2
namespace L2
open PySem PySem.Spec PyProof.Rows
def spSameT (n : Nat) : Sp := fun vs H Q _ => ∃ x y ok d, vs = [x, y] ∧ TreeAt ok H x d ∧ TreeAt ok H y d ∧ d.depth < n ∧ ∀ H', Same H H' → Q (.bl true) H'
theorem depth_mem {d : PyData} {ds : List PyData} (h : d ∈ ds) : d.depth < (PyData.list ds).depth ∧ d.depth < (PyData.tuple ds).depth := by
  have := depthAll_mem h
  rw [PyData.depth.eq_1, PyData.depth.eq_2]
  omega
def rd8 := And.intro @iZipD_eq (And.intro @zpK_rr (And.intro @zpq_ll @zpq_tt))
section
variable {K : PySem.W.Frag} {mp : List (Option Nat)} {g : TG} {tc : TT} {te : TE} {σ : St} {H : Hp} {Q : VK} {R : It → Hp → Prop}
theorem comp_zl {a b : Addr} {xs ys : List V} (hR : R = CmpW mp g tc te σ Q) (hz : xs.length ≤ sizeLine) (hl2 : xs.length = ys.length) (Pv : Nat → List V → St → Hp → Prop) (h0 : Pv 0 [] (subSt mp σ) H) (hl : ∀ i acc τ H, Pv i acc τ H → acc.length ≤ i)
    (hq : ∀ i acc τ H, Pv i acc τ H → H a = some (.lst xs) ∧ H b = some (.lst ys))
    (hs : ∀ i x y acc τ H p, xs[i]? = some x → ys[i]? = some y → Pv i acc τ H → H p = none → g (.ref p) τ (upd H p (.tup [x, y])) fun τ1 H4 => tc τ1 H4 fun b H5 => if b = true then te τ1 H5 fun v H6 => Pv (i + 1) (acc ++ [v]) τ1 H6 else Pv (i + 1) acc τ1 H5)
    (hd : ∀ acc τ H d, Pv xs.length acc τ H → H d = none → Q (.ref d) (upd H d (.lst acc))) : R (Itz K a b) H := by
  refine comp_by hR xs.length hz Pv h0 hl (fun i acc τ H hi p => ?_) (fun acc τ H p => ?_) (fun i acc τ H x H3 hi p y => ?_) hd
  · obtain ⟨e1, e2⟩ := hq i acc τ H p
    exact ⟨xs, ys, _, _, SqL.of e1, SqL.of e2, List.getElem?_eq_getElem hi, List.getElem?_eq_getElem (by omega)⟩
  · obtain ⟨e1, e2⟩ := hq _ acc τ H p
    exact ⟨xs, ys, SqL.of e1, SqL.of e2, .inl (List.getElem?_eq_none (Nat.le_refl _))⟩
  · obtain ⟨e1, e2⟩ := hq i acc τ H p
    obtain ⟨q, x1, y1, rfl, hq1, rfl, hx, hy⟩ := y
    exact hs i x1 y1 acc τ H q (hx _ (SqL.of e1)) (hy _ (SqL.of e2)) p hq1
theorem comp_zt {a b : Addr} {xs ys : List V} (hR : R = CmpW mp g tc te σ Q) (hz : xs.length ≤ sizeLine) (hl2 : xs.length = ys.length) (Pv : Nat → List V → St → Hp → Prop) (h0 : Pv 0 [] (subSt mp σ) H) (hl : ∀ i acc τ H, Pv i acc τ H → acc.length ≤ i)
    (hq : ∀ i acc τ H, Pv i acc τ H → H a = some (.tup xs) ∧ H b = some (.tup ys))
    (hs : ∀ i x y acc τ H p, xs[i]? = some x → ys[i]? = some y → Pv i acc τ H → H p = none → g (.ref p) τ (upd H p (.tup [x, y])) fun τ1 H4 => tc τ1 H4 fun b H5 => if b = true then te τ1 H5 fun v H6 => Pv (i + 1) (acc ++ [v]) τ1 H6 else Pv (i + 1) acc τ1 H5)
    (hd : ∀ acc τ H d, Pv xs.length acc τ H → H d = none → Q (.ref d) (upd H d (.lst acc))) : R (Itu K a b) H := by
  refine comp_by hR xs.length hz Pv h0 hl (fun i acc τ H hi p => ?_) (fun acc τ H p => ?_) (fun i acc τ H x H3 hi p y => ?_) hd
  · obtain ⟨e1, e2⟩ := hq i acc τ H p
    exact ⟨xs, ys, _, _, SqT.of e1, SqT.of e2, List.getElem?_eq_getElem hi, List.getElem?_eq_getElem (by omega)⟩
  · obtain ⟨e1, e2⟩ := hq _ acc τ H p
    exact ⟨xs, ys, SqT.of e1, SqT.of e2, .inl (List.getElem?_eq_none (Nat.le_refl _))⟩
  · obtain ⟨e1, e2⟩ := hq i acc τ H p
    obtain ⟨q, x1, y1, rfl, hq1, rfl, hx, hy⟩ := y
    exact hs i x1 y1 acc τ H q (hx _ (SqT.of e1)) (hy _ (SqT.of e2)) p hq1
end
end L2
namespace L2
open PySem PySem.Spec PyProof.Rows
inductive RowC where
  | one (n t : Int)
  | rng (a b t : Int)
  | low (n t : Int)
  | msk (lo wd bits t : Int)
  | tab (lo : Int) (gs : List Int)
  | pik (l : Int)
def rowCD : RowC → PyData
  | .one n t => .tuple [.str "is", .int n, .int t]
  | .rng a b t => .tuple [.str "within", .int a, .int b, .int t]
  | .low n t => .tuple [.str "below", .int n, .int t]
  | .msk lo wd bits t => .tuple [.str "mask", .int lo, .int wd, .int bits, .int t]
  | .tab lo gs => .tuple [.str "table", .int lo, .tuple (gs.map PyData.int)]
  | .pik l => .tuple [.str "pick", .int l]
def RowCOk (m o : Int) : RowC → Prop
  | .one _ t => btw o m t = true
  | .rng _ _ t => btw o m t = true
  | .low _ t => btw o m t = true
  | .msk _ wd bits t => btw o m t = true ∧ 1 ≤ wd ∧ wd ≤ 64 ∧ 0 ≤ bits
  | .tab _ gs => gs.all (btw o m) = true
  | .pik _ => True
theorem rowC_of {m o : Int} {r : RowI} (h : RowOk m o r) : ∃ c, rowD r = rowCD c ∧ RowCOk m o c := by
  cases r with
  | tab n gs => exact ⟨.tab n gs, rfl, h.2.2.1⟩
  | ins w is =>
    obtain ⟨_, hs, hg, _⟩ := h
    rcases word_in hs with rfl | rfl | rfl | rfl | rfl
    · rw [shape_isbelow (.inl rfl)] at hs
      obtain ⟨a, b, rfl⟩ := len2 (of_decide_eq_true hs)
      rw [goalI_last (by decide +kernel) (show [a, b].getLast? = some b from rfl)] at hg
      exact ⟨.one a b, rfl, show btw o m b = true by simpa using hg⟩
    · rw [shape_within] at hs
      match is, hs, hg with
      | [a, b, c], hs, hg =>
        rw [goalI_last (by decide +kernel) (show [a, b, c].getLast? = some c from rfl)] at hg
        exact ⟨.rng a b c, rfl, show btw o m c = true by simpa using hg⟩
    · rw [shape_isbelow (.inr rfl)] at hs
      obtain ⟨a, b, rfl⟩ := len2 (of_decide_eq_true hs)
      rw [goalI_last (by decide +kernel) (show [a, b].getLast? = some b from rfl)] at hg
      exact ⟨.low a b, rfl, show btw o m b = true by simpa using hg⟩
    · rw [shape_mask] at hs
      match is, hs, hg with
      | [a, b, c, d], hs, hg =>
        rw [goalI_last (by decide +kernel) (show [a, b, c, d].getLast? = some d from rfl)] at hg
        replace hs : ((decide (1 ≤ b) && decide (b ≤ 64)) && (decide (0 ≤ c) && decide (c < 2 ^ b.toNat))) = true := hs
        rw [Bool.and_eq_true, Bool.and_eq_true, Bool.and_eq_true, decide_eq_true_eq, decide_eq_true_eq, decide_eq_true_eq] at hs
        exact ⟨.msk a b c d, rfl, by simpa using hg, hs.1.1, hs.1.2, hs.2.1⟩
    · have hsz : sizeW "pick" = (is.length : Int) + 1 := by
        cases Decidable.em (sizeW "pick" = (is.length : Int) + 1) with
        | inl z => exact z
        | inr z => rw [shapeI_len z] at hs; cases hs
      obtain ⟨a, rfl⟩ := len1 (is := is) (by rw [show sizeW "pick" = 2 by decide +kernel] at hsz; omega)
      exact ⟨.pik a, rfl, trivial⟩
theorem rowsC_of {m : Int} : ∀ {rs : List RowI} (k : Nat), (∀ (j : Nat) r, rs[j]? = some r → RowOk m ((k + j : Nat) : Int) r) → ∃ cs : List RowC, rs.map rowD = cs.map rowCD ∧ cs.length = rs.length ∧ ∀ (j : Nat) c, cs[j]? = some c → RowCOk m ((k + j : Nat) : Int) c
  | [], k, _ => ⟨[], rfl, rfl, fun j c h => (by cases h)⟩
  | r :: rs, k, h => by
    obtain ⟨c, e1, e2⟩ := rowC_of (h 0 r rfl)
    obtain ⟨cs, e3, e4, e5⟩ := rowsC_of (rs := rs) (k + 1) fun j r hr => by
      have := h (j + 1) r hr
      rw [show k + (j + 1) = k + 1 + j by omega] at this
      exact this
    refine ⟨c :: cs, by rw [List.map_cons, List.map_cons, e1, e3], by rw [List.length_cons, List.length_cons, e4], fun j c' hc => ?_⟩
    cases j with
    | zero => cases hc; exact e2
    | succ j =>
      have := e5 j c' hc
      rw [show k + 1 + j = k + (j + 1) by omega] at this
      exact this
def isPik : RowC → Bool
  | .pik _ => true
  | _ => false
def bitAt (bits place : Int) : Bool := decide (Builtin.bitAnd (bits / 2 ^ place.toNat) 1 = 1)
def stepC (c : RowC) (o n : Int) : Option Int := match c with
  | .one a t => some (if n = a then t else o + 1)
  | .rng a b t => some (if a ≤ n ∧ n ≤ b then t else o + 1)
  | .low a t => some (if n < a then t else o + 1)
  | .msk lo wd bits t => if 0 ≤ n - lo ∧ n - lo < wd then some (if bitAt bits (n - lo) = true then t else o + 1) else none
  | .tab lo gs => if 0 ≤ n - lo ∧ n - lo < gs.length then gs[(n - lo).toNat]? else none
  | .pik _ => none
def RowsC (cs : List RowC) : Prop := 1 ≤ cs.length ∧ ∀ (j : Nat) c, cs[j]? = some c → RowCOk cs.length j c
theorem stepC_btw {cs : List RowC} (h : RowsC cs) {j : Nat} {c : RowC} (hc : cs[j]? = some c) {n t : Int} (ht : stepC c j n = some t) : (j : Int) < t ∧ t < cs.length := by
  have hl := (List.getElem?_eq_some_iff.mp hc).1
  have hk := h.2 j c hc
  have bt : ∀ {t : Int}, btw (j : Int) cs.length t = true → (j : Int) < t ∧ t < cs.length := fun {t} hb => by
    unfold btw at hb
    rwa [Bool.and_eq_true, decide_eq_true_eq, decide_eq_true_eq] at hb
  have nx : isPik c = false → (j : Int) + 1 < cs.length := fun hp => by
    have key : ∀ {t : Int}, btw (j : Int) cs.length t = true → (j : Int) + 1 < cs.length := fun {t} hb => by have := bt hb; omega
    cases c with
    | one a t => exact key hk
    | rng a b t => exact key hk
    | low a t => exact key hk
    | msk lo wd bits t => exact key hk.1
    | tab lo gs =>
      have h2 : (if 0 ≤ n - lo ∧ n - lo < gs.length then gs[(n - lo).toNat]? else none) = some t := ht
      split at h2
      · exact key (List.all_eq_true.mp hk t (List.mem_of_getElem? h2))
      · cases h2
    | pik l => cases hp
  cases c with
  | one a t' =>
    have h2 : some (if n = a then t' else (j : Int) + 1) = some t := ht
    split at h2 <;> cases h2
    · exact bt hk
    · exact ⟨by omega, nx rfl⟩
  | rng a b t' =>
    have h2 : some (if a ≤ n ∧ n ≤ b then t' else (j : Int) + 1) = some t := ht
    split at h2 <;> cases h2
    · exact bt hk
    · exact ⟨by omega, nx rfl⟩
  | low a t' =>
    have h2 : some (if n < a then t' else (j : Int) + 1) = some t := ht
    split at h2 <;> cases h2
    · exact bt hk
    · exact ⟨by omega, nx rfl⟩
  | msk lo wd bits t' =>
    have h2 : (if 0 ≤ n - lo ∧ n - lo < wd then some (if bitAt bits (n - lo) = true then t' else (j : Int) + 1) else none) = some t := ht
    split at h2
    · split at h2 <;> cases h2
      · exact bt hk.1
      · exact ⟨by omega, nx rfl⟩
    · cases h2
  | tab lo gs =>
    have h2 : (if 0 ≤ n - lo ∧ n - lo < gs.length then gs[(n - lo).toNat]? else none) = some t := ht
    split at h2
    · exact bt (List.all_eq_true.mp hk t (List.mem_of_getElem? h2))
    · cases h2
  | pik l => cases ht
def runC (cs : List RowC) (n : Int) : Nat → Int → Option Int × List Int
  | 0, a => (none, [a])
  | k + 1, a => match cs[a.toNat]? with
    | some (.pik l) => (some l, [a])
    | some c => match stepC c a n with
      | none => (none, [a])
      | some t => ((runC cs n k t).1, a :: (runC cs n k t).2)
    | none => (none, [a])
theorem runC_pik {cs : List RowC} {n : Int} {k : Nat} {a l : Int} (h : cs[a.toNat]? = some (.pik l)) : runC cs n (k + 1) a = (some l, [a]) := by
  show (match cs[a.toNat]? with | some (.pik l) => _ | some c => _ | none => _) = _
  rw [h]
theorem runC_go {cs : List RowC} {n : Int} {k : Nat} {a : Int} {c : RowC} {t : Int} (h : cs[a.toNat]? = some c) (hp : isPik c = false) (ht : stepC c a n = some t) : runC cs n (k + 1) a = ((runC cs n k t).1, a :: (runC cs n k t).2) := by
  show (match cs[a.toNat]? with | some (.pik l) => _ | some c => _ | none => _) = _
  rw [h]
  cases c with
  | pik l => cases hp
  | _ => simp only [ht]
theorem runC_no {cs : List RowC} {n : Int} {k : Nat} {a : Int} {c : RowC} (h : cs[a.toNat]? = some c) (hp : isPik c = false) (ht : stepC c a n = none) : runC cs n (k + 1) a = (none, [a]) := by
  show (match cs[a.toNat]? with | some (.pik l) => _ | some c => _ | none => _) = _
  rw [h]
  cases c with
  | pik l => cases hp
  | _ => simp only [ht]
def runOf (cs : List RowC) (n : Int) : Option Int × List Int := runC cs n cs.length 0
theorem run_safe {cs : List RowC} {n : Int} (hr : RowsC cs) (S : Int → Prop) (step : ∀ (j : Nat) c, S j → cs[j]? = some c → isPik c = false → ∃ t, stepC c j n = some t ∧ S t) : ∀ (k : Nat) (a : Int), 0 ≤ a → a < cs.length → (cs.length : Int) ≤ a + k → S a → ∃ l, (runC cs n k a).1 = some l
  | 0, a, h0, h1, h2, _ => by omega
  | k + 1, a, h0, h1, h2, hS => by
    obtain ⟨j, rfl⟩ := Int.eq_ofNat_of_zero_le h0
    have hj : j < cs.length := by omega
    have hc : cs[((j : Nat) : Int).toNat]? = some cs[j] := by rw [Int.toNat_natCast]; exact List.getElem?_eq_getElem hj
    cases hp : isPik cs[j] with
    | true =>
      cases e : cs[j] with
      | pik l => rw [e] at hc; exact ⟨l, by rw [runC_pik hc]⟩
      | _ => rw [e] at hp; cases hp
    | false =>
      obtain ⟨t, ht, hSt⟩ := step j cs[j] hS (List.getElem?_eq_getElem hj) hp
      have hb := stepC_btw hr (List.getElem?_eq_getElem hj) ht
      rw [runC_go hc hp ht]
      exact run_safe hr S step k t (by omega) hb.2 (by omega) hSt
def spBehindL : Sp := fun vs H Q _ => ∃ (l : Addr) (ok : Addr → Prop) (cs : List RowC) (j : Nat) (n : Int) (c : RowC), vs = [.ref l, .int (j : Int), .int n] ∧ TreeAt ok H (.ref l) (.list (cs.map rowCD)) ∧ RowsC cs ∧ cs[j]? = some c ∧ isPik c = false ∧ ∀ H', Same H H' → Q (optV (stepC c j n)) H'
def spRun (must : Bool) : Sp := fun vs H Q _ => ∃ (l : Addr) (ok : Addr → Prop) (cs : List RowC) (n : Int), vs = [.ref l, .int n] ∧ TreeAt ok H (.ref l) (.list (cs.map rowCD)) ∧ RowsC cs ∧ (must = true → ∃ lab, (runOf cs n).1 = some lab) ∧
  ∀ (t ld : Addr) H', Same H H' → H t = none → H ld = none → t ≠ ld → H' t = some (.tup [optV (runOf cs n).1, .ref ld]) → H' ld = some (.lst ((runOf cs n).2.map V.int)) → (runOf cs n).2.length ≤ cs.length → Q (.ref t) H'
end L2
namespace L2
open PySem PySem.Spec PyProof.Rows
def rowV : RowC → Addr → List V
  | .one n t, _ => [.str "is", .int n, .int t]
  | .rng a b t, _ => [.str "within", .int a, .int b, .int t]
  | .low n t, _ => [.str "below", .int n, .int t]
  | .msk lo wd bits t, _ => [.str "mask", .int lo, .int wd, .int bits, .int t]
  | .tab lo _, g => [.str "table", .int lo, .ref g]
  | .pik l, _ => [.str "pick", .int l]
def RowAt (H : Hp) (x : V) (c : RowC) : Prop := ∃ a g, x = .ref a ∧ H a = some (.tup (rowV c g)) ∧ ∀ lo gs, c = .tab lo gs → H g = some (.tup (gs.map V.int))
def scV : PyData → Option V
  | .int i => some (.int i)
  | .str z => some (.str z)
  | _ => none
theorem TreeAt.sc {ok : Addr → Prop} {H : Hp} {x v : V} {d : PyData} (t : TreeAt ok H x d) (h : scV d = some v) : x = v := by
  cases t with
  | int i => exact Option.some.inj h
  | str z => exact Option.some.inj h
  | _ => cases h
theorem TreesAt.sc {ok : Addr → Prop} {H : Hp} : ∀ {xs vs : List V} {ds : List PyData}, TreesAt ok H xs ds → ds.map scV = vs.map some → xs = vs
  | _, [], _, .nil, _ => rfl
  | _, v :: vs, _, .nil, h => by cases h
  | _, [], _, .cons _ _, h => by cases h
  | _, v :: vs, _, .cons t ts, h => by
    rw [List.map_cons, List.map_cons] at h
    injection h with h1 h2
    rw [t.sc h1, ts.sc h2]
theorem TreesAt.uncons {ok : Addr → Prop} {H : Hp} {xs : List V} {d : PyData} {ds : List PyData} (t : TreesAt ok H xs (d :: ds)) : ∃ x r, xs = x :: r ∧ TreeAt ok H x d ∧ TreesAt ok H r ds := by
  cases t with
  | cons h r => exact ⟨_, _, rfl, h, r⟩
theorem TreeAt.tupOf {ok : Addr → Prop} {H : Hp} {x : V} {ds : List PyData} (t : TreeAt ok H x (.tuple ds)) : ∃ p xs, x = .ref p ∧ H p = some (.tup xs) ∧ TreesAt ok H xs ds := by
  cases t with
  | tup o e z ts => exact ⟨_, _, rfl, e, ts⟩
theorem TreeAt.row {ok : Addr → Prop} {H : Hp} {x : V} {c : RowC} (t : TreeAt ok H x (rowCD c)) : RowAt H x c := by
  cases c with
  | tab lo gs =>
    obtain ⟨p, xs, rfl, e, ts⟩ := TreeAt.tupOf t
    obtain ⟨a, b, g, rfl, h1, h2, h3⟩ : ∃ a b g, xs = [a, b, g] ∧ TreeAt ok H a (.str "table") ∧ TreeAt ok H b (.int lo) ∧ TreeAt ok H g (.tuple (gs.map PyData.int)) := by
      obtain ⟨a, r, rfl, h1, ts⟩ := ts.uncons
      obtain ⟨b, r, rfl, h2, ts⟩ := ts.uncons
      obtain ⟨g, r, rfl, h3, ts⟩ := ts.uncons
      have := ts.length
      have hr : r = [] := List.length_eq_zero_iff.mp this
      exact ⟨a, b, g, by rw [hr], h1, h2, h3⟩
    obtain ⟨q, ys, rfl, e2, ts2⟩ := TreeAt.tupOf h3
    rw [h1.sc rfl, h2.sc rfl] at e
    refine ⟨p, q, rfl, e, fun lo' gs' z => ?_⟩
    cases z
    rw [← ts2.sc (vs := gs.map V.int) (by rw [List.map_map, List.map_map]; rfl)]
    exact e2
  | one n t' =>
    obtain ⟨p, xs, rfl, e, ts⟩ := TreeAt.tupOf t
    exact ⟨p, 0, rfl, by rw [e, ts.sc (vs := [.str "is", .int n, .int t']) rfl]; rfl, fun _ _ z => nomatch z⟩
  | rng a b t' =>
    obtain ⟨p, xs, rfl, e, ts⟩ := TreeAt.tupOf t
    exact ⟨p, 0, rfl, by rw [e, ts.sc (vs := [.str "within", .int a, .int b, .int t']) rfl]; rfl, fun _ _ z => nomatch z⟩
  | low n t' =>
    obtain ⟨p, xs, rfl, e, ts⟩ := TreeAt.tupOf t
    exact ⟨p, 0, rfl, by rw [e, ts.sc (vs := [.str "below", .int n, .int t']) rfl]; rfl, fun _ _ z => nomatch z⟩
  | msk lo wd bits t' =>
    obtain ⟨p, xs, rfl, e, ts⟩ := TreeAt.tupOf t
    exact ⟨p, 0, rfl, by rw [e, ts.sc (vs := [.str "mask", .int lo, .int wd, .int bits, .int t']) rfl]; rfl, fun _ _ z => nomatch z⟩
  | pik l =>
    obtain ⟨p, xs, rfl, e, ts⟩ := TreeAt.tupOf t
    exact ⟨p, 0, rfl, by rw [e, ts.sc (vs := [.str "pick", .int l]) rfl]; rfl, fun _ _ z => nomatch z⟩
theorem TreesAt.row {ok : Addr → Prop} {H : Hp} {xs : List V} {cs : List RowC} (t : TreesAt ok H xs (cs.map rowCD)) {j : Nat} {c : RowC} (hc : cs[j]? = some c) : ∃ x, xs[j]? = some x ∧ RowAt H x c := by
  have hl := t.length
  rw [List.length_map] at hl
  have hj := (List.getElem?_eq_some_iff.mp hc).1
  have hx : xs[j]? = some xs[j] := List.getElem?_eq_getElem (by omega)
  obtain ⟨d, hd, td⟩ := t.get hx
  rw [List.getElem?_map, hc] at hd
  cases hd
  exact ⟨_, hx, td.row⟩
def endsC : RowC → Option (Int × Int)
  | .msk lo wd _ _ => some (lo, lo + wd - 1)
  | .tab lo gs => some (lo, lo + gs.length - 1)
  | _ => none
def spEnds : Sp := fun vs H Q _ => ∃ x c, vs = [x] ∧ RowAt H x c ∧ (endsC c = none → Q .non H) ∧ ∀ lo hi, endsC c = some (lo, hi) → ∀ p, H p = none → Q (.ref p) (upd H p (.tup [.int lo, .int hi]))
def holdsC (c : RowC) (n : Int) : Bool := match c with
  | .one a _ => decide (n = a)
  | .rng a b _ => decide (a ≤ n) && decide (n ≤ b)
  | .low a _ => decide (n < a)
  | .msk lo _ bits _ => bitAt bits (n - lo)
  | _ => false
def isTab : RowC → Bool
  | .tab _ _ => true
  | _ => false
def spHolds : Sp := fun vs H Q _ => ∃ x c n, vs = [x, .int n] ∧ RowAt H x c ∧ isPik c = false ∧ isTab c = false ∧ (∀ lo wd bits t, c = .msk lo wd bits t → 0 ≤ n - lo) ∧ Q (.bl (holdsC c n)) H
end L2
namespace L2
open PySem PySem.Spec PyProof.Rows
def μRun (m : Nat) : St → Nat
  | _ :: _ :: some (.int a) :: _ => m - a.toNat
  | _ => 0
def wordC : RowC → Str
  | .one _ _ => "is"
  | .rng _ _ _ => "within"
  | .low _ _ => "below"
  | .msk _ _ _ _ => "mask"
  | .tab _ _ => "table"
  | .pik _ => "pick"
theorem row_word (c : RowC) (g : Addr) : atI (rowV c g) 0 = some (V.str (wordC c)) := by cases c <;> rfl
theorem word_pik {c : RowC} (h : isPik c = false) : wordC c ≠ "pick" := by
  cases c with
  | pik l => cases h
  | one a b => exact (by decide +kernel : ("is" : Str) ≠ "pick")
  | rng a b c => exact (by decide +kernel : ("within" : Str) ≠ "pick")
  | low a b => exact (by decide +kernel : ("below" : Str) ≠ "pick")
  | msk a b c d => exact (by decide +kernel : ("mask" : Str) ≠ "pick")
  | tab a b => exact (by decide +kernel : ("table" : Str) ≠ "pick")
end L2
namespace L2
open PySem PySem.Spec PyProof.Rows
theorem while_j {c : TT} {tb : TS} {D : Ends} {σ : St} {H : Hp} (m : Nat) (Pv : Nat → St → Hp → Prop) (j0 : Nat) (h0 : Pv j0 σ H)
    (hs : ∀ j σ H, Pv j σ H → c σ H fun b H1 => if b = true then ∃ N : St → Hp → Prop, (∀ σ' H', N σ' H' → ∃ m', m' < m - j ∧ ∃ j', m' = m - j' ∧ Pv j' σ' H') ∧ tb { D with nx := N, ct := N, bk := D.nx } σ H1 else D.nx σ H1) : tWhile c tb D σ H :=
  ⟨fun k σ H => ∃ j, k = m - j ∧ Pv j σ H, ⟨_, j0, rfl, h0⟩, by rintro k σ H ⟨j, rfl, p⟩; exact hs j σ H p⟩
theorem last_snoc (pre : List Int) (j : Int) : atI ((pre ++ [j]).map V.int) (-1) = some (V.int j) := by
  unfold atI ixN
  rw [if_neg (by decide), if_pos (by rw [List.length_map, List.length_append, List.length_singleton]; omega)]
  show ((pre ++ [j]).map V.int)[_]? = _
  rw [show (-1 + (((pre ++ [j]).map V.int).length : Int)).toNat = pre.length by rw [List.length_map, List.length_append, List.length_singleton]; omega, List.getElem?_map, List.getElem?_append_right (Nat.le_refl _), Nat.sub_self]
  rfl
end L2
namespace L2
open PySem PySem.Spec PyProof.Rows
theorem btw_of {o m t : Int} (h1 : o < t) (h2 : t < m) : btw o m t = true := by
  unfold btw
  rw [decide_eq_true h1, decide_eq_true h2]
  rfl
theorem depth_ints (is : List Int) : PyData.depthAll (is.map PyData.int) = 0 := by
  induction is with
  | nil => rfl
  | cons i is ih => rw [List.map_cons, PyData.depthAll.eq_2, ih]; rfl
end L2
namespace L2
open PySem PySem.Spec PyProof.Rows
section
variable {X : Cx} {e o : Expr} {te to : TE} {pos : Pos}
def ppq (ob : Option HO) (l : Addr) (H : Hp) (Q : VK) : Prop := match ob with
  | some (.lst xs) => ∃ y, xs[xs.length - 1]? = some y ∧ Q y (upd H l (.lst xs.dropLast))
  | _ => False
def ppK (x : V) (H : Hp) (Q : VK) : Prop := match x with
  | .ref l => ppq (H l) l H Q
  | _ => False
def tPopD (to : TE) : TE := fun σ H Q => to σ H fun x H1 => ppK x H1 Q
theorem tPopD_eq (to : TE) (σ : St) (H : Hp) (Q : VK) : tPopD to σ H Q = to σ H fun x H1 => ppK x H1 Q := rfl
theorem ppK_ref (l : Addr) (H : Hp) (Q : VK) : ppK (.ref l) H Q = ppq (H l) l H Q := rfl
theorem ppq_lst (xs : List V) (l : Addr) (H : Hp) (Q : VK) : ppq (some (.lst xs)) l H Q = ∃ y, xs[xs.length - 1]? = some y ∧ Q y (upd H l (.lst xs.dropLast)) := rfl
def tLRngO (ta : TA) : TE := fun σ H Q => ta σ H fun vs H1 => ∃ j : Int, vs = [.int j] ∧ (-(2 ^ 62) ≤ j ∧ j < 2 ^ 62) ∧ (j - 0).toNat ≤ sizeLine ∧ ∀ p, H1 p = none → Q (.ref p) (upd H1 p (.lst (rngV 0 (j - 0).toNat)))
end
section
variable {X : Cx} {e o : Expr} {te to : TE} {pos : Pos}
def KTup (K : PySem.W.Frag) (p : Addr) (xs : List V) : Prop := ∃ (o : Obj) (its : Array Value) (n : Nat), K.lookup p = some o ∧ o.cls = .type "tuple" ∧ o.dict = none ∧ o.data = .seq its n ∧ its.size ≤ sizeLine ∧ Vals xs its.toList
theorem KTup.sq {K : PySem.W.Frag} {p : Addr} {xs : List V} {H : Hp} (h : KTup K p xs) : SqT K H p xs := by
  obtain ⟨o, its, n, h1, h2, _, h3, h4, h5⟩ := h
  exact .inr ⟨o, its, n, h1, h2, h3, h4, h5⟩
end
def rd9 := And.intro @tPopD_eq (And.intro @ppK_ref (And.intro @ppq_lst (And.intro @tLRngO.eq_1 (And.intro @tAug.eq_1 @ipI.eq_1))))
end L2
namespace L2
open PySem PySem.Spec PyProof.Rows
inductive Pl where
  | pick (l : Int)
  | one (k : Nat) (r : Pl)
  | wit (k : Nat) (r : Pl)
  | low (k : Nat) (a b : Pl)
  | msk (l : Int) (r : Pl)
  | tab
end L2
namespace L2
open PySem PySem.Spec PyProof.Rows
end L2
namespace L2
open PySem PySem.Spec PyProof.Rows
end L2
namespace L2
open PySem PySem.Spec PyProof.Rows
end L2
namespace L2
end L2
namespace L2
open PySem PySem.Spec PyProof.Rows
def testWords : List Str := ["is", "within", "below", "mask", "table"]
end L2
namespace L2
open PySem PySem.Spec PyProof.Rows
section
variable {X : Cx} {e o : Expr} {te to : TE} {pos : Pos}
end
end L2
namespace L2
open PySem PySem.Spec PyProof.Rows
end L2
namespace L2
open PySem PySem.Spec PyProof.Rows
section
variable {X : Cx} {e o : Expr} {te to : TE} {pos : Pos}
end
end L2
namespace L2
open PySem PySem.Spec PyProof.Rows
end L2
namespace L2
open PySem PySem.Spec PyProof.Rows
def wordI (i : Nat) : Str := testWords.getD i ""
def spPrices5 : Sp := fun vs H Q _ => ∃ (p : Addr) (B : Int), vs = [.ref p, .int 5] ∧ TapeAt H p B ∧ 0 ≤ B ∧ B ≤ 900000 ∧
  ∀ (t : Addr) (zs : List Int) H', SameX p H H' → TapeAt H' p (B + 20) → t ≠ p → H t = none → H' t = some (.tup (zs.map V.int)) → zs.length = 5 → (∀ z ∈ zs, 1 ≤ z ∧ z ≤ 99) → Q (.ref t) H'
end L2
namespace L2
open PySem PySem.Spec PyProof.Rows
end L2
namespace L2
open PySem PySem.Spec PyProof.Rows
def caq (a b : Option HO) (H : Hp) (Q : VK) : Prop := match a, b with
  | some (.tup xs), some (.tup ys) => xs.length + ys.length ≤ sizeLine ∧ ∀ r H', Same H H' → H' r = some (.tup (xs ++ ys)) → Q (.ref r) H'
  | _, _ => False
def rCatA : R2 := fun x y H Q => match x, y with
  | .ref p, .ref q => caq (H p) (H q) H Q
  | _, _ => False
theorem rCatA_r (p q : Addr) (H : Hp) (Q : VK) : rCatA (.ref p) (.ref q) H Q = caq (H p) (H q) H Q := rfl
theorem caq_tt (xs ys : List V) (H : Hp) (Q : VK) : caq (some (.tup xs)) (some (.tup ys)) H Q = (xs.length + ys.length ≤ sizeLine ∧ ∀ r H', Same H H' → H' r = some (.tup (xs ++ ys)) → Q (.ref r) H') := rfl
theorem cat_nil {prog : Program} {w : World} {A : Around} {E : Value → Shared → Prop} {s : Shared} {t b : Addr} {ws : List Value} {Q : Value → Shared → Prop} (ht : IsTup s.heap t #[]) (hb : IsTup s.heap b ws.toArray) (h : Q (.ref b) s) : wpAny (model prog w) A (binaryOp .Add (.ref t) (.ref b)) Q E s := by
  obtain ⟨⟨cls, dd, data, sl⟩, ho, hc, n, hd⟩ := id ht
  obtain ⟨⟨cls2, dd2, data2, sl2⟩, ho2, hc2, n2, hd2⟩ := id hb
  simp only at hc hd hc2 hd2
  subst hc hd hc2 hd2
  exact concat_meets ⟨_, ho, rfl⟩ ⟨_, ho2, rfl⟩ noFill_tuple_add seq_tuple_add PySem.F.slot_tuple_add PySem.F.entry_tuple_add (PySem.F.args_tuple_add_2 _ _)
    (tuple_addW0 t b #[] ws.toArray n n2 dd dd2 sl sl2 rfl) ⟨ho, ho2, h⟩
theorem op_catA {X : Cx} : OpR X (binaryOp .Add) rCatA := by
  intro pins s σ H x y v u Q I rx ry h
  unfold rCatA at h
  split at h
  · rename_i p q
    unfold caq at h
    split at h
    · rename_i xs ys e1 e2
      by_cases hx : xs = []
      · subst hx
        cases rx
        cases ry
        obtain ⟨its, r1, p1, _⟩ := I.tuple (SqT.of e1)
        obtain ⟨its2, r2, p2, _⟩ := I.tuple (SqT.of e2)
        cases r1
        exact cat_nil p1 p2 ⟨.ref q, H, I, rfl, h.2 q H (Same.refl _) e2⟩
      · refine op_catT pins s σ H _ _ v u Q I rx ry ⟨p, q, xs, ys, rfl, rfl, SqT.of e1, SqT.of e2, hx, h.1, fun z => h.2 p H (Same.refl _) (by rw [e1, z, List.append_nil]), fun _ r hr => h.2 r _ (same_upd hr) upd_same⟩
    · exact h.elim
  · exact h.elim
end L2
namespace L2
open PySem PySem.Spec PyProof.Rows
theorem zip_no_keys : typeLookup (Value.type "zip") (Str.ofString "keys") = pure none := am_miss_of_fast (by rfl)
theorem zip_no_getattr : typeLookup (Value.type "zip") (Str.ofString "__getattr__") = pure none := am_miss_of_fast (by rfl)
theorem getattribute_zip (a : Addr) (vs : Array Value) (u : Tok) : Meets (Builtin.«object.__getattribute__» { pos := [Value.ref a, Value.str (Str.ofString "keys") u] }) fun A R s =>
    s.heap.get? a = some { cls := Value.type "zip", data := Data.fields vs } ∧ raisesAttr (Value.ref a) (Str.ofString "keys") A R s := by
  refine Meets.of_wp fun prog w A R s hs => ?_
  obtain ⟨hp, g, d, tk, os⟩ := s
  obtain ⟨hx, hr⟩ := hs
  have hT : (⟨hp, g, d, tk, os⟩ : Shared).TypeIs (Value.ref a) "zip" := ⟨_, hx, rfl⟩
  unfold Builtin.«object.__getattribute__» slotArgs
  refine wpAny_bind (wpAny_ite_false rfl (wpAny_ite_false rfl (wpAny_pure ?_)))
  refine wpAny_bind ?_
  show wpAny _ _ (pure (Str.ofString "keys")) _ _ _
  refine wpAny_pure ?_
  refine wpAny_bind (wpAny_typeOf hT ?_)
  refine wpAny_bind ?_
  unfold Builtin.ObjectAttr.find
  refine wpAny_bind (wpAny_of_eq zip_no_keys ?_)
  refine wpAny_bind ?_
  show wpAny _ _ (pure none) _ _ _
  refine wpAny_pure (wpAny_bind ?_)
  show wpAny _ _ (pure none) _ _ _
  refine wpAny_pure ?_
  show wpAny _ _ (Builtin.ObjectAttr.ownThenClass (Value.ref a) (Str.ofString "keys") none none) _ _ _
  unfold Builtin.ObjectAttr.ownThenClass
  refine wpAny_bind ?_
  unfold Builtin.ObjectAttr.inOwnDict
  refine wpAny_bind ?_
  unfold Builtin.ObjectAttr.ownDict
  refine wpAny_bind (wpAny_loadPart' hx ?_)
  show wpAny _ _ (instanceDict a false) _ _ _
  unfold instanceDict
  refine wpAny_bind (wpAny_loadPart' hx (wpAny_ite_true rfl (wpAny_pure ?_)))
  show wpAny _ _ (pure none) _ _ _
  refine wpAny_pure ?_
  show wpAny _ _ (Builtin.ObjectAttr.copiedAttributeGuard (Str.ofString "keys") (Value.ref a) >>= _) _ _ _
  refine wpAny_bind ?_
  unfold Builtin.ObjectAttr.copiedAttributeGuard
  refine wpAny_ite_false (by decide) (wpAny_pure ?_)
  show wpAny _ _ (rule _ >>= _) _ _ _
  refine wpAny_bind (wpAny_rule (wpAny_pure ?_))
  refine wpAny_ite_false rfl ?_
  refine wpAny_ite_false rfl ?_
  show wpAny _ _ (typeNameOfCut 100 (Value.ref a) >>= _) _ _ _
  refine wpAny_bind ?_
  show wpAny _ _ (shownTypeOf (Value.ref a) >>= _) _ _ _
  refine wpAny_bind ?_
  show wpAny _ _ (typeOf (Value.ref a) >>= _) _ _ _
  refine wpAny_bind (wpAny_typeOf hT ?_)
  refine wpAny_ite_false rfl (wpAny_pure ?_)
  show wpAny _ _ (pure _) _ _ _
  refine wpAny_pure ?_
  exact wpAny_raiseAttrError hr.1 hr.2 (attrMsg_fits (by decide) (by decide))
theorem entry_zip_ga : entryFor table "zip.__getattribute__" = some Builtin.«object.__getattribute__» := entryFor_alias (id' := "object.__getattribute__") (by rfl) (by decide +kernel) (by decide +kernel) (by rfl)
theorem zip_keys_none {prog : Program} {w : World} {A : Around} {E : Value → Shared → Prop} {s : Shared} {a : Addr} {vs : Array Value} {Q : Option Value → Shared → Prop} (hh : A.handled = none) (hx : s.heap.get? a = some { cls := Value.type "zip", data := Data.fields vs })
    (h : ∀ (h' : Heap) (tk : Nat), (∀ c o, s.heap.get? c = some o → h'.get? c = some o) → Q none { s with heap := h', toks := tk }) : wpAny (model prog w) A (getAttr? (Value.ref a) (Str.ofString "keys")) Q E s := by
  obtain ⟨hp, g, d, tk, os⟩ := s
  have hT : ∀ tk, (⟨hp, g, d, tk, os⟩ : Shared).TypeIs (Value.ref a) "zip" := fun _ => ⟨_, hx, rfl⟩
  unfold getAttr? mkText
  refine wpAny_bind (wpAny_bind (wpAny_fresh' (wpAny_pure ?_)))
  unfold getAttrBy?
  refine wpAny_bind (wpAny_attempt ?_)
  unfold getAttrBy
  refine wpAny_holding (wpAny_bind (wpAny_typeOf (hT _) ?_))
  refine wpAny_bind (wpAny_of_eq F.slot_zip_getattribute.lookup ?_)
  show wpAny _ _ (ite _ _ _) _ _ _
  refine wpAny_ite_false rfl ?_
  unfold getAttrByItsOwn hookBefore
  refine wpAny_bind (wpAny_ite_false rfl (wpAny_pure ?_))
  refine wpAny_bind (wpAny_attempt (wpAny_holding ?_))
  unfold callGetattribute
  refine wpAny_ite_false rfl ?_
  unfold boundAndCalled
  refine wpAny_bind (wpAny_of_eq (F.slot_zip_getattribute.bind (Value.ref a)) ?_)
  refine call_meets F.slot_zip_getattribute (hT _) entry_zip_ga (F.args_zip_getattribute_2 _ _) (getattribute_zip a vs _) ⟨hx, hh, fun h' tk' e ne => ?_⟩
  obtain ⟨t, u, he⟩ := ne.there
  have hTe : (⟨h', g, d, tk', os⟩ : Shared).TypeIs (Value.ref e) "AttributeError" := ⟨_, he, rfl⟩
  unfold getattributeRaised
  refine wpAny_bind (wpAny_isInstance hTe sub_AttributeError (wpAny_ite_true rfl ?_))
  unfold hookBehind
  refine wpAny_bind (wpAny_ite_false rfl (wpAny_of_eq zip_no_getattr ?_))
  show wpAny _ _ (throw (Value.ref e) >>= _) _ _ _
  refine wpAny_bind (wpAny_throw ?_)
  show wpAny _ _ (isInstance (Value.ref e) (Value.type "AttributeError") >>= _) _ _ _
  refine wpAny_bind (wpAny_isInstance hTe sub_AttributeError (wpAny_ite_true rfl (wpAny_pure ?_)))
  exact h h' tk' fun c o e => ne.keeps c o e
end L2
namespace L2
open PySem PySem.Spec PyProof.Rows
def Wlk (h : Heap) (i l : Addr) (k : Nat) (xs : Array Value) : Prop := (h.IsTupleIter i l k ∧ h.IsTuple l xs) ∨ (h.IsListIter i l k ∧ h.IsList l xs)
theorem Wlk.keep {h h' : Heap} {i l : Addr} {k : Nat} {xs : Array Value} (I : Wlk h i l k xs) (ki : ∀ o, h.get? i = some o → h'.get? i = some o) (kl : ∀ o, h.get? l = some o → h'.get? l = some o) : Wlk h' i l k xs := by
  rcases I with ⟨a, o, e, r⟩ | ⟨a, o, e, r⟩
  · exact .inl ⟨a.at ki, o, kl o e, r⟩
  · exact .inr ⟨a.at ki, o, kl o e, r⟩
theorem Wlk.item {prog : Program} {w : World} {A : Around} {E : Value → Shared → Prop} {s : Shared} {i l : Addr} {k : Nat} {xs : Array Value} {x : Value} {Q : Value → Shared → Prop} (I : Wlk s.heap i l k xs) (hl : l ≠ i) (hx : xs[k]? = some x)
    (hQ : ∀ h', Wlk h' i l (k + 1) xs → Heap.SameBut i s.heap h' → Q x { s with heap := h' }) : wpAny (model prog w) A (Builtin.SmallTypes.nextOf (Value.ref i)) Q E s := by
  rcases I with ⟨a, b⟩ | ⟨a, b⟩
  · refine nextOf_tuple_item a b hx fun h' h1 sb => hQ h' (.inl ⟨h1, ?_⟩) sb
    obtain ⟨o, e, r⟩ := b
    exact ⟨o, (sb.2 l hl).trans e, r⟩
  · refine wpAny_nextOf_list_item a b hx fun h' h1 sb => hQ h' (.inr ⟨h1, ?_⟩) sb
    obtain ⟨o, e, r⟩ := b
    exact ⟨o, (sb.2 l hl).trans e, r⟩
theorem Wlk.last {prog : Program} {w : World} {A : Around} {E : Value → Shared → Prop} {s : Shared} {i l : Addr} {k : Nat} {xs : Array Value} {Q : Value → Shared → Prop} (hh : A.handled = none) (I : Wlk s.heap i l k xs) (hx : xs[k]? = none)
    (hE : ∀ h' e, Heap.ExtBut i s.heap h' → (∃ o, h'.get? e = some o ∧ o.cls = Value.type "StopIteration") → E (.ref e) { s with heap := h' }) : wpAny (model prog w) A (Builtin.SmallTypes.nextOf (Value.ref i)) Q E s := by
  rcases I with ⟨a, b⟩ | ⟨a, b⟩
  · exact nextOf_tuple_end hh a b hx hE
  · exact wpAny_nextOf_list_end hh a b hx hE
theorem wp_alive {M : Model} {A : Around} {E : Value → Shared → Prop} {s : Shared} {a : Addr} {Q : Option Obj → Shared → Prop} (h : Q (s.heap.get? a) s) : wpAny M A (loadIfAlive a) Q E s := by
  intro Γ p hΓ
  show Sem.wp M Γ (Sem.loadIfAlive a Sem.pure) _ _ p s
  rw [Sem.wp_loadIfAlive]
  exact h
@[reducible] def IsZip2 (h : Heap) (z TI TO a : Addr) (b : Bool) : Prop := h.get? z = some { cls := Value.type "zip", data := Data.fields #[rawInt a, Value.bool b, Value.bool false, Value.ref TI, Value.ref TO] }
theorem free_not {prog : Program} {w : World} {A : Around} {E : Value → Shared → Prop} {s : Shared} {z TI TO a : Addr} {b : Bool} {o : Obj} {Q : Bool → Shared → Prop} (hz : IsZip2 s.heap z TI TO a b) (ha : s.heap.get? a = some o)
    (hQ : ∀ h', IsZip2 h' z TI TO a true → Heap.SameBut z s.heap h' → Q false { s with heap := h' }) : wpAny (model prog w) A (Builtin.SmallTypes.ownedTupleIsFree (Value.ref z)) Q E s := by
  unfold Builtin.SmallTypes.ownedTupleIsFree
  refine wpAny_bind (wpAny_field hz rfl rfl ?_)
  show wpAny _ _ (loadIfAlive ((a : Int).toNat) >>= _) _ _ _
  refine wpAny_bind (wp_alive ?_)
  rw [show ((a : Int).toNat) = a from Int.toNat_natCast a, ha]
  refine wpAny_ite_false rfl ?_
  refine wpAny_bind (wpAny_field hz rfl rfl ?_)
  cases b with
  | true =>
    refine wpAny_ite_false rfl (wpAny_pure ?_)
    exact hQ s.heap hz ⟨rfl, fun _ _ => rfl⟩
  | false =>
    refine wpAny_ite_true rfl ?_
    refine wpAny_bind (wpAny_setField_rec hz (Nat.lt_of_sub_pos (Nat.zero_lt_succ 3)) fun h' hz' hs' => wpAny_pure ?_)
    exact hQ h' hz' hs'
theorem zn_more {prog : Program} {w : World} {A : Around} {E : Value → Shared → Prop} {s : Shared} {z TI TO i1 i2 l1 l2 a : Addr} {ob : Bool} {k1 k2 : Nat} {xs ys : Array Value} {x y : Value} {o : Obj} {Q : Value → Shared → Prop} (D : ZipApart z TI TO i1 i2 l1 l2) (hz : IsZip2 s.heap z TI TO a ob) (ha : s.heap.get? a = some o) (hTI : IsPair s.heap TI (Value.ref i1) (Value.ref i2))
    (h1 : Wlk s.heap i1 l1 k1 xs) (h2 : Wlk s.heap i2 l2 k2 ys) (hx : xs[k1]? = some x) (hy : ys[k2]? = some y)
    (hQ : ∀ h' : Heap, IsZip2 h' z TI TO a true → Wlk h' i1 l1 (k1 + 1) xs → Wlk h' i2 l2 (k2 + 1) ys → IsPair h' s.heap.objs.size x y → h'.objs.size = s.heap.objs.size + 1 → (∀ c o, c ≠ z → c ≠ i1 → c ≠ i2 → s.heap.get? c = some o → h'.get? c = some o) → Q (Value.ref s.heap.objs.size) { s with heap := h' }) :
    wpAny (model prog w) A (Builtin.«zip.__next__» { pos := [Value.ref z] }) (fun fin s' => ∃ v, fin = Fin.done (Flow.ret v) ∧ Q v s') E s := by
  show wpAny _ _ (field (Value.ref z) 2 >>= _) _ _ _
  refine wpAny_bind (wpAny_field hz rfl rfl ?_)
  show wpAny _ _ (field (Value.ref z) 3 >>= _) _ _ _
  refine wpAny_bind (wpAny_field hz rfl rfl ?_)
  refine wpAny_bind (wpAny_seqItems hTI rfl ?_)
  show wpAny _ _ (Builtin.SmallTypes.ownedTupleIsFree (Value.ref z) >>= _) _ _ _
  refine wpAny_bind (free_not hz ha fun h₁ hz₁ hs₁ => ?_)
  refine wpAny_ite_false rfl ?_
  have old1 : ∀ c o, c ≠ z → s.heap.get? c = some o → h₁.get? c = some o := fun c o hc e => (hs₁.2 c hc).trans e
  have h1a := h1.keep (h' := h₁) (fun o e => old1 i1 o D.i1z e) (fun o e => old1 l1 o D.l1z e)
  show wpAny _ _ (forIn #[Value.ref i1, Value.ref i2] (none, #[]) _ >>= _) _ _ _
  refine wpAny_bind ?_
  rw [← Array.forIn_toList]
  show wpAny _ _ (forIn [Value.ref i1, Value.ref i2] (none, #[]) _) _ _ _
  rw [List.forIn_cons]
  refine wpAny_bind ?_
  show wpAny _ _ (holding [] (Builtin.SmallTypes.nextOf (Value.ref i1) >>= fun v => pure (some v)) >>= _) _ _ _
  refine wpAny_bind (wpAny_holding (wpAny_bind (h1a.item (s := { s with heap := h₁ }) D.l1i1 hx fun h₂ h1b sb₂ => wpAny_pure ?_)))
  have old2 : ∀ c o, c ≠ z → c ≠ i1 → s.heap.get? c = some o → h₂.get? c = some o := fun c o hc hc1 e => (sb₂.2 c hc1).trans (old1 c o hc e)
  refine wpAny_pure ?_
  show wpAny _ _ (forIn [Value.ref i2] (none, #[x]) _) _ _ _
  rw [List.forIn_cons]
  refine wpAny_bind ?_
  have h2a := h2.keep (h' := h₂) (fun o e => old2 i2 o D.i2z (Ne.symm D.i12) e) (fun o e => old2 l2 o D.l2z D.l2i1 e)
  show wpAny _ _ (holding [x] (Builtin.SmallTypes.nextOf (Value.ref i2) >>= fun v => pure (some v)) >>= _) _ _ _
  refine wpAny_bind (wpAny_holding (wpAny_bind (h2a.item (s := { s with heap := h₂ }) D.l2i2 hy fun h₃ h2b sb₃ => wpAny_pure ?_)))
  have old3 : ∀ c o, c ≠ z → c ≠ i1 → c ≠ i2 → s.heap.get? c = some o → h₃.get? c = some o := fun c o hc hc1 hc2 e => (sb₃.2 c hc2).trans (old2 c o hc hc1 e)
  refine wpAny_pure ?_
  show wpAny _ _ (forIn [] (none, #[x, y]) _) _ _ _
  rw [List.forIn_nil]
  refine wpAny_pure ?_
  show wpAny _ _ (newTuple [x, y] >>= _) _ _ _
  refine wpAny_bind (wpAny_newTuple ?_ (by show 2 ≤ sizeLine; decide))
  have sz : h₃.objs.size = s.heap.objs.size := by rw [sb₃.1, sb₂.1, hs₁.1]
  have old4 : ∀ c o, h₃.get? c = some o → (h₃.push { cls := Value.type "tuple", data := Data.seq #[x, y] }).get? c = some o := fun c o e => Heap.get?_push_of_some _ e
  refine wpAny_pure ⟨_, rfl, ?_⟩
  rw [show (({ s with heap := h₃ } : Shared).heap.objs.size) = s.heap.objs.size from sz]
  refine hQ (h₃.push { cls := Value.type "tuple", data := Data.seq #[x, y] }) ?_ ?_ ?_ ?_ ?_ fun c o hc1 hc2 hc3 e => old4 c o (old3 c o hc1 hc2 hc3 e)
  · exact old4 z _ ((sb₃.2 z (Ne.symm D.i2z)).trans ((sb₂.2 z (Ne.symm D.i1z)).trans hz₁))
  · exact h1b.keep (fun o e => old4 i1 o ((sb₃.2 i1 D.i12).trans e)) (fun o e => old4 l1 o ((sb₃.2 l1 D.l1i2).trans e))
  · exact h2b.keep (fun o e => old4 i2 o e) (fun o e => old4 l2 o e)
  · show (h₃.push { cls := Value.type "tuple", data := Data.seq #[x, y] }).get? s.heap.objs.size = _
    rw [← sz]
    exact Heap.get?_push_size _ rfl
  · rw [Heap.size_push, sz]
theorem zn_end {prog : Program} {w : World} {A : Around} {E : Value → Shared → Prop} {s : Shared} {z TI TO i1 i2 l1 l2 a : Addr} {ob : Bool} {k1 : Nat} {xs : Array Value} {o : Obj} {Q : PySem.Fin → Shared → Prop} (hh : A.handled = none) (D : ZipApart z TI TO i1 i2 l1 l2) (hz : IsZip2 s.heap z TI TO a ob) (ha : s.heap.get? a = some o) (hTI : IsPair s.heap TI (Value.ref i1) (Value.ref i2))
    (h1 : Wlk s.heap i1 l1 k1 xs) (hx : xs[k1]? = none)
    (hE : ∀ (h' : Heap) (e : Addr), (∀ c o, c ≠ z → c ≠ i1 → s.heap.get? c = some o → h'.get? c = some o) → (∃ o, h'.get? e = some o ∧ o.cls = Value.type "StopIteration") → E (Value.ref e) { s with heap := h' }) :
    wpAny (model prog w) A (Builtin.«zip.__next__» { pos := [Value.ref z] }) Q E s := by
  show wpAny _ _ (field (Value.ref z) 2 >>= _) _ _ _
  refine wpAny_bind (wpAny_field hz rfl rfl ?_)
  show wpAny _ _ (field (Value.ref z) 3 >>= _) _ _ _
  refine wpAny_bind (wpAny_field hz rfl rfl ?_)
  refine wpAny_bind (wpAny_seqItems hTI rfl ?_)
  show wpAny _ _ (Builtin.SmallTypes.ownedTupleIsFree (Value.ref z) >>= _) _ _ _
  refine wpAny_bind (free_not hz ha fun h₁ hz₁ hs₁ => ?_)
  refine wpAny_ite_false rfl ?_
  have old1 : ∀ c o, c ≠ z → s.heap.get? c = some o → h₁.get? c = some o := fun c o hc e => (hs₁.2 c hc).trans e
  have h1a := h1.keep (h' := h₁) (fun o e => old1 i1 o D.i1z e) (fun o e => old1 l1 o D.l1z e)
  show wpAny _ _ (forIn #[Value.ref i1, Value.ref i2] (none, #[]) _ >>= _) _ _ _
  refine wpAny_bind ?_
  rw [← Array.forIn_toList]
  show wpAny _ _ (forIn [Value.ref i1, Value.ref i2] (none, #[]) _) _ _ _
  rw [List.forIn_cons]
  refine wpAny_bind ?_
  show wpAny _ _ (holding [] (Builtin.SmallTypes.nextOf (Value.ref i1) >>= fun v => pure (some v)) >>= _) _ _ _
  refine wpAny_bind (wpAny_holding (wpAny_bind (Wlk.last (s := { s with heap := h₁ }) hh h1a hx fun h₂ e ext he => ?_)))
  exact hE h₂ e (fun c o c1 c2 g => ext c o c2 (old1 c o c1 g)) he
end L2
namespace L2
open PySem PySem.Spec PyProof.Rows
theorem zn_first {prog : Program} {w : World} {A : Around} {E : Value → Shared → Prop} {s : Shared} {z TI TO i1 i2 l1 l2 : Addr} {k1 k2 : Nat} {xs ys : Array Value} {x y a b : Value} {Q : Value → Shared → Prop} (D : ZipApart z TI TO i1 i2 l1 l2) (hz : IsZip s.heap z TI TO Value.none) (hTI : IsPair s.heap TI (Value.ref i1) (Value.ref i2)) (hTO : IsPair s.heap TO a b)
    (h1 : Wlk s.heap i1 l1 k1 xs) (h2 : Wlk s.heap i2 l2 k2 ys) (hx : xs[k1]? = some x) (hy : ys[k2]? = some y)
    (hQ : ∀ h' : Heap, IsZip2 h' z TI TO s.heap.objs.size false → Wlk h' i1 l1 (k1 + 1) xs → Wlk h' i2 l2 (k2 + 1) ys → IsPair h' s.heap.objs.size x y → h'.objs.size = s.heap.objs.size + 1 → (∀ c o, c ≠ z → c ≠ TO → c ≠ i1 → c ≠ i2 → s.heap.get? c = some o → h'.get? c = some o) → Q (Value.ref s.heap.objs.size) { s with heap := h' }) :
    wpAny (model prog w) A (Builtin.«zip.__next__» { pos := [Value.ref z] }) (fun fin s' => ∃ v, fin = Fin.done (Flow.ret v) ∧ Q v s') E s := by
  show wpAny _ _ (field (Value.ref z) 2 >>= _) _ _ _
  refine wpAny_bind (wpAny_field hz rfl rfl ?_)
  show wpAny _ _ (field (Value.ref z) 3 >>= _) _ _ _
  refine wpAny_bind (wpAny_field hz rfl rfl ?_)
  refine wpAny_bind (wpAny_seqItems hTI rfl ?_)
  show wpAny _ _ (Builtin.SmallTypes.ownedTupleIsFree (Value.ref z) >>= _) _ _ _
  refine wpAny_bind ?_
  show wpAny _ _ (field (Value.ref z) 0 >>= _) _ _ _
  refine wpAny_bind (wpAny_field hz rfl rfl (wpAny_pure ?_))
  show wpAny _ _ (rule _ >>= _) _ _ _
  refine wpAny_bind (wpAny_rule (wpAny_bind (wpAny_field hz rfl rfl ?_)))
  show wpAny _ _ (setField (Value.ref z) 0 Value.ellipsis >>= _) _ _ _
  refine wpAny_bind (wpAny_setField_rec hz (Nat.lt_of_sub_pos (Nat.zero_lt_succ 4)) fun h₁ hz₁ hs₁ => ?_)
  have old1 : ∀ c o, c ≠ z → s.heap.get? c = some o → h₁.get? c = some o := fun c o hc e => (hs₁.2 c hc).trans e
  have h1a := h1.keep (h' := h₁) (fun o e => old1 i1 o D.i1z e) (fun o e => old1 l1 o D.l1z e)
  refine wpAny_bind ?_
  show wpAny _ _ (forIn [(Value.ref i1, 0), (Value.ref i2, 1)] (none, ()) _) _ _ _
  rw [List.forIn_cons]
  refine wpAny_bind ?_
  show wpAny _ _ ((Sem.onRaise (Builtin.SmallTypes.nextOf (Value.ref i1) >>= fun v => pure (some v)) (fun _ => setField (Value.ref z) 0 Value.none)) >>= _) _ _ _
  refine wpAny_bind (wpAny_onRaise (wpAny_bind (h1a.item (s := { s with heap := h₁ }) D.l1i1 hx fun h₂ h1b sb₂ => wpAny_pure ?_)))
  have old2 : ∀ c o, c ≠ z → c ≠ i1 → s.heap.get? c = some o → h₂.get? c = some o := fun c o hc hc1 e => (sb₂.2 c hc1).trans (old1 c o hc e)
  have hTO2 : IsPair h₂ TO a b := old2 TO _ D.TOz D.TOi1 hTO
  show wpAny _ _ (seqItems? (Value.ref TO) >>= _) _ _ _
  refine wpAny_bind (wpAny_seqItems (s := { s with heap := h₂ }) hTO2 rfl ?_)
  show wpAny _ _ (updateSeq TO _ >>= _) _ _ _
  refine wpAny_bind (wpAny_updateSeq_pair (s := { s with heap := h₂ }) hTO2 fun h₃ g₃ sb₃ => ?_)
  refine wpAny_bind (wpAny_letGo (wpAny_pure ?_))
  show wpAny _ _ (forIn [(Value.ref i2, 1)] (none, ()) _) _ _ _
  rw [List.forIn_cons]
  refine wpAny_bind ?_
  have old3 : ∀ c o, c ≠ z → c ≠ i1 → c ≠ TO → s.heap.get? c = some o → h₃.get? c = some o := fun c o hc hc1 hc2 e => (sb₃.2 c hc2).trans (old2 c o hc hc1 e)
  have h2c := h2.keep (h' := h₃) (fun o e => old3 i2 o D.i2z (Ne.symm D.i12) (Ne.symm D.TOi2) e) (fun o e => old3 l2 o D.l2z D.l2i1 D.l2TO e)
  have g₃' : IsPair h₃ TO x b := g₃
  show wpAny _ _ ((Sem.onRaise (Builtin.SmallTypes.nextOf (Value.ref i2) >>= fun v => pure (some v)) (fun _ => setField (Value.ref z) 0 Value.none)) >>= _) _ _ _
  refine wpAny_bind (wpAny_onRaise (wpAny_bind (h2c.item (s := { s with heap := h₃ }) D.l2i2 hy fun h₄ h2d sb₄ => wpAny_pure ?_)))
  have hTO4 : IsPair h₄ TO x b := (sb₄.2 TO D.TOi2).trans g₃'
  show wpAny _ _ (seqItems? (Value.ref TO) >>= _) _ _ _
  refine wpAny_bind (wpAny_seqItems (s := { s with heap := h₄ }) hTO4 rfl ?_)
  show wpAny _ _ (updateSeq TO _ >>= _) _ _ _
  refine wpAny_bind (wpAny_updateSeq_pair (s := { s with heap := h₄ }) hTO4 fun h₅ g₅ sb₅ => ?_)
  refine wpAny_bind (wpAny_letGo (wpAny_pure ?_))
  have g₅' : IsPair h₅ TO x y := g₅
  show wpAny _ _ (forIn [] (none, ()) _) _ _ _
  rw [List.forIn_nil]
  refine wpAny_pure ?_
  show wpAny _ _ (seqItems? (Value.ref TO) >>= _) _ _ _
  refine wpAny_bind (wpAny_seqItems (s := { s with heap := h₅ }) g₅' rfl ?_)
  show wpAny _ _ (newTuple [x, y] >>= _) _ _ _
  refine wpAny_bind (wpAny_newTuple ?_ (by show 2 ≤ sizeLine; decide))
  have sz : h₅.objs.size = s.heap.objs.size := by
    rw [sb₅.1, sb₄.1, sb₃.1, sb₂.1, hs₁.1]
  have z5 : h₅.get? z = _ := (sb₅.2 z (Ne.symm D.TOz)).trans ((sb₄.2 z (Ne.symm D.i2z)).trans ((sb₃.2 z (Ne.symm D.TOz)).trans ((sb₂.2 z (Ne.symm D.i1z)).trans hz₁)))
  have z6 : (h₅.push { cls := Value.type "tuple", data := Data.seq #[x, y] }).get? z = _ := Heap.get?_push_of_some _ z5
  refine wpAny_bind ?_
  show wpAny _ _ (setField (Value.ref z) 0 (rawInt h₅.objs.size) >>= fun _ => setField (Value.ref z) 1 (Value.bool false)) _ _ _
  refine wpAny_bind (wpAny_setField_rec (s := { s with heap := h₅.push { cls := Value.type "tuple", data := Data.seq #[x, y] } }) z6 (Nat.lt_of_sub_pos (Nat.zero_lt_succ 4)) fun h₇ hz₇ hs₇ => ?_)
  refine wpAny_setField_rec (s := { s with heap := h₇ }) hz₇ (Nat.lt_of_sub_pos (Nat.zero_lt_succ 3)) fun h₈ hz₈ hs₈ => ?_
  have nzs : s.heap.objs.size ≠ z := fun q => by
    have := Heap.lt_size hz
    rw [← q] at this
    exact Nat.lt_irrefl _ this
  have old6 : ∀ c o, h₅.get? c = some o → (h₅.push { cls := Value.type "tuple", data := Data.seq #[x, y] }).get? c = some o := fun c o e => Heap.get?_push_of_some _ e
  have old8 : ∀ c o, c ≠ z → h₅.get? c = some o → h₈.get? c = some o := fun c o hc e => (hs₈.2 c hc).trans ((hs₇.2 c hc).trans (old6 c o e))
  have new8 : h₈.get? s.heap.objs.size = some { cls := Value.type "tuple", data := Data.seq #[x, y] } := by
    refine (hs₈.2 _ nzs).trans ((hs₇.2 _ nzs).trans ?_)
    show (h₅.push { cls := Value.type "tuple", data := Data.seq #[x, y] }).get? s.heap.objs.size = _
    rw [← sz]
    exact Heap.get?_push_size _ rfl
  refine wpAny_pure ⟨_, rfl, ?_⟩
  rw [show (({ s with heap := h₅ } : Shared).heap.objs.size) = s.heap.objs.size from sz]
  refine hQ h₈ ?_ ?_ ?_ new8 ?_ ?_
  · rw [sz] at hz₈
    exact hz₈
  · exact h1b.keep (fun o e => old8 i1 o D.i1z ((sb₅.2 i1 (Ne.symm D.TOi1)).trans ((sb₄.2 i1 D.i12).trans ((sb₃.2 i1 (Ne.symm D.TOi1)).trans e)))) (fun o e => old8 l1 o D.l1z ((sb₅.2 l1 D.l1TO).trans ((sb₄.2 l1 D.l1i2).trans ((sb₃.2 l1 D.l1TO).trans e))))
  · exact h2d.keep (fun o e => old8 i2 o D.i2z ((sb₅.2 i2 (Ne.symm D.TOi2)).trans e)) (fun o e => old8 l2 o D.l2z ((sb₅.2 l2 D.l2TO).trans e))
  · rw [hs₈.1, hs₇.1]
    show (h₅.push { cls := Value.type "tuple", data := Data.seq #[x, y] }).objs.size = _
    rw [Heap.size_push, sz]
  · intro c o hc1 hc2 hc3 hc4 e
    exact old8 c o hc1 ((sb₅.2 c hc2).trans ((sb₄.2 c hc4).trans (old3 c o hc1 hc3 hc2 e)))
theorem pn_first {prog : Program} {w : World} {A : Around} {E : Value → Shared → Prop} {s : Shared} {z TI TO i1 i2 l1 l2 : Addr} {k1 k2 : Nat} {xs ys : Array Value} {x y a b : Value} {Q : Option Value → Shared → Prop} (D : ZipApart z TI TO i1 i2 l1 l2) (hz : IsZip s.heap z TI TO Value.none) (hTI : IsPair s.heap TI (Value.ref i1) (Value.ref i2)) (hTO : IsPair s.heap TO a b)
    (h1 : Wlk s.heap i1 l1 k1 xs) (h2 : Wlk s.heap i2 l2 k2 ys) (hx : xs[k1]? = some x) (hy : ys[k2]? = some y)
    (hQ : ∀ h' : Heap, IsZip2 h' z TI TO s.heap.objs.size false → Wlk h' i1 l1 (k1 + 1) xs → Wlk h' i2 l2 (k2 + 1) ys → IsPair h' s.heap.objs.size x y → h'.objs.size = s.heap.objs.size + 1 → (∀ c o, c ≠ z → c ≠ TO → c ≠ i1 → c ≠ i2 → s.heap.get? c = some o → h'.get? c = some o) → Q (some (Value.ref s.heap.objs.size)) { s with heap := h' }) :
    wpAny (model prog w) A (pyNext (Value.ref z)) Q E s := by
  have hT : ∃ o, s.heap.get? z = some o ∧ o.cls = Value.type "zip" := ⟨_, hz, rfl⟩
  exact wpAny_bind (wpAny_attempt (wpAny_callSpecial?_slot hT F.slot_zip_next (wpAny_call_entry F.slot_zip_next hT F.entry_zip_next
    (zn_first D hz hTI hTO h1 h2 hx hy fun h' a1 a2 a3 a4 a5 a6 => wpAny_pure (hQ h' a1 a2 a3 a4 a5 a6)) (F.args_zip_next_1 (Value.ref z)))))
theorem pn_more {prog : Program} {w : World} {A : Around} {E : Value → Shared → Prop} {s : Shared} {z TI TO i1 i2 l1 l2 a : Addr} {ob : Bool} {k1 k2 : Nat} {xs ys : Array Value} {x y : Value} {o : Obj} {Q : Option Value → Shared → Prop} (D : ZipApart z TI TO i1 i2 l1 l2) (hz : IsZip2 s.heap z TI TO a ob) (ha : s.heap.get? a = some o) (hTI : IsPair s.heap TI (Value.ref i1) (Value.ref i2))
    (h1 : Wlk s.heap i1 l1 k1 xs) (h2 : Wlk s.heap i2 l2 k2 ys) (hx : xs[k1]? = some x) (hy : ys[k2]? = some y)
    (hQ : ∀ h' : Heap, IsZip2 h' z TI TO a true → Wlk h' i1 l1 (k1 + 1) xs → Wlk h' i2 l2 (k2 + 1) ys → IsPair h' s.heap.objs.size x y → h'.objs.size = s.heap.objs.size + 1 → (∀ c o, c ≠ z → c ≠ i1 → c ≠ i2 → s.heap.get? c = some o → h'.get? c = some o) → Q (some (Value.ref s.heap.objs.size)) { s with heap := h' }) :
    wpAny (model prog w) A (pyNext (Value.ref z)) Q E s := by
  have hT : ∃ o, s.heap.get? z = some o ∧ o.cls = Value.type "zip" := ⟨_, hz, rfl⟩
  exact wpAny_bind (wpAny_attempt (wpAny_callSpecial?_slot hT F.slot_zip_next (wpAny_call_entry F.slot_zip_next hT F.entry_zip_next
    (zn_more D hz ha hTI h1 h2 hx hy fun h' a1 a2 a3 a4 a5 a6 => wpAny_pure (hQ h' a1 a2 a3 a4 a5 a6)) (F.args_zip_next_1 (Value.ref z)))))
theorem pn_end {prog : Program} {w : World} {A : Around} {E : Value → Shared → Prop} {s : Shared} {z TI TO i1 i2 l1 l2 a : Addr} {ob : Bool} {k1 : Nat} {xs : Array Value} {o : Obj} {Q : Option Value → Shared → Prop} (hh : A.handled = none) (D : ZipApart z TI TO i1 i2 l1 l2) (hz : IsZip2 s.heap z TI TO a ob) (ha : s.heap.get? a = some o) (hTI : IsPair s.heap TI (Value.ref i1) (Value.ref i2))
    (h1 : Wlk s.heap i1 l1 k1 xs) (hx : xs[k1]? = none)
    (hQ : ∀ h' : Heap, (∀ c o, c ≠ z → c ≠ i1 → s.heap.get? c = some o → h'.get? c = some o) → Q none { s with heap := h' }) : wpAny (model prog w) A (pyNext (Value.ref z)) Q E s := by
  have hT : ∃ o, s.heap.get? z = some o ∧ o.cls = Value.type "zip" := ⟨_, hz, rfl⟩
  exact wpAny_bind (wpAny_attempt (wpAny_callSpecial?_slot hT F.slot_zip_next (wpAny_call_entry F.slot_zip_next hT F.entry_zip_next
    (zn_end hh D hz ha hTI h1 hx fun h' e hk he => by
      obtain ⟨o, ho, hc⟩ := he
      exact wpAny_bind (wpAny_isInstance ⟨o, ho, hc⟩ isSubtype_stop (wpAny_pure (hQ h' hk)))) (F.args_zip_next_1 (Value.ref z)))))
end L2
namespace L2
open PySem PySem.Spec PyProof.Rows
theorem entry_upd_loop : entryFor table "dict.update.loop" = some Builtin.«dict.update.loop» := entryFor_of_tree (by rfl)
theorem stored_le {K : Type} [DecidableEq K] (kvs : List (K × Value)) (k : K) (v : Value) : (stored kvs k v).length ≤ kvs.length + 1 := by
  unfold stored
  split
  · rw [List.length_map]; omega
  · rw [List.length_append]; simp
theorem pair_in {prog : Program} {w : World} {A : Around} {E : Value → Shared → Prop} {s : Shared} {d p : Addr} {kvs : List (Key × Value)} {k : Key} {u v : Value} {hd : Value → Sem (List Value)} {el : List Value → Sem Unit} {Q : Unit → Shared → Prop} (hp : IsPair s.heap p u v) (hk : (mixKind prog w).is k u = true) (hd' : s.heap.DictOf (mixKind prog w) d kvs) (hz : kvs.length ≤ sizeLine)
    (hQ : ∀ h', h'.DictOf (mixKind prog w) d (stored kvs k v) → Heap.SameBut d s.heap h' → Q () { s with heap := h', toks := s.toks + 1 }) :
    wpAny (model prog w) A (holding [Value.ref p] (do
      let pair ← (Builtin.Dict.pairItems (Value.ref p)).tryCatch hd
      match pair with
        | [k, v] => holding [k, v] (dictSet d k v)
        | l => el l)) Q E s := by
  refine wpAny_holding (wpAny_bind ?_)
  refine wpAny_tryCatch ?_
  unfold Builtin.Dict.pairItems
  refine wpAny_bind (wpAny_typeOf (T := "tuple") ⟨_, hp, rfl⟩ (wpAny_ite_true rfl ?_))
  refine wpAny_bind (wpAny_seqItems hp rfl (wpAny_pure ?_))
  show wpAny _ _ (holding [u, v] (dictSet d u v)) _ _ _
  exact wpAny_holding (wpAny_dictSet_pairs hk hd' hQ hz)
structure Side (prog : Program) (w : World) (rs : List (Key × Value)) (xs ys : Array Value) : Prop where
  at_ : ∀ (j : Nat) kv, rs[j]? = some kv → ∃ u, xs[j]? = some u ∧ (mixKind prog w).is kv.1 u = true ∧ ys[j]? = some kv.2
  end_ : xs[rs.length]? = none
theorem upd_more {prog : Program} {w : World} {A : Around} {R : Result → Shared → Prop} {z TI TO i1 i2 l1 l2 a d : Addr} {rs : List (Key × Value)} {xs ys : Array Value} (hh : A.handled = none) (D : ZipApart z TI TO i1 i2 l1 l2) (S : Side prog w rs xs ys) (dz : d ≠ z) (dTI : d ≠ TI) (d1 : d ≠ i1) (d2 : d ≠ i2) (dl1 : d ≠ l1) (dl2 : d ≠ l2) :
    ∀ (m i : Nat) (s : Shared) (ob : Bool) (kvs : List (Key × Value)), rs.length - i = m → i ≤ rs.length → IsZip2 s.heap z TI TO a ob → (∃ o, s.heap.get? a = some o) → a ≠ z → a ≠ i1 → a ≠ i2 → a ≠ d → IsPair s.heap TI (Value.ref i1) (Value.ref i2) → Wlk s.heap i1 l1 i xs → Wlk s.heap i2 l2 i ys → s.heap.DictOf (mixKind prog w) d kvs → kvs.length + m ≤ sizeLine →
      (∀ (h' : Heap) (t' : Nat), h'.DictOf (mixKind prog w) d (merged kvs (rs.drop i)) → (∀ c o, c ≠ z → c ≠ i1 → c ≠ i2 → c ≠ d → s.heap.get? c = some o → h'.get? c = some o) → R (.ok (.ret .none)) { s with heap := h', toks := t' }) →
      codeAny (model prog w) A (Code.builtin "dict.update.loop" { pos := [Value.ref d, Value.ref z, rawInt i, Value.none] }) R s
  | 0, i, s, ob, kvs, hm, hi, hz, ⟨oa, ha⟩, az, a1, a2, ad, hTI, h1, h2, hd, hl, hR => by
    have hi' : i = rs.length := by omega
    subst hi'
    refine codeAny_builtin entry_upd_loop ?_
    show wpAny _ _ (pyNext (Value.ref z) >>= _) _ _ _
    refine wpAny_bind (pn_end (A := A.under _) hh D hz ha hTI h1 S.end_ fun h' hk => ?_)
    show wpAny _ _ (Builtin.Dict.addKeywords d [] >>= _) _ _ _
    refine wpAny_bind ?_
    show wpAny _ _ (pure ()) _ _ _
    refine wpAny_pure (wpAny_pure ?_)
    refine hR h' s.toks ?_ fun c o c1 c2 c3 c4 e => hk c o c1 c2 e
    rw [List.drop_length]
    obtain ⟨o, es, ep, e, r⟩ := hd
    exact ⟨o, es, ep, hk d o dz d1 e, r⟩
  | m + 1, i, s, ob, kvs, hm, hi, hz, ⟨oa, ha⟩, az, a1, a2, ad, hTI, h1, h2, hd, hl, hR => by
    have hlt : i < rs.length := by omega
    have hrs : rs[i]? = some rs[i] := List.getElem?_eq_getElem hlt
    obtain ⟨u, hx, hk, hy⟩ := S.at_ i _ hrs
    refine codeAny_builtin entry_upd_loop ?_
    show wpAny _ _ (pyNext (Value.ref z) >>= _) _ _ _
    refine wpAny_bind (pn_more D hz ha hTI h1 h2 hx hy fun h' z1 w1 w2 pr sz old => ?_)
    have hd' : h'.DictOf (mixKind prog w) d kvs := by
      obtain ⟨o, es, ep, e, r⟩ := hd
      exact ⟨o, es, ep, old d o dz d1 d2 e, r⟩
    refine wpAny_bind (pair_in (s := { s with heap := h' }) pr hk hd' (by omega) fun h'' hd'' sb => ?_)
    refine wpAny_pure ⟨Code.quiet_builtin _ (by decide +kernel), ?_⟩
    show codeAny _ _ (Code.builtin "dict.update.loop" { pos := [Value.ref d, Value.ref z, rawInt ((i : Int) + 1), Value.none] }) _ _
    rw [show ((i : Int) + 1) = ((i + 1 : Nat) : Int) by omega]
    have old2 : ∀ c o, c ≠ z → c ≠ i1 → c ≠ i2 → c ≠ d → s.heap.get? c = some o → h''.get? c = some o := fun c o c1 c2 c3 c4 e => (sb.2 c c4).trans (old c o c1 c2 c3 e)
    refine upd_more hh D S dz dTI d1 d2 dl1 dl2 m (i + 1) _ true (stored kvs rs[i].1 rs[i].2) (by omega) (by omega) ((sb.2 z (Ne.symm dz)).trans z1) ⟨oa, old2 a oa az a1 a2 ad ha⟩ az a1 a2 ad (old2 TI _ D.TIz D.TIi1 D.TIi2 (Ne.symm dTI) hTI) (w1.keep (fun o e => (sb.2 i1 (Ne.symm d1)).trans e) (fun o e => (sb.2 l1 (Ne.symm dl1)).trans e)) (w2.keep (fun o e => (sb.2 i2 (Ne.symm d2)).trans e) (fun o e => (sb.2 l2 (Ne.symm dl2)).trans e)) hd'' (by have := stored_le kvs rs[i].1 rs[i].2; omega) fun h3 t3 hd3 old3 => ?_
    refine hR h3 t3 ?_ fun c o c1 c2 c3 c4 e => old3 c o c1 c2 c3 c4 (old2 c o c1 c2 c3 c4 e)
    rw [List.drop_eq_getElem_cons hlt]
    exact hd3
theorem upd_all {prog : Program} {w : World} {A : Around} {R : Result → Shared → Prop} {z TI TO i1 i2 l1 l2 d : Addr} {rs : List (Key × Value)} {xs ys : Array Value} {b1 b2 : Value} {s : Shared} (hh : A.handled = none) (D : ZipApart z TI TO i1 i2 l1 l2) (S : Side prog w rs xs ys) (dz : d ≠ z) (dTI : d ≠ TI) (dTO : d ≠ TO) (d1 : d ≠ i1) (d2 : d ≠ i2) (dl1 : d ≠ l1) (dl2 : d ≠ l2) (hn : 0 < rs.length) (hl : rs.length ≤ sizeLine)
    (hz : IsZip s.heap z TI TO Value.none) (hTI : IsPair s.heap TI (Value.ref i1) (Value.ref i2)) (hTO : IsPair s.heap TO b1 b2) (h1 : Wlk s.heap i1 l1 0 xs) (h2 : Wlk s.heap i2 l2 0 ys) (hd : s.heap.DictOf (mixKind prog w) d [])
    (hR : ∀ (h' : Heap) (t' : Nat), h'.DictOf (mixKind prog w) d (merged [] rs) → (∀ c o, c ≠ z → c ≠ TO → c ≠ i1 → c ≠ i2 → c ≠ d → s.heap.get? c = some o → h'.get? c = some o) → R (.ok (.ret .none)) { s with heap := h', toks := t' }) :
    codeAny (model prog w) A (Code.builtin "dict.update.loop" { pos := [Value.ref d, Value.ref z, rawInt 0, Value.none] }) R s := by
  have hrs : rs[0]? = some rs[0] := List.getElem?_eq_getElem hn
  obtain ⟨u, hx, hk, hy⟩ := S.at_ 0 _ hrs
  have fr : ∀ {c : Addr} {o : Obj}, s.heap.get? c = some o → s.heap.objs.size ≠ c := fun {c o} e q => by
    have := Heap.lt_size e
    rw [← q] at this
    exact Nat.lt_irrefl _ this
  have g1 : ∃ o, s.heap.get? i1 = some o := by rcases h1 with ⟨⟨o, e, _⟩, _⟩ | ⟨⟨o, e, _⟩, _⟩ <;> exact ⟨o, e⟩
  have g2 : ∃ o, s.heap.get? i2 = some o := by rcases h2 with ⟨⟨o, e, _⟩, _⟩ | ⟨⟨o, e, _⟩, _⟩ <;> exact ⟨o, e⟩
  obtain ⟨o1, e1⟩ := g1
  obtain ⟨o2, e2⟩ := g2
  have gd : ∃ o, s.heap.get? d = some o := by obtain ⟨o, _, _, e, _⟩ := hd; exact ⟨o, e⟩
  obtain ⟨od, ed⟩ := gd
  refine codeAny_builtin entry_upd_loop ?_
  show wpAny _ _ (pyNext (Value.ref z) >>= _) _ _ _
  refine wpAny_bind (pn_first D hz hTI hTO h1 h2 hx hy fun h' z1 w1 w2 pr sz old => ?_)
  have hd' : h'.DictOf (mixKind prog w) d [] := by
    obtain ⟨o, es, ep, e, r⟩ := hd
    exact ⟨o, es, ep, old d o dz dTO d1 d2 e, r⟩
  refine wpAny_bind (pair_in (s := { s with heap := h' }) pr hk hd' (Nat.zero_le _) fun h'' hd'' sb => ?_)
  refine wpAny_pure ⟨Code.quiet_builtin _ (by decide +kernel), ?_⟩
  show codeAny _ _ (Code.builtin "dict.update.loop" { pos := [Value.ref d, Value.ref z, rawInt ((1 : Nat) : Int), Value.none] }) _ _
  have old2 : ∀ c o, c ≠ z → c ≠ TO → c ≠ i1 → c ≠ i2 → c ≠ d → s.heap.get? c = some o → h''.get? c = some o := fun c o c1 c5 c2 c3 c4 e => (sb.2 c c4).trans (old c o c1 c5 c2 c3 e)
  refine upd_more (a := s.heap.objs.size) hh D S dz dTI d1 d2 dl1 dl2 (rs.length - 1) 1 _ false (stored [] rs[0].1 rs[0].2) rfl hn ((sb.2 z (Ne.symm dz)).trans z1) ⟨_, (sb.2 _ (fr ed)).trans pr⟩ (fr hz) (fr e1) (fr e2) (fr ed) (old2 TI _ D.TIz D.TITO D.TIi1 D.TIi2 (Ne.symm dTI) hTI) (w1.keep (fun o e => (sb.2 i1 (Ne.symm d1)).trans e) (fun o e => (sb.2 l1 (Ne.symm dl1)).trans e)) (w2.keep (fun o e => (sb.2 i2 (Ne.symm d2)).trans e) (fun o e => (sb.2 l2 (Ne.symm dl2)).trans e)) hd'' (by have := stored_le [] rs[0].1 rs[0].2; simp only [List.length_nil] at this; omega) fun h3 t3 hd3 old3 => ?_
  refine hR h3 t3 ?_ fun c o c1 c5 c2 c3 c4 e => old3 c o c1 c2 c3 c4 (old2 c o c1 c5 c2 c3 c4 e)
  have hm : merged [] rs = merged (stored [] rs[0].1 rs[0].2) (rs.drop 1) := by
    have := List.drop_eq_getElem_cons hn
    rw [List.drop_zero] at this
    conv => lhs; rw [this]
    rfl
  rw [hm]
  exact hd3
theorem call_dict_zip {prog : Program} {w : World} {A : Around} {E : Value → Shared → Prop} {s : Shared} {z TI TO i1 i2 l1 l2 : Addr} {rs : List (Key × Value)} {xs ys : Array Value} {b1 b2 : Value} {Q : Value → Shared → Prop} (hh : A.handled = none) (D : ZipApart z TI TO i1 i2 l1 l2) (S : Side prog w rs xs ys) (hn : 0 < rs.length) (hl : rs.length ≤ sizeLine) (hb : sysModules < s.heap.objs.size)
    (hz : IsZip s.heap z TI TO Value.none) (hTI : IsPair s.heap TI (Value.ref i1) (Value.ref i2)) (hTO : IsPair s.heap TO b1 b2) (h1 : Wlk s.heap i1 l1 0 xs) (h2 : Wlk s.heap i2 l2 0 ys)
    (hQ : ∀ (h' : Heap) (t' : Nat), h'.DictOf (mixKind prog w) s.heap.objs.size (merged [] rs) → (∀ c o, c ≠ z → c ≠ TO → c ≠ i1 → c ≠ i2 → s.heap.get? c = some o → h'.get? c = some o) → Q (.ref s.heap.objs.size) { s with heap := h', toks := t' }) :
    wpAny (model prog w) A (call (Value.type "dict") [Value.ref z]) Q E s := by
  have fr : ∀ {c : Addr} {o : Obj}, s.heap.get? c = some o → s.heap.objs.size ≠ c := fun {c o} e q => by
    have := Heap.lt_size e
    rw [← q] at this
    exact Nat.lt_irrefl _ this
  have g1 : ∃ o, s.heap.get? i1 = some o := by rcases h1 with ⟨⟨o, e, _⟩, _⟩ | ⟨⟨o, e, _⟩, _⟩ <;> exact ⟨o, e⟩
  have g2 : ∃ o, s.heap.get? i2 = some o := by rcases h2 with ⟨⟨o, e, _⟩, _⟩ | ⟨⟨o, e, _⟩, _⟩ <;> exact ⟨o, e⟩
  have k1 : ∃ o, s.heap.get? l1 = some o := by rcases h1 with ⟨_, ⟨o, e, _⟩⟩ | ⟨_, ⟨o, e, _⟩⟩ <;> exact ⟨o, e⟩
  have k2 : ∃ o, s.heap.get? l2 = some o := by rcases h2 with ⟨_, ⟨o, e, _⟩⟩ | ⟨_, ⟨o, e, _⟩⟩ <;> exact ⟨o, e⟩
  obtain ⟨o1, e1⟩ := g1
  obtain ⟨o2, e2⟩ := g2
  obtain ⟨q1, f1⟩ := k1
  obtain ⟨q2, f2⟩ := k2
  refine callType_codes F.kt_called_dict (F.kt_typeCall_dict_1 _) F.entry_dict_init (kt_code_dict_new _ (Q₁ := fun obj s₁ => obj = Value.ref s.heap.objs.size ∧ s₁ = { s with heap := s.heap.push { cls := Value.type "dict", data := Data.dict #[] } }) ⟨rfl, rfl⟩) fun obj s₁ q => ?_
  obtain ⟨rfl, rfl⟩ := q
  have gd : (s.heap.push { cls := Value.type "dict", data := Data.dict #[] }).get? s.heap.objs.size = some { cls := Value.type "dict", data := Data.dict #[] } := Heap.get?_push_size _ rfl
  have up : ∀ c o, s.heap.get? c = some o → (s.heap.push { cls := Value.type "dict", data := Data.dict #[] }).get? c = some o := fun c o e => Heap.get?_push_of_some _ e
  refine ⟨⟨_, gd, rfl⟩, F.args_dict_init_2 _ _, ?_⟩
  unfold Builtin.«dict.__init__» Builtin.Dict.selfAndRest Builtin.Dict.notOrdered
  refine wpAny_bind (wpAny_bind (wpAny_ite_true (by decide +kernel) ?_))
  refine wpAny_bind (wpAny_typeOf (T := "dict") ⟨_, gd, rfl⟩ (wpAny_ite_false rfl (wpAny_pure ?_)))
  show wpAny _ _ (Builtin.Dict.addrOf (Value.ref s.heap.objs.size) >>= _) _ _ _
  refine wpAny_bind ?_
  show wpAny _ _ (pure s.heap.objs.size) _ _ _
  refine wpAny_pure (wpAny_pure ?_)
  show wpAny _ _ (Builtin.Dict.updateFrom "dict.__init__" s.heap.objs.size (Value.ref z) [] Value.none) _ _ _
  unfold Builtin.Dict.updateFrom
  refine wpAny_bind (wpAny_typeOf (T := "zip") ⟨_, up z _ hz, rfl⟩ (wpAny_ite_true rfl ?_))
  refine wpAny_bind (zip_keys_none (A := A.in1.in1) hh (up z _ hz) fun h' tk kp => ?_)
  refine wpAny_ite_true rfl ?_
  refine wpAny_bind (wpAny_rule ?_)
  have up2 : ∀ c o, s.heap.get? c = some o → h'.get? c = some o := fun c o e => kp c o (up c o e)
  refine wpAny_bind (wpAny_pyIter_zip (up2 z _ hz) (wpAny_pure ⟨Code.quiet_builtin _ (by decide +kernel), ?_⟩))
  have hd0 : h'.DictOf (mixKind prog w) s.heap.objs.size [] := by
    obtain ⟨_, _, vs, kv, o, es, ep, e, r⟩ := dk_empty (P := prog) (w := w) (H := fun _ => none) s.heap hb
    cases kv
    exact ⟨o, es, ep, kp _ o e, r⟩
  refine upd_all (A := A.in1) hh D S (fr hz) (fr hTI) (fr hTO) (fr e1) (fr e2) (fr f1) (fr f2) hn hl (up2 z _ hz) (up2 TI _ hTI) (up2 TO _ hTO) (h1.keep (fun o e => up2 i1 o e) (fun o e => up2 l1 o e)) (h2.keep (fun o e => up2 i2 o e) (fun o e => up2 l2 o e)) hd0 fun h3 t3 d3 old3 => ?_
  exact ⟨rfl, hQ h3 t3 d3 fun c o c1 c2 c3 c4 e => old3 c o c1 c2 c3 c4 (Ne.symm (fr e)) (up2 c o e)⟩
end L2
namespace L2
open PySem PySem.Spec PyProof.Rows
def mz1 (h : Heap) (l1 : Addr) : Heap := h.push { cls := Value.type "list_iterator", data := Data.fields #[Value.ref l1, Value.int 0 0] }
def mz2 (h : Heap) (l1 l2 : Addr) : Heap := (mz1 h l1).push { cls := Value.type "tuple_iterator", data := Data.fields #[Value.ref l2, Value.int 0 0] }
def mz3 (h : Heap) (l1 l2 : Addr) : Heap := (mz2 h l1 l2).push { cls := Value.type "tuple", data := Data.seq #[Value.ref h.objs.size, Value.ref (mz1 h l1).objs.size] }
def mz4 (h : Heap) (l1 l2 : Addr) : Heap := (mz3 h l1 l2).push { cls := Value.type "tuple", data := Data.seq #[Value.none, Value.none] }
def mz5 (h : Heap) (l1 l2 : Addr) : Heap := (mz4 h l1 l2).push { cls := Value.type "zip", data := Data.fields #[Value.none, Value.bool false, Value.bool false, Value.ref (mz2 h l1 l2).objs.size, Value.ref (mz3 h l1 l2).objs.size] }
theorem zip_newM (l1 l2 : Addr) (xs ys : Array Value) : Meets (Builtin.«zip.__new__» { pos := [Value.type "zip", Value.ref l1, Value.ref l2] }) fun _ R s =>
    s.heap.IsList l1 xs ∧ s.heap.IsTuple l2 ys ∧ R (.ok (.ret (.ref (mz4 s.heap l1 l2).objs.size))) { s with heap := mz5 s.heap l1 l2 } := by
  refine Meets.of_wp fun prog w A R s h => ?_
  obtain ⟨ht1, ht2, hR⟩ := h
  unfold Builtin.«zip.__new__» Builtin.SmallTypes.newClass
  refine wpAny_bind (wpAny_bind (wpAny_pure (wpAny_ite_false rfl (wpAny_bind (wpAny_of_eq sub_zip (wpAny_ite_false rfl (wpAny_pure ?_)))))))
  show wpAny _ _ (Builtin.SmallTypes.iterAll [Value.ref l1, Value.ref l2] >>= _) _ _ _
  refine wpAny_bind ?_
  unfold Builtin.SmallTypes.iterAll
  refine wpAny_bind ?_
  rw [List.forIn_cons]
  refine wpAny_bind (wpAny_bind (wpAny_holding (wpAny_pyIter_list ht1 (wpAny_pure ?_))))
  show wpAny _ _ (forIn [Value.ref l2] #[Value.ref s.heap.objs.size] _) _ _ _
  rw [List.forIn_cons]
  have ht2' : (mz1 s.heap l1).IsTuple l2 ys := by
    obtain ⟨o, e, r⟩ := ht2
    exact ⟨o, Heap.get?_push_of_some _ e, r⟩
  refine wpAny_bind (wpAny_bind (wpAny_holding (wpAny_pyIter_tuple (s := { s with heap := mz1 s.heap l1 }) ht2' (wpAny_pure ?_))))
  show wpAny _ _ (forIn [] #[Value.ref s.heap.objs.size, Value.ref (mz1 s.heap l1).objs.size] _) _ _ _
  rw [List.forIn_nil]
  refine wpAny_pure (wpAny_pure ?_)
  show wpAny _ _ (newTuple [Value.ref s.heap.objs.size, Value.ref (mz1 s.heap l1).objs.size] >>= _) _ _ { s with heap := mz2 s.heap l1 l2 }
  refine wpAny_bind (wpAny_newTuple ?_ (by show 2 ≤ sizeLine; decide))
  show wpAny _ _ (newTuple [Value.none, Value.none] >>= _) _ _ { s with heap := mz3 s.heap l1 l2 }
  refine wpAny_bind (wpAny_newTuple ?_ (by show 2 ≤ sizeLine; decide))
  show wpAny _ _ (newObj (.type "zip") (.fields #[.none, .bool false, .bool false, .ref (mz2 s.heap l1 l2).objs.size, .ref (mz3 s.heap l1 l2).objs.size]) >>= fun r => ret r) _ _ { s with heap := mz4 s.heap l1 l2 }
  refine wpAny_bind (wpAny_newObj_type ?_)
  exact wpAny_pure ⟨_, rfl, hR⟩
theorem call_zip_2M {prog : Program} {w : World} {A : Around} {E : Value → Shared → Prop} {s : Shared} {l1 l2 : Addr} {xs ys : Array Value} {Q : Value → Shared → Prop} (hl1 : s.heap.IsList l1 xs) (hl2 : s.heap.IsTuple l2 ys)
    (h : ∀ h' : Heap, IsZip h' (s.heap.objs.size + 4) (s.heap.objs.size + 2) (s.heap.objs.size + 3) Value.none → IsPair h' (s.heap.objs.size + 2) (Value.ref s.heap.objs.size) (Value.ref (s.heap.objs.size + 1)) → IsPair h' (s.heap.objs.size + 3) Value.none Value.none → h'.IsListIter s.heap.objs.size l1 0 → h'.IsTupleIter (s.heap.objs.size + 1) l2 0 →
      h'.objs.size = s.heap.objs.size + 5 → (∀ c o, s.heap.get? c = some o → h'.get? c = some o) → Q (Value.ref (s.heap.objs.size + 4)) { s with heap := h' }) : wpAny (model prog w) A (call (Value.type "zip") [Value.ref l1, Value.ref l2]) Q E s := by
  refine callType_new F.called_zip (by decide) (F.typeCall_zip_2 _ _) (F.newCall_zip_2 _ _) (fun obj => F.args_object_init_3 obj _ _) F.entry_zip_new (zip_newM l1 l2 xs ys) ⟨hl1, hl2, ?_⟩
  have z1 : (mz1 s.heap l1).objs.size = s.heap.objs.size + 1 := Heap.size_push ..
  have z2 : (mz2 s.heap l1 l2).objs.size = s.heap.objs.size + 2 := (Heap.size_push ..).trans (by rw [z1])
  have z3 : (mz3 s.heap l1 l2).objs.size = s.heap.objs.size + 3 := (Heap.size_push ..).trans (by rw [z2])
  have z4 : (mz4 s.heap l1 l2).objs.size = s.heap.objs.size + 4 := (Heap.size_push ..).trans (by rw [z3])
  have z5 : (mz5 s.heap l1 l2).objs.size = s.heap.objs.size + 5 := (Heap.size_push ..).trans (by rw [z4])
  have g5 : (mz5 s.heap l1 l2).get? (mz4 s.heap l1 l2).objs.size = _ := Heap.get?_push_size _ rfl
  have g4 : (mz5 s.heap l1 l2).get? (mz3 s.heap l1 l2).objs.size = _ := Heap.get?_push_of_some _ (Heap.get?_push_size _ rfl)
  have g3 : (mz5 s.heap l1 l2).get? (mz2 s.heap l1 l2).objs.size = _ := Heap.get?_push_of_some _ (Heap.get?_push_of_some _ (Heap.get?_push_size _ rfl))
  have g2 : (mz5 s.heap l1 l2).get? (mz1 s.heap l1).objs.size = _ := Heap.get?_push_of_some _ (Heap.get?_push_of_some _ (Heap.get?_push_of_some _ (Heap.get?_push_size _ rfl)))
  have g1 : (mz5 s.heap l1 l2).get? s.heap.objs.size = _ := Heap.get?_push_of_some _ (Heap.get?_push_of_some _ (Heap.get?_push_of_some _ (Heap.get?_push_of_some _ (Heap.get?_push_size _ rfl))))
  have hk : ∀ c o, s.heap.get? c = some o → (mz5 s.heap l1 l2).get? c = some o := fun c o e => Heap.get?_push_of_some _ (Heap.get?_push_of_some _ (Heap.get?_push_of_some _ (Heap.get?_push_of_some _ (Heap.get?_push_of_some _ e))))
  rw [z4, z2, z3] at g5
  rw [z3] at g4
  rw [z2, z1] at g3
  rw [z1] at g2
  rw [z4]
  generalize mz5 s.heap l1 l2 = h' at z5 g5 g4 g3 g2 g1 hk
  exact ⟨⟨_, g5, rfl⟩, h h' g5 g3 g4 ⟨_, g1, rfl, rfl⟩ ⟨_, g2, rfl, rfl⟩ z5 hk⟩
theorem kv_side {P : Program} {w : World} : ∀ {kvs : List (Key × V)} {its1 its2 : List Value} {ys : List V}, Vals (kvs.map fun kv => kV kv.1) its1 → Vals ys its2 → ys.take kvs.length = kvs.map (·.2) →
    ∃ rs, KV kvs rs ∧ rs.length = kvs.length ∧ its1.length = kvs.length ∧ ∀ (j : Nat) kv, rs[j]? = some kv → ∃ u, its1[j]? = some u ∧ (mixKind P w).is kv.1 u = true ∧ its2[j]? = some kv.2
  | [], its1, its2, ys, h1, h2, h3 => by
    cases h1
    exact ⟨[], .nil, rfl, rfl, fun j kv e => by simp at e⟩
  | kv :: kvs, its1, its2, ys, h1, h2, h3 => by
    cases h1 with
    | cons r1 t1 =>
      rename_i u us
      cases h2 with
      | nil => simp at h3
      | cons r2 t2 =>
        rename_i y v ys' vs
        simp only [List.length_cons, List.take_succ_cons, List.map_cons, List.cons.injEq] at h3
        obtain ⟨rs, k1, k2, k4, k3⟩ := kv_side (P := P) (w := w) t1 t2 h3.2
        refine ⟨(kv.1, v) :: rs, .cons ⟨rfl, by rw [← h3.1]; exact r2⟩ k1, by simp [k2], by simp [k4], fun j q e => ?_⟩
        cases j with
        | zero =>
          simp only [List.getElem?_cons_zero, Option.some.injEq] at e
          subst e
          exact ⟨u, by simp, kV_is r1, by simp⟩
        | succ j =>
          rw [List.getElem?_cons_succ] at e
          obtain ⟨u', e1, e2, e3⟩ := k3 j q e
          exact ⟨u', by simpa using e1, e2, by simpa using e3⟩
def tDZip (K : PySem.W.Frag) (ta : TA) : TE := fun σ H Q => ta σ H fun vs H1 => ∃ (a b : Addr) (kvs : List (Key × V)) (ys : List V), vs = [.ref a, .ref b] ∧ (SqT K H1 a (kvs.map fun kv => kV kv.1) ∨ SqL K H1 a (kvs.map fun kv => kV kv.1)) ∧ SqT K H1 b ys ∧ ys.take kvs.length = kvs.map (·.2) ∧ 0 < kvs.length ∧ kvs.length ≤ 15 ∧ ∀ p, H1 p = none → Q (.ref p) (upd H1 p (.dK (mergeK [] kvs)))
section
variable {X : Cx}
theorem pe_dzip {a b : Expr} {ta : TA} {p p2 pos pos2 : Pos} (hc : X.calm = true) (hgl : Gl X "dict") (hml : X.mg "dict" = none) (hg : Gl X "zip") (hm : X.mg "zip" = none) (ha : PA X [a, b] ta)
    (hs : starEach [a, b] X.env = [(false, eval a X.env), (false, eval b X.env)] := by rfl) (hs2 : starEach [b] X.env = [(false, eval b X.env)] := by rfl)
    (he : starEach [.Call (.Name "zip" p2) [a, b] [] pos2] X.env = [(false, eval (.Call (.Name "zip" p2) [a, b] [] pos2) X.env)] := by rfl) :
    PE X (.Call (.Name "dict" p) [.Call (.Name "zip" p2) [a, b] [] pos2] [] pos) (tDZip X.K ta) := by
  intro pins s σ H Q I h
  refine wpAny_Call_Name_kw (ld_blt I hgl hml boot_dict ?_ (by decide) (by decide))
  refine PyProof.Rows.callWith_type1 ?_ he rfl
  rw [he]
  show wpAny _ _ (spliced ((false, eval (.Call (.Name "zip" p2) [a, b] [] pos2) X.env) :: [])) _ _ s
  refine Calls.spliced_cons ?_
  refine Call_ (ld_blt I hg hm boot_zip (PyProof.Rows.callWith_type1 (thn (ha pos2 pins s σ H _ I h) fun us s1 ⟨vs, H1, I1, r1, q1⟩ => ?_) (by rw [hs, hs2]) (by rw [hs2]; rfl)))
  obtain ⟨l1, l2, kvs, ys, rfl, sq1, sq2, htk, hn, hl, q⟩ := q1
  cases r1 with
  | cons r rr =>
    cases rr with
    | cons r' rr =>
      cases rr
      cases r
      cases r'
      have apart : l1 < s1.heap.objs.size → l2 < s1.heap.objs.size → ZipApart (s1.heap.objs.size + 4) (s1.heap.objs.size + 2) (s1.heap.objs.size + 3) s1.heap.objs.size (s1.heap.objs.size + 1) l1 l2 := by
        generalize s1.heap.objs.size = n
        intro lt1 lt2
        have lt1' : @LT.lt Nat _ l1 n := lt1
        have lt2' : @LT.lt Nat _ l2 n := lt2
        constructor <;> (intro (z : @Eq Nat _ _); omega)
      obtain ⟨its2, rv2, p2', hz2⟩ := I1.tuple sq2
      have lt2 : l2 < s1.heap.objs.size := by obtain ⟨_, e, _⟩ := p2'; exact Heap.lt_size e
      have fin : ∀ (its1 : List Value) (h' : Heap), Vals (kvs.map fun kv => kV kv.1) its1 → l1 < s1.heap.objs.size → IsZip h' (s1.heap.objs.size + 4) (s1.heap.objs.size + 2) (s1.heap.objs.size + 3) Value.none → IsPair h' (s1.heap.objs.size + 2) (Value.ref s1.heap.objs.size) (Value.ref (s1.heap.objs.size + 1)) → IsPair h' (s1.heap.objs.size + 3) Value.none Value.none → Wlk h' s1.heap.objs.size l1 0 its1.toArray → Wlk h' (s1.heap.objs.size + 1) l2 0 its2.toArray → h'.objs.size = s1.heap.objs.size + 5 → (∀ c o, s1.heap.get? c = some o → h'.get? c = some o) →
          wpAny (model X.prog X.w) X.A (call (Value.type "dict") [Value.ref (s1.heap.objs.size + 4)]) (EP X pins σ Q) X.xe { s1 with heap := h' } := fun its1 h' rv1 lt1 b1 b2 b3 b4 b5 b6 hk => by
        obtain ⟨rs, k1, k2, k4, k3⟩ := kv_side (P := X.prog) (w := X.w) rv1 rv2 htk
        have I2 : Inv X pins σ H1 { s1 with heap := h' } := I1.kept (t' := s1.toks) hk
        refine call_dict_zip (s := { s1 with heap := h' }) (rs := rs) (xs := its1.toArray) (ys := its2.toArray) (I1.ok.hd hc) (apart lt1 lt2) ⟨fun j kv e => ?_, ?_⟩ (by omega) (Nat.le_trans (by omega : rs.length ≤ 15) (by decide)) I2.big b1 b2 b3 b4 b5 fun h3 t3 d3 old3 => ?_
        · obtain ⟨u, e1, e2, e3⟩ := k3 j kv e
          exact ⟨u, by simpa using e1, e2, by simpa using e3⟩
        · simp [k2, k4]
        · have hp : H1 h'.objs.size = none := I2.hok.fresh (Nat.le_refl _)
          have le5 : s1.heap.objs.size ≤ h'.objs.size := by rw [b6]; exact Nat.le_add_right _ _
          have kp3 : ∀ c o, s1.heap.get? c = some o → h3.get? c = some o := fun c o e => by
            have lt := Heap.lt_size e
            refine old3 c o ?_ ?_ ?_ ?_ (hk c o e) <;> (intro (z : @Eq Nat _ _); have lt' : @LT.lt Nat _ c s1.heap.objs.size := lt; omega)
          refine ⟨.ref h'.objs.size, _, I1.laid (t' := t3) kp3 le5 (dk_new ?_ ?_ (KV.merge k1 .nil) d3), rfl, q _ hp⟩
          · have := length_mergeK kvs []
            simp only [List.length_nil] at this
            exact Nat.le_trans (by omega : (mergeK [] kvs).length ≤ 15) (by decide)
          · have := I1.big
            have ne : h'.objs.size ≠ sysModules := by
              intro (z : @Eq Nat _ _)
              have t1 : @LT.lt Nat _ sysModules s1.heap.objs.size := this
              have t2 : @LE.le Nat _ s1.heap.objs.size h'.objs.size := le5
              omega
            exact beq_false_of_ne ne
      rcases sq1 with sq1 | sq1
      · obtain ⟨its1, rv1, p1', hz1⟩ := I1.tuple sq1
        have lt1 : l1 < s1.heap.objs.size := by obtain ⟨_, e, _⟩ := p1'; exact Heap.lt_size e
        refine call_zip_2T p1' p2' fun h' b1 b2 b3 b4 b5 b6 hk => Calls.spliced_nil ?_
        refine fin its1 h' rv1 lt1 b1 b2 b3 (.inl ⟨b4, ?_⟩) (.inl ⟨b5, ?_⟩) b6 hk
        · obtain ⟨o, e, r⟩ := p1'; exact ⟨o, hk _ o e, r⟩
        · obtain ⟨o, e, r⟩ := p2'; exact ⟨o, hk _ o e, r⟩
      · obtain ⟨its1, rv1, p1', hz1⟩ := I1.list sq1
        have p1'' := p1'.isList
        have lt1 : l1 < s1.heap.objs.size := by obtain ⟨_, e, _⟩ := p1''; exact Heap.lt_size e
        refine call_zip_2M p1'' p2' fun h' b1 b2 b3 b4 b5 b6 hk => Calls.spliced_nil ?_
        refine fin its1 h' rv1 lt1 b1 b2 b3 (.inr ⟨b4, ?_⟩) (.inl ⟨b5, ?_⟩) b6 hk
        · obtain ⟨o, e, r⟩ := p1''; exact ⟨o, hk _ o e, r⟩
        · obtain ⟨o, e, r⟩ := p2'; exact ⟨o, hk _ o e, r⟩
end
end L2
namespace L2
open PySem PySem.Spec PyProof.Rows
def dzQ (K : PySem.W.Frag) (vs : List V) (H1 : Hp) (Q : VK) : Prop := ∃ (a b : Addr) (kvs : List (Key × V)) (ys : List V), vs = [.ref a, .ref b] ∧ (SqT K H1 a (kvs.map fun kv => kV kv.1) ∨ SqL K H1 a (kvs.map fun kv => kV kv.1)) ∧ SqT K H1 b ys ∧ ys.take kvs.length = kvs.map (·.2) ∧ 0 < kvs.length ∧ kvs.length ≤ 15 ∧ ∀ p, H1 p = none → Q (.ref p) (upd H1 p (.dK (mergeK [] kvs)))
def tDZ (K : PySem.W.Frag) (ta : TA) : TE := fun σ H Q => ta σ H fun vs H1 => dzQ K vs H1 Q
theorem tDZ_eq (K : PySem.W.Frag) (ta : TA) (σ : St) (H : Hp) (Q : VK) : tDZ K ta σ H Q = ta σ H fun vs H1 => dzQ K vs H1 Q := rfl
def dgQ (x y : V) (H : Hp) (Q : VK) : Prop := ∃ a v, x = .ref a ∧ DGet H a y (some v) ∧ Q v H
def tDG (td ty : TE) : TE := fun σ H Q => td σ H fun x H1 => ty σ H1 fun y H2 => dgQ x y H2 Q
theorem tDG_eq (td ty : TE) (σ : St) (H : Hp) (Q : VK) : tDG td ty σ H Q = td σ H fun x H1 => ty σ H1 fun y H2 => dgQ x y H2 Q := rfl
def dpQ (x y v : V) (H : Hp) (R : Hp → Prop) : Prop := ∃ a H4, x = .ref a ∧ DPut H a y v H4 ∧ R H4
def sDP (td ty tv : TE) : TS := fun D σ H => tv σ H fun v H1 => td σ H1 fun x H2 => ty σ H2 fun y H3 => dpQ x y v H3 fun H4 => D.nx σ H4
theorem sDP_eq (td ty tv : TE) (D : Ends) (σ : St) (H : Hp) : sDP td ty tv D σ H = tv σ H fun v H1 => td σ H1 fun x H2 => ty σ H2 fun y H3 => dpQ x y v H3 fun H4 => D.nx σ H4 := rfl
def daQ (x y : V) (H : Hp) (R : Addr → V → Prop) : Prop := ∃ a v, x = .ref a ∧ DGet H a y (some v) ∧ R a v
def dbQ (a : Addr) (y v y2 : V) (H : Hp) (R : Hp → Prop) : Prop := rAdd v y2 H fun z H4 => ∃ H5, DPut H4 a y z H5 ∧ R H5
def sDA (td ty tv : TE) : TS := fun D σ H => td σ H fun x H1 => ty σ H1 fun y H2 => daQ x y H2 fun a v => tv σ H2 fun y2 H3 => dbQ a y v y2 H3 fun H5 => D.nx σ H5
theorem sDA_eq (td ty tv : TE) (D : Ends) (σ : St) (H : Hp) : sDA td ty tv D σ H = td σ H fun x H1 => ty σ H1 fun y H2 => daQ x y H2 fun a v => tv σ H2 fun y2 H3 => dbQ a y v y2 H3 fun H5 => D.nx σ H5 := rfl
section
variable {X : Cx} {o i e value : Expr} {pos pos' tpos : Pos} {td ty tv : TE}
theorem qe_dz {a b : Expr} {ta : TA} {p p2 pos pos2 : Pos} (hc : X.calm = true) (hgl : Gl X "dict") (hml : X.mg "dict" = none) (hg : Gl X "zip") (hm : X.mg "zip" = none) (ha : QA X [a, b] ta)
    (hs : starEach [a, b] X.env = [(false, eval a X.env), (false, eval b X.env)] := by rfl) (hs2 : starEach [b] X.env = [(false, eval b X.env)] := by rfl)
    (he : starEach [.Call (.Name "zip" p2) [a, b] [] pos2] X.env = [(false, eval (.Call (.Name "zip" p2) [a, b] [] pos2) X.env)] := by rfl) :
    QE X (.Call (.Name "dict" p) [.Call (.Name "zip" p2) [a, b] [] pos2] [] pos) (tDZ X.K ta) := ⟨pe_dzip hc hgl hml hg hm ha.h hs hs2 he⟩
theorem qe_dg (hu : X.A.units + 1 < cLine) (ho : QE X o td) (hi : QE X i ty) (hs : NoSl i) : QE X (.Subscript o i pos) (tDG td ty) := ⟨pe_dget hu ho.h hi.h hs⟩
end
def rdA := And.intro @tDZ_eq (And.intro @tDG_eq (And.intro @sDP_eq @sDA_eq))
def fiveKv (zs : List Int) : List (Key × V) := [(Sum.inr "is", V.int (zs.getD 0 0)), (Sum.inr "within", V.int (zs.getD 1 0)), (Sum.inr "below", V.int (zs.getD 2 0)), (Sum.inr "mask", V.int (zs.getD 3 0)), (Sum.inr "table", V.int (zs.getD 4 0))]
theorem five_take {zs : List Int} (h : 5 ≤ zs.length) : (zs.map V.int).take (fiveKv zs).length = (fiveKv zs).map (·.2) := by
  match zs, h with
  | a :: b :: c :: d :: e :: _, _ => rfl
theorem kne {a b : Str} (h : a ≠ b) : ¬ (Sum.inr a : Key) = Sum.inr b := fun e => h (Sum.inr.inj e)
end L2
namespace L2
open PySem PySem.Spec PyProof.Rows
section
variable {prog : Program} {w : World} {A : Around} {R : Result → Shared → Prop} {s : Shared}
end
section
variable {X : Cx} {NX N : List Str} {kX : List (Str × NameKind)} {mp : List (Option Nat)} {scope : Scope}
end
end L2
namespace L2
open PySem PySem.Spec PyProof.Rows
section
variable {X : Cx}
end
end L2
namespace L2
open PySem PySem.Spec PyProof.Rows
theorem five_val {zs : List Int} {i : Nat} (h : i < 5) : valV (mergeK [] (fiveKv zs)) (Sum.inr (wordI i)) = some (V.int (zs.getD i 0)) := by
  unfold mergeK fiveKv
  simp only [List.foldl_cons, List.foldl_nil, valV_put, valV_nil]
  match i, h with
  | 0, _ =>
    rw [show wordI 0 = ("is" : Str) from rfl]
    rw [if_neg (kne (a := "is") (b := "table") (by decide +kernel)), if_neg (kne (a := "is") (b := "mask") (by decide +kernel)), if_neg (kne (a := "is") (b := "below") (by decide +kernel)), if_neg (kne (a := "is") (b := "within") (by decide +kernel)), if_pos rfl]
  | 1, _ =>
    rw [show wordI 1 = ("within" : Str) from rfl]
    rw [if_neg (kne (a := "within") (b := "table") (by decide +kernel)), if_neg (kne (a := "within") (b := "mask") (by decide +kernel)), if_neg (kne (a := "within") (b := "below") (by decide +kernel)), if_pos rfl]
  | 2, _ =>
    rw [show wordI 2 = ("below" : Str) from rfl]
    rw [if_neg (kne (a := "below") (b := "table") (by decide +kernel)), if_neg (kne (a := "below") (b := "mask") (by decide +kernel)), if_pos rfl]
  | 3, _ =>
    rw [show wordI 3 = ("mask" : Str) from rfl]
    rw [if_neg (kne (a := "mask") (b := "table") (by decide +kernel)), if_pos rfl]
  | 4, _ =>
    rw [show wordI 4 = ("table" : Str) from rfl]
    rw [if_pos rfl]
end L2
namespace L2
open PySem PySem.Spec PyProof.Rows
theorem note_x {M : Model} {A : Around} {E : Value → Shared → Prop} {s : Shared} {base : Heap} {env : Env} {outer : List Env} {L e : Addr} {oe : Obj} {vs : Array Value} {head : Value} {b0 : Bool} {Q : Unit → Shared → Prop} (hfr : A.frames = some (env :: outer)) (hl : s.heap.FunFrames base (env :: outer)) (hf : env.frame = some L)
    (he : s.heap.get? e = some oe) (hd : oe.data = Data.fields vs) (h1s : 1 < vs.size) (hen : e ∉ List.filterMap (fun x => x.frame) (env :: outer))
    (hQ : ∀ (h' : Heap) (T : Addr) (ts : Array Value), h'.get? e = some { cls := oe.cls, dict := oe.dict, data := Data.fields (vs.setIfInBounds 1 (Value.ref T)), slots := oe.slots } → h'.get? T = some { cls := Value.type "traceback", data := Data.fields ts } → ts[3]? = some (rawInt L) → T ≠ e → s.heap.objs.size ≤ T →
      (∀ b o, b ≠ e → b ∉ List.filterMap (fun x => x.frame) (env :: outer) → s.heap.get? b = some o → h'.get? b = some o) → (∀ b o, b ∈ List.filterMap (fun x => x.frame) (env :: outer) → s.heap.get? b = some o → ∃ sl, h'.get? b = some { cls := o.cls, dict := o.dict, data := o.data, slots := sl }) → Q () { s with heap := h' }) :
    wpAny M A (do
      let a ← PySem.frameOf env
      let pl ← entryPlaceOf L b0
      let b ← EntryCells.newEntry head a Value.none (rawInt ↑L) Value.none pl
      setField (Value.ref e) 1 b) Q E s := by
  refine wpAny_bind (wpAny_frameOf_fun hfr hl hf fun h₁ so => ?_)
  refine wpAny_bind (wpAny_entryPlaceOf fun pl hpl => ?_)
  have he1 : h₁.get? e = some oe := (so.2.1 e hen).trans he
  refine wpAny_bind ?_
  unfold EntryCells.newEntry newFields
  refine wpAny_newObj_type ?_ ?_
  · have he2 := Heap.get?_push_of_some (h := h₁) { cls := Value.type "traceback", data := Data.fields ([head, Value.ref L, Value.none, rawInt ↑L, Value.none] ++ if pl.isEmpty = true then List.replicate 6 Value.none else pl).toArray } he1
    refine wpAny_setField (s := { s with heap := h₁.push { cls := Value.type "traceback", data := Data.fields ([head, Value.ref L, Value.none, rawInt ↑L, Value.none] ++ if pl.isEmpty = true then List.replicate 6 Value.none else pl).toArray } }) he2 hd h1s ?_
    have hne : h₁.objs.size ≠ e := fun z => by
      have := Heap.lt_size he1
      rw [z] at this
      exact Nat.lt_irrefl _ this
    refine hQ _ h₁.objs.size ([head, Value.ref L, Value.none, rawInt ↑L, Value.none] ++ if pl.isEmpty = true then List.replicate 6 Value.none else pl).toArray ?_ ?_ (by simp) hne (by rw [so.1]; exact Nat.le_refl _) (fun b o hb hbf g => ?_) (fun b o hbf g => ?_)
    · have := Heap.get?_update_self (f := Obj.mapFields fun x => x.setIfInBounds 1 (Value.ref h₁.objs.size)) he2 ?_
      · rw [this]
        obtain ⟨c, d, dt, sl⟩ := oe
        cases hd
        rfl
      · obtain ⟨c, d, dt, sl⟩ := oe
        cases hd
        rfl
    · refine (Heap.get?_update_other _ _ hne.symm).trans ?_
      exact Heap.get?_push_size _ rfl
    · refine (Heap.get?_update_other _ _ (Ne.symm hb)).trans (Heap.get?_push_of_some _ ((so.2.1 b hbf).trans g))
    · obtain ⟨sl, q⟩ := so.2.2 b o g
      refine ⟨sl, (Heap.get?_update_other _ _ fun z => hen (by rw [z]; exact hbf)).trans (Heap.get?_push_of_some _ q)⟩
  · have hp := hpl
    unfold IsPlace at hp
    show ([head, Value.ref L, Value.none, rawInt ↑L, Value.none] ++ if pl.isEmpty = true then List.replicate 6 Value.none else pl).toArray.size ≤ sizeLine + 2
    rw [List.size_toArray, List.length_append]
    split
    · rw [List.length_replicate]; show 5 + 6 ≤ _; decide
    · rcases hp with rfl | ⟨_, _, _, _, _, _, _, rfl⟩
      · show 5 + 0 ≤ _; decide
      · show 5 + 6 ≤ _; decide
theorem leave_x {prog : Program} {w : World} {A : Around} {E : Value → Shared → Prop} {s : Shared} {base : Heap} {env : Env} {outer : List Env} {L e : Addr} {oe : Obj} {vs : Array Value} {Q : Unit → Shared → Prop} (hfr : A.frames = some (env :: outer)) (hl : s.heap.FunFrames base (env :: outer)) (hf : env.frame = some L)
    (he : s.heap.get? e = some oe) (hd : oe.data = Data.fields vs) (h1s : 1 < vs.size) (hen : e ∉ List.filterMap (fun x => x.frame) (env :: outer))
    (ht : vs[1]? = some Value.none ∨ ∃ T ts, vs[1]? = some (Value.ref T) ∧ T ≠ e ∧ s.heap.get? T = some { cls := Value.type "traceback", data := Data.fields ts } ∧ ts[3]? = some Value.none)
    (hQ : ∀ (h' : Heap) (T : Addr) (ts : Array Value), h'.get? e = some { cls := oe.cls, dict := oe.dict, data := Data.fields (vs.setIfInBounds 1 (Value.ref T)), slots := oe.slots } → h'.get? T = some { cls := Value.type "traceback", data := Data.fields ts } → ts[3]? = some Value.none → T ≠ e → s.heap.objs.size ≤ T →
      (∀ b o, b ≠ e → b ∉ List.filterMap (fun x => x.frame) (env :: outer) → vs[1]? ≠ some (Value.ref b) → s.heap.get? b = some o → h'.get? b = some o) → (∀ b o, b ∈ List.filterMap (fun x => x.frame) (env :: outer) → s.heap.get? b = some o → ∃ sl, h'.get? b = some { cls := o.cls, dict := o.dict, data := o.data, slots := sl }) → Q () { s with heap := h' }) :
    wpAny (model prog w) A (leaving env (Value.ref e)) Q E s := by
  unfold leaving
  have fin : ∀ (h₂ : Heap) (T : Addr) (ts : Array Value), h₂.get? e = some { cls := oe.cls, dict := oe.dict, data := Data.fields (vs.setIfInBounds 1 (Value.ref T)), slots := oe.slots } → h₂.get? T = some { cls := Value.type "traceback", data := Data.fields ts } → ts[3]? = some (rawInt L) → T ≠ e → s.heap.objs.size ≤ T → T ∉ List.filterMap (fun x => x.frame) (env :: outer) →
      (∀ b o, b ≠ e → b ∉ List.filterMap (fun x => x.frame) (env :: outer) → vs[1]? ≠ some (Value.ref b) → s.heap.get? b = some o → h₂.get? b = some o) → (∀ b o, b ∈ List.filterMap (fun x => x.frame) (env :: outer) → s.heap.get? b = some o → ∃ sl, h₂.get? b = some { cls := o.cls, dict := o.dict, data := o.data, slots := sl }) →
      wpAny (model prog w) A (setFlight (Value.ref e) none) Q E { s with heap := h₂ } := fun h₂ T ts g1 g2 g3 g4 g5 g6 g7 g8 => by
    unfold setFlight
    have v1 : (vs.setIfInBounds 1 (Value.ref T))[1]? = some (Value.ref T) := by
      rw [Array.getElem?_setIfInBounds_self_of_lt h1s]
    refine wpAny_bind (wpAny_field g1 rfl v1 (wpAny_ite_true rfl ?_))
    refine wpAny_setField_rec (s := { s with heap := h₂ }) g2 (Array.getElem?_eq_some_iff.mp g3).1 fun h₃ q1 q2 => ?_
    refine hQ h₃ T _ ((q2.2 e (Ne.symm g4)).trans g1) q1 ?_ g4 g5 (fun b o c1 c2 c3 g => ?_) (fun b o c1 g => ?_)
    · rw [Array.getElem?_setIfInBounds_self_of_lt (Array.getElem?_eq_some_iff.mp g3).1]
      rfl
    · have hb : b ≠ T := fun z => by
        have := Heap.lt_size g
        rw [z] at this
        exact absurd this (Nat.not_lt.mpr g5)
      exact (q2.2 b hb).trans (g7 b o c1 c2 c3 g)
    · obtain ⟨sl, q⟩ := g8 b o c1 g
      exact ⟨sl, (q2.2 b fun z => g6 (by rw [← z]; exact c1)).trans q⟩
  refine wpAny_bind ?_
  unfold noteFrame
  rw [hf]
  have fresh : ∀ {T : Addr}, s.heap.objs.size ≤ T → T ∉ List.filterMap (fun x => x.frame) (env :: outer) := fun {T} hT hm => by
    obtain ⟨_, o, g, _⟩ := hl.mem hm
    exact absurd (Heap.lt_size g) (Nat.not_lt.mpr hT)
  rcases ht with ht | ⟨T0, ts0, ht, hTe, hT0, h30⟩
  · refine wpAny_bind (wpAny_field he hd ht (wpAny_ite_false rfl ?_))
    exact note_x hfr hl hf he hd h1s hen fun h₂ T ts g1 g2 g3 g4 g5 g6 g7 => fin h₂ T ts g1 g2 g3 g4 g5 (fresh g5) (fun b o c1 c2 _ g => g6 b o c1 c2 g) g7
  · refine wpAny_bind (wpAny_field he hd ht (wpAny_ite_true rfl ?_))
    refine wpAny_bind (wpAny_field hT0 rfl h30 (wpAny_ite_false rfl ?_))
    refine wpAny_bind (wpAny_setField_rec hT0 (Array.getElem?_eq_some_iff.mp h30).1 fun h₁ q1 q2 => ?_)
    have hT0f : T0 ∉ List.filterMap (fun x => x.frame) (env :: outer) := fun hm => by
      obtain ⟨_, o, g, nf⟩ := hl.mem hm
      rw [hT0] at g
      cases g
      exact nf _ rfl
    have hl1 : h₁.FunFrames base (env :: outer) := hl.of_keeps fun b o g nf => ⟨o, (q2.2 b fun z => by rw [z, hT0] at g; cases g; exact nf _ rfl).trans g, rfl⟩
    refine note_x (s := { s with heap := h₁ }) hfr hl1 hf ((q2.2 e (Ne.symm hTe)).trans he) hd h1s hen fun h₂ T ts g1 g2 g3 g4 g5 g6 g7 => ?_
    have g5' : s.heap.objs.size ≤ T := by rw [← q2.1]; exact g5
    refine fin h₂ T ts g1 g2 g3 g4 g5' (fresh g5') (fun b o c1 c2 c3 g => g6 b o c1 c2 ((q2.2 b fun z => c3 (by rw [z]; exact ht)).trans g)) fun b o c1 g => ?_
    exact g7 b o c1 ((q2.2 b fun z => hT0f (by rw [← z]; exact c1)).trans g)
end L2
namespace L2
open PySem PySem.Spec PyProof.Rows
theorem get_ge {h : Heap} {a : Addr} (hl : h.objs.size ≤ a) : h.get? a = none := by
  cases e : h.get? a with
  | none => rfl
  | some o => exact absurd (Heap.lt_size e) (Nat.not_lt.mpr hl)
theorem type_call2 {prog : Program} {w : World} {A : Around} {E : Value → Shared → Prop} {h : Heap} {g : Array GenState} {d : Drawn} {t : Nat} {os : OsState} {nm q : Str} {C N : Addr} {bs bm bmB bmN : List Value} {hdct : Bool} {sn : List Str} {sub : List Value} {ab : Bool} {col : Option Bool} {dd : Option Addr} {k0 k1 k2 k3 k5 : Option Value} {B Bn newId nid initId inN : String}
    (Fn : ExcBaseFacts Bn newId inN bmN) (hBn : bmB.contains (Value.type Bn) = true) (F : ExcBaseFacts B nid initId bmB) (T : OwnTail h bmB bm) {mN : Str → Option Value} {rest : List Value} {fI : Addr} {oI : Obj} {Q : PySem.Fin → Shared → Prop}
    (hC : h.get? C = some (excClassObj nm q C N bs bm hdct sn sub ab col dd k0 k1 k2 k3 k5 newId)) (hn : h.Ns N mN) (hi : mN (Str.ofString "__init__") = some (Value.ref fI)) (hfI : h.get? fI = some oI) (hfc : oI.cls = Value.type "function")
    (hq : ∀ (h' : Heap) (e : Addr), h.objs.size ≤ e → h.MadeExcOf h' e (Value.ref C) rest → wpAny (model prog w) A (call (Value.ref fI) (Value.ref e :: rest)) (fun r s' => r = Value.none ∧ Q (Fin.done (Flow.ret (Value.ref e))) s') E { heap := h', gens := g, drawn := d, toks := t, os := os }) (hrest : rest.length ≤ sizeLine) :
    wpAny (model prog w) A (Builtin.«type.__call__» { pos := Value.ref C :: rest }) Q E { heap := h, gens := g, drawn := d, toks := t, os := os } := by
  unfold Builtin.«type.__call__»
  refine wpAny_ite_false rfl ?_
  refine wpAny_bind ?_
  unfold mroOf
  refine wpAny_bind (wpAny_bind (wpAny_load' hC (wpAny_pure (wpAny_pure ?_))))
  refine wpAny_ite_false rfl ?_
  refine wpAny_bind (wpAny_madeBy_exc hC ?_)
  refine wpAny_bind (wpAny_pure ?_)
  refine wpAny_bind (wpAny_holding (wpAny_call (codeAny_call_builtin_code (Code.quiet_builtin { pos := Value.ref C :: rest } Fn.quiet) (wpAny_check_new_subU Fn hBn T hC (codeAny_exc_new_subU Fn hBn F T hC ?_ hrest)))))
  generalize hh2 : (h.push { cls := Value.type "tuple", data := Data.seq rest.toArray }).push { cls := Value.ref C, data := Data.fields #[Value.ref h.objs.size, Value.none, Value.none, Value.none, Value.bool false, Value.none] } = h2
  have kp : ∀ b o, h.get? b = some o → h2.get? b = some o := fun b o e => by
    rw [← hh2]
    exact Heap.get?_push_of_some _ (Heap.get?_push_of_some _ e)
  have z1 : (h.push { cls := Value.type "tuple", data := Data.seq rest.toArray }).objs.size = h.objs.size + 1 := Heap.size_push ..
  have hget : h2.get? (h.objs.size + 1) = some { cls := Value.ref C, data := Data.fields #[Value.ref h.objs.size, Value.none, Value.none, Value.none, Value.bool false, Value.none] } := by
    rw [← hh2, ← z1]
    exact Heap.get?_push_size _ rfl
  have htup : h2.get? h.objs.size = some { cls := Value.type "tuple", data := Data.seq rest.toArray } := by
    rw [← hh2]
    exact Heap.get?_push_of_some _ (Heap.get?_push_size _ rfl)
  have made : h.MadeExcOf h2 (h.objs.size + 1) (Value.ref C) rest := ⟨kp, get_ge (Nat.le_succ _), h.objs.size, hget, get_ge (Nat.le_refl _), htup⟩
  have hC1 := kp _ _ hC
  have hn1 : h2.Ns N mN := by
    obtain ⟨o, es, ep, e, r⟩ := hn
    exact ⟨o, es, ep, kp _ _ e, r⟩
  show wpAny _ _ (isInstance (Value.ref (h.objs.size + 1)) (Value.ref C) >>= _) _ _ _
  refine wpAny_bind ?_
  unfold isInstance typeOf
  refine wpAny_bind (wpAny_bind (wpAny_loadPart_at hget (wpAny_pure ?_)))
  refine wpAny_isSubtype_exc hC1 ?_
  rw [show (Value.ref C :: bm).contains (Value.ref C) = true by simp]
  refine wpAny_ite_false rfl ?_
  refine wpAny_bind (wpAny_holding ?_)
  unfold callSpecial? specialOf typeOf
  refine wpAny_bind (wpAny_bind (wpAny_bind (wpAny_loadPart_at hget (wpAny_pure ?_))))
  refine wpAny_typeLookup_tail hC1 hn1 (T.keeps kp) F.mroIs F.init.lookup ?_
  rw [hi]
  refine wpAny_holding ?_
  refine wpAny_bind ?_
  unfold bindSpecial
  refine wpAny_bind (wpAny_typeOf (T := "function") ⟨oI, kp _ _ hfI, hfc⟩ (wpAny_ite_true rfl (wpAny_pure ?_)))
  refine wpAny_bind (wpAny_mono (hq h2 _ (Nat.le_succ _) made) (fun r s' ⟨e1, e2⟩ => ?_) fun _ _ z => z)
  subst e1
  refine wpAny_pure ?_
  exact wpAny_ite_false rfl (wpAny_pure e2)
theorem call_exc2 {prog : Program} {w : World} {A : Around} {E : Value → Shared → Prop} {h : Heap} {g : Array GenState} {d : Drawn} {t : Nat} {os : OsState} {nm q : Str} {C N : Addr} {bs bm bmB bmN : List Value} {hdct : Bool} {sn : List Str} {sub : List Value} {ab : Bool} {col : Option Bool} {dd : Option Addr} {k0 k1 k2 k3 k5 : Option Value} {B Bn newId nid initId inN : String}
    (Fn : ExcBaseFacts Bn newId inN bmN) (hBn : bmB.contains (Value.type Bn) = true) (F : ExcBaseFacts B nid initId bmB) (T : OwnTail h bmB bm) {mN : Str → Option Value} {rest : List Value} {fI : Addr} {oI : Obj} {Q : Value → Shared → Prop}
    (hC : h.get? C = some (excClassObj nm q C N bs bm hdct sn sub ab col dd k0 k1 k2 k3 k5 newId)) (hn : h.Ns N mN) (hi : mN (Str.ofString "__init__") = some (Value.ref fI)) (hfI : h.get? fI = some oI) (hfc : oI.cls = Value.type "function")
    (hq : ∀ (h' : Heap) (e : Addr), h.objs.size ≤ e → h.MadeExcOf h' e (Value.ref C) rest → wpAny (model prog w) (A.under (Code.builtin "type.__call__" { pos := Value.ref C :: rest })) (call (Value.ref fI) (Value.ref e :: rest)) (fun r s' => r = Value.none ∧ Q (Value.ref e) s') E { heap := h', gens := g, drawn := d, toks := t, os := os }) (hrest : rest.length ≤ sizeLine) :
    wpAny (model prog w) A (call (Value.ref C) rest) Q E { heap := h, gens := g, drawn := d, toks := t, os := os } := by
  have hT : (⟨h, g, d, t, os⟩ : Shared).TypeIs (Value.ref C) "type" := ⟨_, hC, rfl⟩
  refine wpAny_call (codeAny_of_tree ?_)
  show wpAny _ _ (load C >>= _) _ _ _
  refine wpAny_bind (wpAny_load' hC ?_)
  show wpAny _ _ (callAny.viaDunder (Value.ref C) { pos := rest }) _ _ _
  unfold callAny.viaDunder
  refine wpAny_bind (wpAny_specialOf hT tc_lookup ?_)
  refine wpAny_bind (wpAny_of_eq (tc_bind (Value.ref C)) ?_)
  refine wpAny_bind ?_
  show wpAny _ _ (pure true) _ _ _
  refine wpAny_pure (wpAny_ite_true rfl (wpAny_pure ⟨rfl, ?_⟩))
  refine codeAny_call_builtin_at (Code.quiet_builtin _ (by decide +kernel)) entry_typeCall (wpAny_check_type_call_sub hC ?_)
  exact type_call2 Fn hBn F T hC hn hi hfI hfc (fun h' e hs hm => hq h' e hs hm) hrest
end L2
namespace L2
open PySem PySem.Spec PyProof.Rows
structure Lies (s s' : Shared) (H' : Hp) (x : Addr) (ox : Obj) (vs : Array Value) : Prop where
  at_ : s'.heap.get? x = some ox
  dat : ox.data = Data.fields vs
  siz : 1 < vs.size
  new : s.heap.objs.size ≤ x
  fre : H' x = none
  tb : vs[1]? = some Value.none ∨ ∃ T ts, vs[1]? = some (Value.ref T) ∧ T ≠ x ∧ s'.heap.get? T = some { cls := Value.type "traceback", data := Data.fields ts } ∧ ts[3]? = some Value.none ∧ s.heap.objs.size ≤ T ∧ H' T = none
def CX1 (P : Program) (w : World) : CXT := fun outer H s E e s' => ∃ (x : Addr) (ox : Obj) (vs : Array Value) (H' : Hp), e = Value.ref x ∧ Lies s s' H' x ox vs ∧
  s'.os = s.os ∧ AllBare s'.gens ∧ Un (frs outer) [] H H' s.heap s'.heap ∧ HOk P w H' s'.heap ∧ E ox.cls ox.dict H'
theorem pass1 {P : Program} {w : World} {K : PySem.W.Frag} {mg : Str → Option Value} {base : Heap} {N : List Str} {qual : Str} {scope : Scope} {f : Addr} {cd : Value} {A : Around} {outer : List Env} {s : Shared} {H : Hp} {E : XK} :
    Passes (CX1 P w) (cxOf (CX1 P w) P w K mg base N qual scope f cd A outer s H E) E := by
  intro pins σ H1 s1 e s2 I ⟨x, ox, vs, H2, he, L, hos, hg, un, hok, q⟩
  subst he
  have I2 : Inv (cxOf (CX1 P w) P w K mg base N qual scope f cd A outer s H E) pins σ H2 s2 := I.call' (ch := []) hos un hok hg (fun b z => absurd z (by simp))
  have hsz : s.heap.objs.size ≤ s1.heap.objs.size := I.sz
  have hst := I2.stack
  have hen : x ∉ frs (envOfC qual scope s.heap.objs.size f cd :: outer) := fun hm => by
    obtain ⟨_, o, g, _⟩ := I.stack.mem hm
    exact absurd (Heap.lt_size g) (Nat.not_lt.mpr L.new)
  have hfree := I2.stkFree
  show wpAny (model P w) (A.deeper (envOfC qual scope s.heap.objs.size f cd)) (leaving (envOfC qual scope s.heap.objs.size f cd) (Value.ref x)) _ _ s2
  refine leave_x (base := base) (outer := outer) (L := s.heap.objs.size) I2.ok.frames hst rfl L.at_ L.dat L.siz hen ?_ ?_
  · rcases L.tb with z | ⟨T, ts, z1, z2, z3, z4, _, _⟩
    · exact .inl z
    · exact .inr ⟨T, ts, z1, z2, z3, z4⟩
  · intro h' T ts g1 g2 g3 g4 g5 g6 g7
    have hT0 : ∀ b, vs[1]? = some (Value.ref b) → s1.heap.objs.size ≤ b ∧ H2 b = none := fun b hb => by
      rcases L.tb with z | ⟨T0, _, z, _, _, _, z5, z6⟩
      · rw [z] at hb; cases hb
      · rw [z] at hb; cases hb; exact ⟨z5, z6⟩
    have old : ∀ b o, s.heap.get? b = some o → b < s.heap.objs.size ∧ b ≠ x ∧ vs[1]? ≠ some (Value.ref b) := fun b o g => by
      have hb := Heap.lt_size g
      have hn := L.new
      refine ⟨hb, fun z => ?_, fun z => ?_⟩
      · subst z; exact absurd (Nat.lt_of_lt_of_le hb (Nat.le_trans hsz hn)) (Nat.lt_irrefl _)
      · exact absurd (Nat.lt_of_lt_of_le hb (Nat.le_trans hsz (hT0 b z).1)) (Nat.lt_irrefl _)
    have hH2T : H2 T = none := I2.hok.fresh g5
    refine ⟨x, _, _, H2, rfl, ⟨g1, rfl, ?_, Nat.le_trans hsz L.new, L.fre, .inr ⟨T, ts, ?_, g4, g2, g3, ?_, hH2T⟩⟩, I2.os, I2.bare, ?_, ?_, q⟩
    · rw [Array.size_setIfInBounds]; exact L.siz
    · rw [Array.getElem?_setIfInBounds_self_of_lt L.siz]
    · exact Nat.le_trans I2.sz g5
    · have B := I2.base
      refine ⟨fun b o g n hf hx => ?_, fun b o g n hf hx => ?_, B.free, fun b o g hx => ?_, B.tups, B.frzs, B.tbls⟩
      · obtain ⟨c1, c2, c3⟩ := old b o g
        refine g6 b o c2 (fun z => ?_) c3 (B.keep b o g n hf hx)
        rcases List.mem_cons.mp (show b ∈ s.heap.objs.size :: frs outer from z) with z | z
        · rw [z] at c1; exact absurd c1 (Nat.lt_irrefl _)
        · exact hf z
      · obtain ⟨sl, g'⟩ := B.slot b o g n hf hx
        obtain ⟨sl', g''⟩ := g7 b _ (List.mem_cons_of_mem _ hf) g'
        exact ⟨sl', g''⟩
      · obtain ⟨c1, c2, c3⟩ := old b o g
        obtain ⟨o', g'⟩ := B.there b o g hx
        by_cases hm : b ∈ frs (envOfC qual scope s.heap.objs.size f cd :: outer)
        · obtain ⟨sl, g''⟩ := g7 b o' hm g'
          exact ⟨_, g''⟩
        · exact ⟨_, g6 b o' c2 hm c3 g'⟩
    · intro a o ha
      refine (I2.hok a o ha).stay (fun b u hb gb => ?_) (fun _ z => z) fun _ _ z => z
      have hb' : H2 b ≠ none := by
        rcases hb with rfl | hb
        · rw [ha]; exact fun z => nomatch z
        · rw [hb]; exact fun z => nomatch z
      refine g6 b u (fun z => hb' (by rw [z]; exact L.fre)) (fun z => hb' (hfree b z)) (fun z => hb' (hT0 b z).2) gb
theorem own1 {P : Program} {w : World} {K : PySem.W.Frag} {mg : Str → Option Value} {base : Heap} {N : List Str} {qual : Str} {scope : Scope} {f : Addr} {cd : Value} {A : Around} {outer : List Env} {s : Shared} {H : Hp} {E : XK} {CX : CXT} :
    PassesOwn (model P w) (A.deeper (envOfC qual scope s.heap.objs.size f cd)) (envOfC qual scope s.heap.objs.size f cd) (cxOf CX P w K mg base N qual scope f cd A outer s H E).xe := by
  show PassesOwn _ _ _ (fun e s' => wpAny (model P w) (A.deeper (envOfC qual scope s.heap.objs.size f cd)) (leaving (envOfC qual scope s.heap.objs.size f cd) e) (fun _ s'' => CX outer H s E e s'') (fun e' s'' => CX outer H s E e' s'') s')
  exact PassesOwn.leaving
end L2
namespace L2
open PySem PySem.Spec PyProof.Rows
section
variable {M : Model} {A : Around} {E : Value → Shared → Prop} {env : Env}
variable {nm q : Str} {C N : Addr} {bs bm : List Value} {hdct : Bool} {sn : List Str} {sub : List Value} {ab : Bool} {col : Option Bool} {dd : Option Addr} {k0 k1 k2 k3 k5 : Option Value} {newId : String}
theorem raise_x {s : Shared} {x : Sem Value} {Q : Flow → Shared → Prop} (hbase : bm.contains (Value.type "BaseException") = true) (hh : A.handled = none)
    (h : wpAny M A x (fun v s₁ => ∃ e t dx, v = Value.ref e ∧ s₁.heap.get? C = some (excClassObj nm q C N bs bm hdct sn sub ab col dd k0 k1 k2 k3 k5 newId) ∧
      s₁.heap.get? e = some { cls := Value.ref C, dict := dx, data := Data.fields #[Value.ref t, Value.none, Value.none, Value.none, Value.bool false, Value.none] } ∧ E (Value.ref e) s₁) E s) :
    wpAny M A (raiseStmt env (some x) none) Q E s := by
  have hcB : (Value.ref C :: bm).contains (Value.type "BaseException") = true := by rw [List.contains_cons, hbase, Bool.or_true]
  unfold raiseStmt
  refine wpAny_bind (wpAny_mono h (fun v s₁ h₁ => ?_) fun _ _ x => x)
  obtain ⟨e, t, dx, rfl, hC, he, hE⟩ := h₁
  obtain ⟨hp, g, d, tk, os⟩ := s₁
  repeat (first | with_reducible refine wpAny_loadPart_at he ?_ | with_reducible refine wpAny_loadPart_at hC ?_ | (with_reducible refine wpAny_isSubtype_exc hC ?_; rw [hcB]) | wp_step)
  exact wpAny_raiseNew_none hh hE
end
section
variable {prog : Program} {w : World} {A : Around} {E : Value → Shared → Prop}
variable {nm q : Str} {C N : Addr} {bs bm bmB : List Value} {hdct : Bool} {sn : List Str} {sub : List Value} {ab : Bool} {col : Option Bool} {dd : Option Addr} {k0 k1 k2 k3 k5 : Option Value} {nwId B newId initId : String}
theorem init_x {hp : Heap} {g : Array GenState} {d : Drawn} {tk : Nat} {os : OsState} {e t : Addr} {dx : Option Addr} {rest : List Value} {Q : Value → Shared → Prop} (F : ExcBaseFacts B newId initId bmB) (hB : bm.contains (Value.type B) = true)
    (hC : hp.get? C = some (excClassObj nm q C N bs bm hdct sn sub ab col dd k0 k1 k2 k3 k5 nwId))
    (he : hp.get? e = some { cls := Value.ref C, dict := dx, data := Data.fields #[Value.ref t, Value.none, Value.none, Value.none, Value.bool false, Value.none] })
    (hq : ∀ h' : Heap, (∀ b o, b ≠ e → hp.get? b = some o → h'.get? b = some o) → h'.get? e = some { cls := Value.ref C, dict := dx, data := Data.fields #[Value.ref hp.objs.size, Value.none, Value.none, Value.none, Value.bool false, Value.none] } → Q Value.none ⟨h', g, d, tk, os⟩)
    (hrest : rest.length ≤ sizeLine) : wpAny (model prog w) A (call (Value.builtin initId) (Value.ref e :: rest)) Q E ⟨hp, g, d, tk, os⟩ := by
  have hcB : (Value.ref C :: bm).contains (Value.type B) = true := by rw [List.contains_cons, hB, Bool.or_true]
  refine wpAny_call (codeAny_call_builtin F.init.plain F.initEntry ?_)
  have hshort := F.noStar
  simp only [checkBuiltinCall, F.initKind, F.initSplit, F.initRow]
  unfold isInstance
  repeat (first | with_reducible refine wpAny_loadPart_at he ?_ | (with_reducible refine wpAny_isSubtype_exc hC ?_; rw [hcB]) | wp_step)
  refine wpAny_onRaise ?_
  rw [show ∀ (a b : String) (n : Nat), Bind.check ⟨.positional, "*", B, .self, [⟨"args", .varPos, false⟩]⟩ a b n (List.map (fun x => x.fst) ({ pos := Value.ref e :: rest } : Args).kw) = pure () from
    fun a b n => check_star_args _ _ _ _ _ _]
  refine wpAny_pure ?_
  have he2 := Heap.get?_push_of_some (h := hp) { cls := Value.type "tuple", data := Data.seq rest.toArray } he
  wp_walk
  refine hq _ (fun b o hb g => (Heap.get?_update_other _ _ (Ne.symm hb)).trans (Heap.get?_push_of_some _ g)) ?_
  rw [Heap.get?_update_self _ he2 rfl]
  rfl
end
end L2
namespace L2
open PySem PySem.Spec PyProof.Rows
open PySem.W (Frag clsIn findIn takerIn InstAt looks_clsIn looks_findIn looks_takesIn Looks check_slot looks_mroIn mroIn set_plain osa_eq)
open Builtin Builtin.ObjectAttr
def vbm : List Value := [.type "ValueError", .type "Exception", .type "BaseException", .type "object"]
theorem pass_v (self : Value) (C D : Addr) : refuseLoop self "__setattr__" (.ref C :: .ref D :: vbm) = pure () := by
  rw [refuseLoop_ref, refuseLoop_ref]
  exact PySem.F.store_ValueError.passes self
section
variable {prog : Program} {w : World} {A : Around} {E : Value → Shared → Prop} {K : Frag} {h : Heap} {g : Array GenState} {d : Drawn} {t : Nat} {os : OsState} {x C D : Addr} {cd : ClassData} {name : Str} {v : Value} {o : Obj} {vs : Array Value}
theorem set_x {Q : Unit → Shared → Prop} (X : K.In h) (hc : clsIn K C = some cd) (hmro : cd.mro = .ref C :: .ref D :: vbm) (hhd : cd.hasDict = true) (hset : findIn K (.ref C) "__setattr__" = some (some (.builtin "object.__setattr__"))) (hno : findIn K (.ref C) name = some none)
    (hx : h.get? x = some o) (hcl : o.cls = .ref C) (hdn : o.dict = none) (hda : o.data = .fields vs)
    (hq : ∀ (h' : Heap) (tk' : Nat), h'.get? x = some { cls := o.cls, dict := some h.objs.size, data := o.data, slots := o.slots } → h'.Ns1 h.objs.size (fun y => if y = name then some v else none) →
      (∀ b ob, b ≠ x → h.get? b = some ob → h'.get? b = some ob) → Q () ⟨h', g, d, tk', os⟩) :
    wpAny (model prog w) A (setAttr (.ref x) name v) Q E ⟨h, g, d, t, os⟩ := by
  have I : ∀ tk : Nat, InstAt (⟨h, g, d, tk, os⟩ : Shared).heap x o C none := fun _ => ⟨hx, hcl, by obtain ⟨_, _, dt, _⟩ := o; cases hda; rfl, by rw [hdn]; trivial⟩
  refine set_plain X (I t) hset ?_
  have SF := PySem.F.store_object
  have ne : cd.mro.isEmpty = false := by rw [hmro]; rfl
  have sub : Looks (model prog w) h (isInstance (.ref x) (.type "object")) true := (I t).type.andThen (looks_mroIn X (by unfold mroIn; rw [hc, Option.bind_some, if_neg (by rw [ne]; decide), hmro]; rfl))
  refine codeAny_call_builtin SF.slot.plain SF.entry (@check_slot (model prog w) _ _ ⟨h, g, d, t + 1, os⟩ "object.__setattr__" "object" "__setattr__" (.ref x) [.str name t, v] [] _ SF.kind SF.split sub (SF.args (.ref x) (.str name t) v) ?_)
  have hm : Looks (model prog w) h (mroOf (.ref C)) cd.mro := (looks_clsIn X hc).andThen .now
  have IT : Looks (model prog w) h (typeOf (.ref x)) (.ref C) := (I t).type
  have LF : Looks (model prog w) h (typeLookup (.ref C) name) none := looks_findIn X hno
  rw [osa_eq, refuse_eq]
  refine wpAny_bind (wpAny_bind (IT.here (wpAny_bind (hm.here ?_))))
  rw [hmro, pass_v]
  refine wpAny_pure (wpAny_bind (IT.here (wpAny_bind (LF.here (wpAny_bind (wpAny_pure ?_))))))
  dsimp only
  have LC : Looks (model prog w) h (classData C) cd := looks_clsIn X hc
  obtain ⟨oc, odi, oda, osl⟩ := o
  dsimp only at hcl hdn hda
  subst hcl hdn hda
  refine wpAny_bind (wpAny_pure (wpAny_bind ?_))
  show wpAny _ _ (instanceDict x true) _ _ _
  unfold instanceDict
  refine wpAny_bind (wpAny_loadPart hx (wpAny_bind (LC.here ?_)))
  rw [hhd]
  have hx₁ : (h.push { cls := .type "dict", data := .dict #[] }).get? x = some { cls := .ref C, data := .fields vs, slots := osl } := Heap.get?_push_of_some _ hx
  have hxs : x ≠ h.objs.size := Nat.ne_of_lt (Heap.lt_size hx)
  rw [if_neg (by decide)]
  dsimp only
  rw [if_neg (by simp [typeHasDict])]
  refine wpAny_bind (wpAny_alloc' ?_)
  refine wpAny_bind (wpAny_update' hx₁ ?_)
  refine wpAny_pure ?_
  have hgd : ((h.push { cls := .type "dict", data := .dict #[] }).update x fun o => { cls := o.cls, dict := some h.objs.size, data := o.data, slots := o.slots }).get? h.objs.size
      = some { cls := .type "dict", data := .dict #[] } :=
    (Heap.get?_update_ne _ _ _ _ hxs.symm).trans (Heap.get?_push_at rfl rfl)
  have hnd : ((h.push { cls := .type "dict", data := .dict #[] }).update x fun o => { cls := o.cls, dict := some h.objs.size, data := o.data, slots := o.slots }).Ns h.objs.size (fun _ => none) :=
    ⟨_, #[], _, hgd, rfl, fun e he => absurd he (by simp), fun _ => rfl⟩
  show wpAny _ _ (storeInDict h.objs.size (.str name t) name v) _ _ _
  unfold storeInDict newKeyGuard
  refine wpAny_bind (wpAny_pure (wpAny_bind (wpAny_nsSet1 (Heap.Ns1.of_empty hnd) fun h' hn' hs => ?_)))
  obtain ⟨oD, esD, epD, hoD, hdD, hcD⟩ := hn'.count (Within.cons name v Within.nil)
  refine wpAny_bind (wpAny_lookBehind hoD (by rw [hdD]; exact pastItsLine_dict (Nat.le_trans hcD (by rw [List.length_cons, List.length_nil, sizeLine_eq]; omega))) ?_)
  refine wpAny_pure ?_
  refine hq h' _ ?_ hn' (fun b ob hbx hb => ?_)
  · refine (hs.2 x hxs).trans (Heap.get?_update_self _ hx₁ ?_)
    exact (Heap.get?_some_iff.mp hx).2
  · exact (hs.2 b (Nat.ne_of_lt (Heap.lt_size hb))).trans ((Heap.get?_update_ne _ _ _ _ hbx).trans (Heap.get?_push_of_some _ hb))
end
end L2
namespace L2
open PySem PySem.Spec PyProof.Rows
open PySem.W (Frag clsIn findIn takerIn InstAt looks_clsIn looks_findIn looks_takesIn Looks check_slot looks_mroIn mroIn handedIn handedOut_of)
open Builtin Builtin.ObjectAttr
section
variable {prog : Program} {w : World} {A : Around} {E : Value → Shared → Prop} {K : Frag} {h : Heap} {g : Array GenState} {d : Drawn} {t : Nat} {os : OsState} {x C D dx : Addr} {cd : ClassData} {name : Str} {v : Value} {o : Obj} {vs : Array Value} {m : Str → Option Value} {expr : Bool}
theorem get_x {Q : Value → Shared → Prop} (X : K.In h) (hc : clsIn K C = some cd) (hmro : cd.mro = .ref C :: .ref D :: vbm) (hhd : cd.hasDict = true) (hga : findIn K (.ref C) "__getattribute__" = some (some (.builtin "BaseException.__getattribute__"))) (hk : findIn K (.ref C) "__getattr__" = some none) (hno : findIn K (.ref C) name = some none)
    (hx : h.get? x = some o) (hcl : o.cls = .ref C) (hdx : o.dict = some dx) (hda : o.data = .fields vs) (hn : h.Ns dx m) (hm : m name = some v) (hh : handedIn v = true) (hq : Q v ⟨h, g, d, t + 1, os⟩) :
    wpAny (model prog w) A (getAttr (.ref x) name expr) Q E ⟨h, g, d, t, os⟩ := by
  obtain ⟨oc, odi, oda, osl⟩ := o
  dsimp only at hcl hdx hda
  subst hcl hdx hda
  have IT : Looks (model prog w) h (typeOf (.ref x)) (.ref C) := (Looks.ld hx).andThen .now
  have L1 : Looks (model prog w) h (typeLookup (.ref C) "__getattribute__") (some (.builtin "BaseException.__getattribute__")) := looks_findIn X hga
  have LK : Looks (model prog w) h (typeLookup (.ref C) "__getattr__") none := looks_findIn X hk
  have LF : Looks (model prog w) h (typeLookup (.ref C) name) none := looks_findIn X hno
  have LC : Looks (model prog w) h (classData C) cd := looks_clsIn X hc
  have ne : cd.mro.isEmpty = false := by rw [hmro]; rfl
  have sub : Looks (model prog w) h (isInstance (.ref x) (.type "BaseException")) true := IT.andThen (looks_mroIn X (by unfold mroIn; rw [hc, Option.bind_some, if_neg (by rw [ne]; decide), hmro]; rfl))
  have FB := PySem.F.attrBase_ValueError
  refine wpAny_bind (wpAny_mkText (wpAny_holding (wpAny_bind (IT _ _ _ _ (fun _ _ e => e) (wpAny_bind (L1 _ _ _ _ (fun _ _ e => e) ?_))))))
  dsimp only
  have hx2 : (Value.builtin "BaseException.__getattribute__" == Value.builtin "object.__getattribute__") = false := by decide +kernel
  rw [show (onTheHeap (Value.ref C) && Value.builtin "BaseException.__getattribute__" == Value.builtin "object.__getattribute__") = false from by rw [hx2]; rfl, if_neg (by decide)]
  unfold getAttrByItsOwn
  have HB : Looks (model prog w) h (hookBefore (.ref C)) none := by
    unfold hookBefore
    rw [if_pos (show onTheHeap (Value.ref C) = true from rfl)]
    exact LK
  refine wpAny_bind (HB _ _ _ _ (fun _ _ e => e) (wpAny_bind (wpAny_attempt (wpAny_holding ?_))))
  unfold callGetattribute
  rw [show (expr && onTheHeap (Value.builtin "BaseException.__getattribute__")) = false from Bool.and_false _, if_neg (by decide)]
  unfold boundAndCalled
  rw [FB.ga.bind]
  refine wpAny_bind (wpAny_pure ?_)
  show wpAny _ _ (call (.builtin "BaseException.__getattribute__") [.ref x, .str name t]) _ _ _
  refine wpAny_call ?_
  refine codeAny_call_builtin FB.ga.plain F.entry_bexc_ga ?_
  refine @check_slot (model prog w) _ _ ⟨h, g, d, t + 1, os⟩ "BaseException.__getattribute__" "BaseException" "__getattribute__" (.ref x) [.str name t] [] _ (by decide +kernel) (by decide +kernel) sub (F.args_bexc_ga (.ref x) (.str name t)) ?_
  unfold Builtin.«object.__getattribute__»
  have LO : Looks (model prog w) h (inOwnDict name (.ref x)) (some v) := by
    intro A Q E s k q
    refine wpAny_bind (wpAny_bind (wpAny_loadPart (k _ _ hx) ?_))
    show wpAny _ _ (instanceDict x false) _ _ _
    unfold instanceDict
    refine wpAny_bind (wpAny_loadPart (k _ _ hx) (wpAny_bind (LC A _ E s k ?_)))
    rw [hhd]
    refine wpAny_pure (a := some dx) ?_
    exact wpAny_nsGet (hn.keeps k) (by rw [hm]; exact q)
  have LV : Looks (model prog w) h (find (.ref x) (.ref C) name) (.value v) := by
    refine LF.andThen (Looks.now.andThen (Looks.now.andThen (LO.andThen ?_)))
    exact Looks.tag .now
  refine wpAny_bind (wpAny_pure (wpAny_bind (wpAny_pure (wpAny_bind (IT _ _ _ _ (fun _ _ e => e) (wpAny_bind (LV _ _ _ _ (fun _ _ e => e) (wpAny_pure ?_))))))))
  show wpAny _ _ (handedOut v) _ _ _
  rw [handedOut_of hh]
  exact wpAny_pure hq
end
end L2
namespace L2
open PySem PySem.Spec PyProof.Rows
def XO (a C : Addr) (dx : Option Addr) : HO := .ext fun h => ∃ t, h.get? a = some { cls := .ref C, dict := dx, data := .fields #[.ref t, .none, .none, .none, .bool false, .none] }
structure XCls (K : PySem.W.Frag) (C D N fI : Addr) : Prop where
  obj : ∃ nm q bs sn sub ab col dd k0 k1 k2 k3 k5, K.lookup C = some (excClassObj nm q C N bs (.ref D :: vbm) true sn sub ab col dd k0 k1 k2 k3 k5 "ValueError.__new__")
  tail : PySem.W.tailIn K vbm (.ref D :: vbm) = true
  nsok : PySem.W.nsOkIn K N = true
  init : PySem.W.nsIn K N "__init__" = some (some (.ref fI))
  set : PySem.W.findIn K (.ref C) "__setattr__" = some (some (.builtin "object.__setattr__"))
  ga : PySem.W.findIn K (.ref C) "__getattribute__" = some (some (.builtin "BaseException.__getattribute__"))
  gk : PySem.W.findIn K (.ref C) "__getattr__" = some none
structure XBase (K : PySem.W.Frag) (D : Addr) : Prop where
  reads : PySem.W.readsIn K D (.type "type") = true
  sp : PySem.W.specialIn K (.ref D) "__getattribute__" = some (some (.builtin "type.__getattribute__"))
  fnd : PySem.W.findCls K (.ref D) (.type "type") "__init__" = some (.val (.builtin "ValueError.__init__"))
section
variable {X : Cx} {C D N fI : Addr} {x : Str} {np apos cpos : Pos} {e : Expr} {es : List Expr} {t : TA}
def tBI (C : Addr) (t : TA) : TE := fun σ H Q => t σ H fun vs H1 => ∃ a rest dx, vs = .ref a :: rest ∧ rest.length ≤ 1000 ∧ H1 a = some (XO a C dx) ∧ Q .non H1
theorem upd_id {H : Hp} {a : Addr} {o : HO} (h : H a = some o) : upd H a o = H := by
  funext b
  unfold upd
  split
  · rename_i z; rw [z, h]
  · rfl
theorem pe_binit {pl : Sem Bool} (XC : XCls X.K C D N fI) (XD : XBase X.K D) (hg : Gl X x) (hm : X.mg x = some (.ref D)) (ha : PA X (e :: es) t) (hdb : (x == ("__debug__" : Str)) = false := by decide)
    (hst : starEach (e :: es) X.env = (false, eval e X.env) :: starEach es X.env := by rfl) (hpl : (backTo cpos (starEach es X.env)).any (·.1) = false := by rfl)
    (ht : eval (.Call (.Attribute (.Name x np) "__init__" apos) (e :: es) [] cpos) X.env = (do
      let ov ← eval (.Name x np) X.env
      standAt apos.atName
      let (f, first) ← holding [ov] (getMethod ov "__init__" pl)
      callWith cpos f first (backTo cpos (starEach (e :: es) X.env)) (backToKw cpos (keywordEach [] X.env))) := by rfl) :
    PE X (.Call (.Attribute (.Name x np) "__init__" apos) (e :: es) [] cpos) (tBI C t) := by
  intro pins s σ H Q I h
  refine PySem.W.methodCall_KW (pl := pl) (ld_glob I hg hm ?_ hdb) ht
  refine PySem.W.method_cls I.kIn XD.sp (PySem.W.cls_value I.kIn XD.reads XD.fnd (by decide +kernel) ?_)
  have I1 := I.tok (s.toks + 1)
  have hA := ha cpos pins _ σ H _ I1 h
  rw [hst] at hA ⊢
  refine Calls.callWith_builtin (by show (false || (backTo cpos (starEach es X.env)).any (·.1)) = false; rw [hpl] <;> rfl) (Calls.evalArgs_plain ?_)
  refine thn hA fun us s2 ⟨vs, H2, I2, r2, a, rest, dx, ev, hl, hH, q⟩ => ?_
  subst ev
  cases r2 with
  | cons ra rr =>
    obtain rfl := (show _ = Value.ref a from ra)
    obtain ⟨t0, ht0⟩ := (show ∃ t, _ from ((I2.hok a _ hH).1))
    obtain ⟨nm, q', bs, sn, sub, ab, col, dd, k0, k1, k2, k3, k5, hC⟩ := XC.obj
    obtain ⟨hp, g, d, tk, os⟩ := s2
    refine init_x (rest := _) PySem.F.excBase_ValueError (bm := .ref D :: vbm) rfl (I2.kIn _ _ hC) ht0 (fun h' k1 k2 => ?_) ?_
    · have I3 := I2.write (x := a) (e := a) (o := XO a C dx) (t' := tk) (h' := h') (by rw [hH]; trivial) (.inl rfl) k1 ⟨_, k2⟩ ⟨⟨_, k2⟩, ⟨_, k2⟩, fun h1 h2 ⟨t, z⟩ z2 => ⟨t, z2 _ z⟩⟩
      rw [upd_id hH] at I3
      exact ⟨.non, H2, I3, rfl, q⟩
    · rw [← rr.length]
      exact Nat.le_trans hl (by rw [sizeLine_eq]; decide)
end
end L2
namespace L2
open PySem PySem.Spec PyProof.Rows
section
variable {X : Cx} {C D N fI : Addr} {f : Str} {o value : Expr} {pos pos' : Pos} {ta tv : TE}
def sFldX (K : PySem.W.Frag) (C : Addr) (ta tv : TE) (f : Str) : TS := fun D σ H => tv σ H fun y H1 => ta σ H1 fun x H2 => ∃ a, x = .ref a ∧ H2 a = some (XO a C none) ∧ PySem.W.findIn K (.ref C) f = some none ∧
  ∀ dx, H2 dx = none → dx ≠ a → D.nx σ (upd (upd H2 dx (.xd [(f, y)])) a (XO a C (some dx)))
theorem relO_one {f : Str} {y : V} {u : Value} (r : RelV y u) (f' : Str) : RelO ([(f, y)].lookup f') (if f' = f then some u else none) := by
  unfold List.lookup
  by_cases h : f' = f
  · subst h
    rw [if_pos rfl, show (f' == f') = true from beq_self_eq_true f']
    exact r
  · rw [if_neg h, show (f' == f) = false from beq_eq_false_iff_ne.mpr h]
    exact trivial
theorem XCls.cls {K : PySem.W.Frag} (c : XCls K C D N fI) : ∃ cd, PySem.W.clsIn K C = some cd ∧ cd.mro = .ref C :: .ref D :: vbm ∧ cd.hasDict = true := by
  obtain ⟨nm, q', bs, sn, sub, ab, col, dd, k0, k1, k2, k3, k5, hC⟩ := c.obj
  unfold PySem.W.clsIn
  rw [hC]
  exact ⟨_, rfl, rfl, rfl⟩
theorem ps_fldX (XC : XCls X.K C D N fI) (ha : PE X o ta) (hv : PE X value tv) (hs : swapsWith value (some (.Attribute o f pos')) pos.line X.env = pure false) : PS X (.Assign [.Attribute o f pos'] value pos) (sFldX X.K C ta tv f) := by
  intro pins s σ H Dn I h
  refine plainObj_wpAny_Assign_Attribute (thn (hv pins s σ H _ I h) fun u s1 ⟨y, H1, I1, ry, q⟩ => thn (ha pins s1 σ H1 _ I1 q) fun ov s2 ⟨x, H2, I2, rx, a, ex, ea, hno, q2⟩ => ?_) hs
  subst ex
  obtain rfl : ov = Value.ref a := rx
  obtain ⟨cd, c1, c2, c3⟩ := XC.cls
  obtain ⟨t0, ht0⟩ := (show ∃ t, _ from ((I2.hok a _ ea).1))
  obtain ⟨hp, g, d, tk, os⟩ := s2
  refine set_x I2.kIn c1 c2 c3 XC.set hno ht0 rfl rfl rfl fun h' tk' g1 g2 g3 => ?_
  have hfr : H2 hp.objs.size = none := I2.hok.fresh (Nat.le_refl _)
  have hne : hp.objs.size ≠ a := fun z => by
    have := Heap.lt_size ht0
    rw [z] at this
    exact Nat.lt_irrefl _ this
  have old : ∀ b u, H2 b = some u → b ≠ hp.objs.size := fun b u e z => by rw [z, hfr] at e; cases e
  have oth : ∀ b u, H2 b = some u → u ≠ XO a C none → upd (upd H2 hp.objs.size (.xd [(f, y)])) a (XO a C (some hp.objs.size)) b = some u := fun b u e ne => by
    rw [upd_ne (fun z => ne (by rw [z, ea] at e; exact (Option.some.inj e).symm)), upd_ne (old b u e), e]
  have lt : ∀ b ob, hp.get? b = some ob → b ≠ hp.objs.size := fun b ob e z => by
    have := Heap.lt_size e
    rw [z] at this
    exact Nat.lt_irrefl _ this
  refine ⟨σ, _, I2.un (h' := h') (t' := tk') ?_ ?_, q2 _ hfr hne⟩
  · refine ⟨fun b ob e n _ _ => ?_, fun b ob e n _ _ => ⟨ob.slots, ?_⟩, fun b ob e n _ => ?_, fun b ob e _ => ?_, fun b xs e => oth b _ e (by unfold XO; exact fun z => nomatch z), fun b ob u e => oth b _ e (by unfold XO; exact fun z => nomatch z), fun b ps e => ⟨#[], by rw [Array.append_empty]; exact oth b _ e (by unfold XO; exact fun z => nomatch z)⟩⟩
    · exact g3 b ob (fun z => by rw [z, ea] at n; cases n) e
    · exact g3 b ob (fun z => by rw [z, ea] at n; cases n) e
    · rw [upd_ne (fun z => by rw [z, ea] at n; cases n), upd_ne (lt b ob e), n]
    · by_cases z : b = a
      · rw [z]; exact ⟨_, g1⟩
      · exact ⟨_, g3 b ob z e⟩
  · intro c u e
    by_cases z : c = a
    · subst z
      rw [upd_same] at e
      cases e
      exact ⟨⟨t0, g1⟩, ⟨_, g1⟩, fun h1 h2 ⟨t, z⟩ z2 => ⟨t, z2 _ z⟩⟩
    · rw [upd_ne z] at e
      by_cases z2 : c = hp.objs.size
      · rw [z2, upd_same] at e
        cases e
        rw [z2]
        exact ⟨_, g2, fun f' => relO_one ry f'⟩
      · rw [upd_ne z2] at e
        refine (I2.hok c u e).stay (fun b ob hb eb => g3 b ob (fun zz => ?_) eb) (fun b hb => oth b _ hb (by unfold XO; exact fun z => nomatch z)) fun b xs hb => oth b _ hb (by unfold XO; exact fun z => nomatch z)
        rcases hb with hb | hb
        · exact z (hb.symm.trans zz)
        · rw [zz, ea] at hb; cases hb
end
end L2
namespace L2
open PySem PySem.Spec PyProof.Rows
abbrev TJ := St → Hp → (Hp → Prop) → Prop
def PJ (X : Cx) (es : List Expr) (t : TJ) : Prop :=
  ∀ (pins : List (Addr × Obj)) (s : Shared) (σ : St) (H : Hp) (acc : Str) (R : Hp → Prop) (Q : Str → Shared → Prop), Inv X pins σ H s → acc.length + 400 * es.length ≤ sizeLine → t σ H R →
    (∀ out s' H', Inv X pins σ H' s' → out.length ≤ sizeLine → R H' → Q out s') → Joins (model X.prog X.w) X.A X.xe (evalEach es X.env) acc Q s
section
variable {X : Cx} {e : Expr} {es : List Expr} {t : TJ} {te : TE} {x : Str} {j : Nat} {pos : Pos}
theorem pj_nil : PJ X [] (fun _ H R => R H) := fun pins s σ H acc R Q I hl h k => k acc s H I (Nat.le_trans (Nat.le_add_right _ _) hl) h
theorem pj_str {kd} (hx : x.length ≤ 400) (hr : PJ X es t) : PJ X (.Constant (.str x) kd pos :: es) t := by
  intro pins s σ H acc R Q I hl h k
  show wpAny (model X.prog X.w) X.A (eval (.Constant (.str x) kd pos) X.env) _ X.xe s
  refine Calls.Constant_str ⟨x, _, rfl, ?_, hr pins _ σ H (acc ++ x) R Q (I.tok _) ?_ h k⟩
  · rw [strLen_append]
    rw [List.length_cons] at hl
    omega
  · rw [strLen_append]
    rw [List.length_cons] at hl
    omega
theorem pj_int (he : PE X e te) (hr : PJ X es t) : PJ X (.FormattedValue e (-1) none pos :: es) (fun σ H R => te σ H fun v H1 => ∃ i : Int, v = .int i ∧ (-(2 ^ 70) < i ∧ i < 2 ^ 70) ∧ t σ H1 R) := by
  intro pins s σ H acc R Q I hl h k
  show wpAny (model X.prog X.w) X.A (eval (.FormattedValue e (-1) none pos) X.env) _ X.xe s
  refine wpAny_FormattedValue_plain (thn (he pins s σ H _ I h) fun u s1 ⟨v, H1, I1, rv, i, ev, hb, q⟩ => ?_)
  subst ev
  obtain ⟨tk, rfl⟩ := (show ∃ tk, u = Value.int i tk from rv)
  have hlg : i.natAbs.log2 < 1920 := by
    have : i.natAbs < 2 ^ 70 := by omega
    by_cases z : i.natAbs = 0
    · rw [z]; decide
    · have := (Nat.log2_lt z).mpr this
      omega
  have h4 := int_len (i := i) (by omega)
  rw [List.length_cons] at hl
  refine wpAny_formatField_int hlg ⟨_, _, rfl, ?_, hr pins _ σ H1 _ R Q (I1.tok _) ?_ q k⟩
  · rw [strLen_append]; omega
  · rw [strLen_append]; omega
theorem pe_joined {v₁ v₂ : Expr} {rest : List Expr} (h : PJ X (v₁ :: v₂ :: rest) t) (hl : (v₁ :: v₂ :: rest).length ≤ 100) : PE X (.JoinedStr (v₁ :: v₂ :: rest) pos) (fun σ H Q => t σ H fun H1 => ∀ x, Q (.str x) H1) := by
  intro pins s σ H Q I ht
  refine wpAny_JoinedStr (h pins s σ H Str.empty _ _ I ?_ ht fun out s' H' I' ho q => ⟨ho, .str out, H', I'.tok _, ⟨_, rfl⟩, q out⟩)
  show 0 + 400 * _ ≤ _
  rw [sizeLine_eq]
  omega
end
end L2
namespace L2
open PySem PySem.Spec PyProof.Rows
structure LiesIn (X : Cx) (s : Shared) (H : Hp) (x : Addr) (ox : Obj) (vs : Array Value) : Prop where
  at_ : s.heap.get? x = some ox
  dat : ox.data = Data.fields vs
  siz : 1 < vs.size
  new : X.s₀.heap.objs.size ≤ x
  loc : x ≠ X.env.locals
  fre : H x = none
  tb : vs[1]? = some Value.none ∨ ∃ T ts, vs[1]? = some (Value.ref T) ∧ T ≠ x ∧ s.heap.get? T = some { cls := Value.type "traceback", data := Data.fields ts } ∧ ts[3]? = some Value.none ∧ X.s₀.heap.objs.size ≤ T ∧ H T = none
def XOut (X : Cx) (E : XK) : Prop := ∀ (pins : List (Addr × Obj)) (σ : St) (H : Hp) (s : Shared) (x : Addr) (ox : Obj) (vs : Array Value), Inv X pins σ H s → LiesIn X s H x ox vs → E ox.cls ox.dict H → X.xe (.ref x) s
theorem out1 {P : Program} {w : World} {K : PySem.W.Frag} {mg : Str → Option Value} {base : Heap} {N : List Str} {qual : Str} {scope : Scope} {f : Addr} {cd : Value} {A : Around} {outer : List Env} {s : Shared} {H : Hp} {E : XK} :
    XOut (cxOf (CX1 P w) P w K mg base N qual scope f cd A outer s H E) E := by
  intro pins σ H2 s2 x ox vs I2 L q
  have hst := I2.stack
  have hen : x ∉ frs (envOfC qual scope s.heap.objs.size f cd :: outer) := fun hm => by
    rcases List.mem_cons.mp (I2.stkSub x hm) with z | z
    · exact L.loc z
    · obtain ⟨_, o, g, _⟩ := I2.ok.funs.mem z
      exact absurd (Heap.lt_size g) (Nat.not_lt.mpr L.new)
  have hfree := I2.stkFree
  show wpAny (model P w) (A.deeper (envOfC qual scope s.heap.objs.size f cd)) (leaving (envOfC qual scope s.heap.objs.size f cd) (Value.ref x)) _ _ s2
  refine leave_x (base := base) (outer := outer) (L := s.heap.objs.size) I2.ok.frames hst rfl L.at_ L.dat L.siz hen ?_ ?_
  · rcases L.tb with z | ⟨T, ts, z1, z2, z3, z4, _, _⟩
    · exact .inl z
    · exact .inr ⟨T, ts, z1, z2, z3, z4⟩
  · intro h' T ts g1 g2 g3 g4 g5 g6 g7
    have hT0 : ∀ b, vs[1]? = some (Value.ref b) → s.heap.objs.size ≤ b ∧ H2 b = none := fun b hb => by
      rcases L.tb with z | ⟨T0, _, z, _, _, _, z5, z6⟩
      · rw [z] at hb; cases hb
      · rw [z] at hb; cases hb; exact ⟨z5, z6⟩
    have old : ∀ b o, s.heap.get? b = some o → b < s.heap.objs.size ∧ b ≠ x ∧ vs[1]? ≠ some (Value.ref b) := fun b o g => by
      have hb := Heap.lt_size g
      have hn : s.heap.objs.size ≤ x := L.new
      refine ⟨hb, fun z => ?_, fun z => ?_⟩
      · subst z; exact absurd (Nat.lt_of_lt_of_le hb hn) (Nat.lt_irrefl _)
      · exact absurd (Nat.lt_of_lt_of_le hb (hT0 b z).1) (Nat.lt_irrefl _)
    have hH2T : H2 T = none := I2.hok.fresh g5
    refine ⟨x, _, _, H2, rfl, ⟨g1, rfl, ?_, L.new, L.fre, .inr ⟨T, ts, ?_, g4, g2, g3, ?_, hH2T⟩⟩, I2.os, I2.bare, ?_, ?_, q⟩
    · rw [Array.size_setIfInBounds]; exact L.siz
    · rw [Array.getElem?_setIfInBounds_self_of_lt L.siz]
    · exact Nat.le_trans I2.sz g5
    · have B := I2.base
      refine ⟨fun b o g n hf hx => ?_, fun b o g n hf hx => ?_, B.free, fun b o g hx => ?_, B.tups, B.frzs, B.tbls⟩
      · obtain ⟨c1, c2, c3⟩ := old b o g
        refine g6 b o c2 (fun z => ?_) c3 (B.keep b o g n hf hx)
        rcases List.mem_cons.mp (show b ∈ s.heap.objs.size :: frs outer from z) with z | z
        · rw [z] at c1; exact absurd c1 (Nat.lt_irrefl _)
        · exact hf z
      · obtain ⟨sl, g'⟩ := B.slot b o g n hf hx
        obtain ⟨sl', g''⟩ := g7 b _ (List.mem_cons_of_mem _ hf) g'
        exact ⟨sl', g''⟩
      · obtain ⟨c1, c2, c3⟩ := old b o g
        obtain ⟨o', g'⟩ := B.there b o g hx
        by_cases hm : b ∈ frs (envOfC qual scope s.heap.objs.size f cd :: outer)
        · obtain ⟨sl, g''⟩ := g7 b o' hm g'
          exact ⟨_, g''⟩
        · exact ⟨_, g6 b o' c2 hm c3 g'⟩
    · intro a o ha
      refine (I2.hok a o ha).stay (fun b u hb gb => ?_) (fun _ z => z) fun _ _ z => z
      have hb' : H2 b ≠ none := by
        rcases hb with rfl | hb
        · rw [ha]; exact fun z => nomatch z
        · rw [hb]; exact fun z => nomatch z
      refine g6 b u (fun z => hb' (by rw [z]; exact L.fre)) (fun z => hb' (hfree b z)) (fun z => hb' (hT0 b z).2) gb
def unt (H : Hp) (a : Addr) : Hp := fun b => if b = a then none else H b
theorem unt_same {H : Hp} {a : Addr} : unt H a a = none := by unfold unt; rw [if_pos rfl]
theorem unt_ne {H : Hp} {a b : Addr} (h : b ≠ a) : unt H a b = H b := by unfold unt; rw [if_neg h]
theorem Inv.forget {X : Cx} {pins : List (Addr × Obj)} {σ : St} {H : Hp} {s : Shared} {e C : Addr} {dx : Option Addr} (I : Inv X pins σ H s) (he : H e = some (XO e C dx)) : Inv X pins σ (unt H e) s := by
  have oth : ∀ b u, H b = some u → u ≠ XO e C dx → unt H e b = some u := fun b u h n => by
    rw [unt_ne (fun z => n (by rw [z, he] at h; exact (Option.some.inj h).symm)), h]
  have non : ∀ b, H b = none → unt H e b = none := fun b h => by
    unfold unt
    split
    · rfl
    · exact h
  have B := I.base
  refine ⟨I.ok, I.os, I.bare, ⟨B.keep, B.slot, fun b o g n hx => non b (B.free b o g n hx), B.there, fun b xs h => oth b _ (B.tups b xs h) (by unfold XO; exact fun z => nomatch z), fun b o u h => oth b _ (B.frzs b o u h) (by unfold XO; exact fun z => nomatch z), fun b ps h => ?_⟩, I.loc, I.cell, non _ I.free, fun x c h => non _ (I.freeC x c h), fun p hp => ?_, fun a o ha => ?_, I.len⟩
  · obtain ⟨m, hm⟩ := B.tbls b ps h
    exact ⟨m, oth b _ hm (by unfold XO; exact fun z => nomatch z)⟩
  · obtain ⟨z1, z2, z3⟩ := I.pin p hp
    exact ⟨z1, non _ z2, z3⟩
  · have hne : a ≠ e := fun z => by rw [z, unt_same] at ha; cases ha
    rw [unt_ne hne] at ha
    exact (I.hok a o ha).stay (fun b u _ g => g) (fun b h => oth b _ h (by unfold XO; exact fun z => nomatch z)) fun b xs h => oth b _ h (by unfold XO; exact fun z => nomatch z)
end L2
namespace L2
open PySem PySem.Spec PyProof.Rows
theorem ns_val_of {K : PySem.W.Frag} {h : Heap} {N : Addr} {mg : Str → Option Value} {n : Str} {v : Value} (X : K.In h) (G : h.Ns N mg) (e : PySem.W.nsIn K N n = some (some v)) : mg n = some v := by
  obtain ⟨o, es, ep, ho, hd, _, hf⟩ := G
  unfold PySem.W.nsIn at e
  split at e
  · rename_i q
    have q := (X _ _ q).symm.trans ho
    cases q
    cases hd
    split at e
    · rename_i he
      cases e
      rw [← hf]
      unfold nsFind findBy
      rw [← Array.find?_toList, he]
      rfl
    · split at e <;> cases e
  · cases e
section
variable {X : Cx} {C D N fI : Addr} {x : Str} {np cpos pos : Pos} {e : Expr} {es : List Expr} {t : TA} {k : Nat} {fd : FuncData} {ps : List Str} {sp : Sp} {E : XK}
def tRaise (C : Addr) (sp : Sp) (E : XK) (t : TA) : TS := fun _ σ H => t σ H fun vs H1 => vs.length ≤ 1000 ∧ ∀ a, H1 a = none →
  sp (.ref a :: vs) (upd H1 a (XO a C none)) (fun v H2 => v = .non ∧ ∃ dx, H2 a = some (XO a C (some dx)) ∧ E (.ref C) (some dx) (unt H2 a)) E0
theorem ps_raiseX (XC : XCls X.K C D N fI) (F : FnOk X.prog X.w X.K X.mg X.base CX0 k fI fd ps sp) (hr : Room (k + 1) X.A) (hb : Binds X.K fd ps []) (hfI : ∃ oI, X.K.lookup fI = some oI ∧ oI.cls = .type "function") (hcalm : X.calm = true) (hout : XOut X E)
    (hg : Gl X x) (hm : X.mg x = some (.ref C)) (ha : PA X (e :: es) t) (hdb : (x == ("__debug__" : Str)) = false := by decide)
    (hst : starEach (e :: es) X.env = (false, eval e X.env) :: starEach es X.env := by rfl) (hpl : (backTo cpos (starEach es X.env)).any (·.1) = false := by rfl) :
    PS X (.Raise (some (.Call (.Name x np) (e :: es) [] cpos)) none pos) (tRaise C sp E t) := by
  intro pins s σ H Dn I h
  have hplain : (backTo cpos (starEach (e :: es) X.env)).any (·.1) = false := by
    rw [hst]; show (false || (backTo cpos (starEach es X.env)).any (·.1)) = false; rw [hpl] <;> rfl
  obtain ⟨nm, q', bs, sn, sub, ab, col, dd, k0, k1, k2, k3, k5, hC⟩ := XC.obj
  obtain ⟨oI, hoI, hoc⟩ := hfI
  have hA := ha cpos pins s σ H _ I h
  have hE : wpAny (model X.prog X.w) X.A (evalArgs (.ref C) true (backTo cpos (starEach (e :: es) X.env)) []) (fun a s2 => a.kw = [] ∧ AP X pins σ (fun vs H1 => vs.length ≤ 1000 ∧ ∀ a, H1 a = none →
      sp (.ref a :: vs) (upd H1 a (XO a C none)) (fun v H2 => v = .non ∧ ∃ dx, H2 a = some (XO a C (some dx)) ∧ E (.ref C) (some dx) (unt H2 a)) E0) a.pos s2) X.xe s := by
    rw [hst] at hA ⊢
    exact Calls.evalArgs_plain (thn hA fun us s2 z => ⟨rfl, z⟩)
  rw [arm_exec_Raise]
  refine wpAny_bind (wpAny_standAt (raise_x (C := C) (nm := nm) (q := q') (N := N) (bs := bs) (bm := .ref D :: vbm) (hdct := true) (sn := sn) (sub := sub) (ab := ab) (col := col) (dd := dd) (k0 := k0) (k1 := k1) (k2 := k2) (k3 := k3) (k5 := k5) (newId := "ValueError.__new__") rfl (I.ok.hd hcalm) ?_))
  refine wpAny_bind (wpAny_mono (wpAny_Call_ofName (ld_glob I hg hm ?_ hdb)) (fun v s₃ h₃ => wpAny_bind (wpAny_standAt (wpAny_pure h₃))) fun _ _ x => x)
  unfold callWith
  refine wpAny_bind (wpAny_holding (wpAny_mono hE (fun a s₂ h₂ => wpAny_bind (wpAny_standAt ?_)) fun _ _ x => x))
  obtain ⟨apos, akw⟩ := a
  obtain ⟨hkw, vs, H1, I1, rv, hl, hsp⟩ := h₂
  obtain rfl : akw = [] := hkw
  obtain ⟨hp, g, d, tk, os⟩ := s₂
  simp only [hplain]
  have hC1 := I1.kIn _ _ hC
  refine wpAny_bind (wpAny_keeperOf_exc hC1 ?_)
  refine wpAny_bind ?_
  have T : OwnTail hp vbm (.ref D :: vbm) := PySem.W.tail_of_in I1.kIn XC.tail
  have hNs : hp.Ns N (hp.nsMap N) := .of_isNs (PySem.W.isNs_of_in I1.kIn XC.nsok)
  refine call_exc2 (B := "ValueError") (Bn := "ValueError") (bmB := vbm) (bmN := vbm) PySem.F.excBase_ValueError rfl PySem.F.excBase_ValueError T hC1 hNs (ns_val_of I1.kIn hNs XC.init) (I1.kIn _ _ hoI) hoc ?_ ?_
  · intro h' ea hs hmk
    obtain ⟨tt, hget, _, _⟩ := hmk.there
    have I2 := I1.laid (a := ea) (o := XO ea C none) (t' := tk) (h' := h') hmk.keeps hs ⟨⟨tt, hget⟩, ⟨_, hget⟩, fun h1 h2 ⟨t, z⟩ z2 => ⟨t, z2 _ z⟩⟩
    have hq := hsp ea (I1.hok.fresh hs)
    have r2 : Vals (V.ref ea :: vs) (Value.ref ea :: apos) := .cons rfl rv
    have hln : (Value.ref ea :: apos ++ []).length = ps.length := by
      rw [List.append_nil, ← r2.length]
      exact F.len _ _ _ _ hq
    have hbn := hb _ (Value.ref ea :: apos) I2.kIn hln
    rw [List.append_nil] at hbn
    refine wpAny_call (codeAny_mono (F.run _ X.stack _ _ ⟨Value.ref ea :: apos, []⟩ (Value.ref ea :: apos) _ _ E0 (hr.make C apos []) (I2.env0.make C apos []) hbn r2 hq) fun r s' hq' => ?_)
    cases r with
    | error e' => exact False.elim hq'
    | ok fl =>
      cases fl with
      | ret u =>
        obtain ⟨v, H3, I3, ru, ev, dx, hH, hEE⟩ := I2.after hq'
        subst ev
        obtain ⟨t3, ht3⟩ := (show ∃ t, _ from ((I3.hok ea _ hH).1))
        refine ⟨ru, wpAny_bind (wpAny_holding (wpAny_point (wpAny_pure ⟨ea, t3, some dx, rfl, I3.kIn _ _ hC, ht3, ?_⟩)))⟩
        refine hout pins σ (unt H3 ea) s' ea _ _ (I3.forget hH) ⟨ht3, rfl, by show 1 < 6; decide, Nat.le_trans I1.sz hs, fun z => ?_, unt_same, .inl rfl⟩ hEE
        have := I1.lt
        rw [← z] at this
        exact Nat.lt_irrefl _ (Nat.lt_of_lt_of_le this hs)
      | next => exact False.elim hq'
      | brk => exact False.elim hq'
      | cont => exact False.elim hq'
  · show apos.length ≤ _
    rw [← (show Vals vs apos from rv).length]
    exact Nat.le_trans hl (by rw [sizeLine_eq]; decide)
end
end L2
namespace L2
open PySem PySem.Spec PyProof.Rows
section
variable {M : Model} {A : Around} {E : Value → Shared → Prop}
variable {nm q nmD qD : Str} {C N D ND : Addr} {bs bm bsD bmD : List Value} {hdct hdctD : Bool} {sn snD : List Str} {sub subD : List Value} {ab abD : Bool} {col colD : Option Bool} {dd ddD : Option Addr} {k0 k1 k2 k3 k5 j0 j1 j2 j3 j5 : Option Value} {newId newIdD : String}
theorem exc_sup {h : Heap} {g : Array GenState} {d : Drawn} {t : Nat} {os : OsState} {e : Addr} {oe : Obj} {Q : Bool → Shared → Prop}
    (hC : h.get? C = some (excClassObj nm q C N bs bm hdct sn sub ab col dd k0 k1 k2 k3 k5 newId)) (hD : h.get? D = some (excClassObj nmD qD D ND bsD bmD hdctD snD subD abD colD ddD j0 j1 j2 j3 j5 newIdD)) (he : h.get? e = some oe) (hcls : oe.cls = .ref C)
    (hbase : bmD.contains (.type "BaseException") = true) (hs : bm.contains (.ref D) = true) (hq : Q true ⟨h, g, d, t, os⟩) : wpAny M A (excMatches (.ref e) (.ref D)) Q E ⟨h, g, d, t, os⟩ := by
  have hcB : (Value.ref D :: bmD).contains (.type "BaseException") = true := by rw [List.contains_cons, hbase, Bool.or_true]
  have hcS : (Value.ref C :: bm).contains (.ref D) = true := by rw [List.contains_cons, hs, Bool.or_true]
  have f1 := tc_notTuple
  have hT : (⟨h, g, d, t, os⟩ : Shared).TypeIs (.ref D) "type" := ⟨_, hD, rfl⟩
  unfold excMatches
  repeat (any_goals (first | assumption | (with_reducible refine wpAny_loadPart_at he ?_; rw [hcls]) | with_reducible refine wpAny_loadPart_at hD ?_ | (with_reducible refine wpAny_isSubtype_exc hD ?_; rw [hcB]) | (with_reducible refine wpAny_isSubtype_exc hC ?_; rw [hcS]) | wp_step))
end
end L2
namespace L2
open PySem PySem.Spec PyProof.Rows
theorem gone_ok {X : Cx} {pins : List (Addr × Obj)} {σ : St} {H : Hp} {s : Shared} {M : Model} {A : Around} {E : Value → Shared → Prop} {i : Nat} {n : Str} {pos : Pos} {Q : Unit → Shared → Prop} (I : Inv X pins σ H s) (hN : X.N.Nodup) (hi : X.N[i]? = some n) (hk : X.env.scope.names.lookup n = some .local)
    (h : ∀ s', Inv X pins (σ.set i none) H s' → Q () s') : wpAny M A (do bindName X.env n .none; unbindBehindTheSuite X.env n pos) Q E s := by
  obtain ⟨m, hn, hl⟩ := id I.loc
  have hcls : (X.env.scope.kind == .class || (X.env.scope.kind == .module && X.env.locals != X.env.globals)) = false := by rw [I.ok.kind]; rfl
  have hiσ : i < σ.length := by rw [I.len]; exact (List.getElem?_eq_some_iff.mp hi).1
  have cne := I.cne
  have tracked : ∀ {a : Addr} {h' : Heap}, (∃ o, s.heap.get? a = some o ∧ H a = none) → Heap.SameBut a s.heap h' → HOk X.prog X.w H h' := fun {a h'} ha hs b ob e => by
    obtain ⟨_, _, hfree⟩ := ha
    refine (I.hok b ob e).stay (fun c w' hc q => (hs.2 c ?_).trans q) (fun _ q => q) fun _ _ q => q
    rintro rfl
    rcases hc with rfl | hc
    · rw [hfree] at e; cases e
    · rw [hfree] at hc; cases hc
  refine wpAny_nameGoes_keeps (show X.env.kindOf n = some .local from hk) hn hcls fun h' v hn' hs => ?_
  obtain ⟨oL, _, _, hoL, _⟩ := id hn
  refine h _ ⟨I.ok, I.os, I.bare, ⟨fun b o e n hb hx => ?_, fun b o e n hb hx => ?_, I.base.free, fun b o e hx => ?_, I.base.tups, I.base.frzs, I.base.tbls⟩, ⟨_, hn', fun j y v' e1 e2 e3 => ?_⟩, fun y c e => ?_, I.free, I.freeC, fun p hp => ?_, tracked ⟨oL, hoL, I.free⟩ hs, by simpa using I.len⟩
  · exact (hs.2 b (Nat.ne_of_lt (Nat.lt_of_lt_of_le (Heap.lt_size e) I.ok.above))).trans (I.base.keep b o e n hb hx)
  · obtain ⟨sl, e1⟩ := I.base.slot b o e n hb hx
    exact ⟨sl, (hs.2 b (Nat.ne_of_lt (Nat.lt_of_lt_of_le (Heap.lt_size e) I.ok.above))).trans e1⟩
  · obtain ⟨o', e1⟩ := I.base.there b o e hx
    exact ⟨o', (hs.2 b (Nat.ne_of_lt (Nat.lt_of_lt_of_le (Heap.lt_size e) I.ok.above))).trans e1⟩
  · by_cases hj : j = i
    · subst hj
      rw [List.getElem?_set_self hiσ] at e2
      cases e2
    · rw [List.getElem?_set_ne (Ne.symm hj)] at e2
      obtain ⟨u', r', q⟩ := hl j y v' e1 e2 e3
      refine ⟨u', r', ?_⟩
      rcases q with ⟨k, e⟩ | ⟨k, c, e, z⟩
      · refine .inl ⟨k, ?_⟩
        have : y ≠ n := fun e => hj (nodup_ix hN e1 (e ▸ hi))
        simp [this, e]
      · exact .inr ⟨k, c, e, z.sameBut hs (cne y c e)⟩
  · obtain ⟨w', z⟩ := I.cell y c e
    exact ⟨w', z.sameBut hs (cne y c e)⟩
  · obtain ⟨e, n, ne, nf, d⟩ := I.pin p hp
    exact ⟨(hs.2 p.1 ne).trans e, n, ne, nf, d⟩
end L2
namespace L2
open PySem PySem.Spec PyProof.Rows
theorem leave_n {prog : Program} {w : World} {A : Around} {E : Value → Shared → Prop} {s : Shared} {base : Heap} {env : Env} {outer : List Env} {L e : Addr} {oe : Obj} {vs : Array Value} {Q : Unit → Shared → Prop} (hfr : A.frames = some (env :: outer)) (hl : s.heap.FunFrames base (env :: outer)) (hf : env.frame = some L)
    (he : s.heap.get? e = some oe) (hd : oe.data = Data.fields vs) (h1s : 1 < vs.size) (hen : e ∉ List.filterMap (fun x => x.frame) (env :: outer))
    (ht : vs[1]? = some Value.none ∨ ∃ T ts, vs[1]? = some (Value.ref T) ∧ T ≠ e ∧ s.heap.get? T = some { cls := Value.type "traceback", data := Data.fields ts } ∧ ts[3]? = some Value.none)
    (hQ : ∀ (h' : Heap) (T : Addr) (ts : Array Value), h'.get? e = some { cls := oe.cls, dict := oe.dict, data := Data.fields (vs.setIfInBounds 1 (Value.ref T)), slots := oe.slots } → h'.get? T = some { cls := Value.type "traceback", data := Data.fields ts } → ts[3]? = some Value.none → T ≠ e → s.heap.objs.size ≤ T →
      (∀ b o, b ≠ e → b ∉ List.filterMap (fun x => x.frame) (env :: outer) → vs[1]? ≠ some (Value.ref b) → s.heap.get? b = some o → h'.get? b = some o) → (∀ b o, b ∈ List.filterMap (fun x => x.frame) (env :: outer) → s.heap.get? b = some o → ∃ sl, h'.get? b = some { cls := o.cls, dict := o.dict, data := o.data, slots := sl }) → Q () { s with heap := h' }) :
    wpAny (model prog w) A (noteFrame (Value.ref e) env) (fun _ s' => wpAny (model prog w) A (setFlight (Value.ref e) none) Q E s') E s := by
  have fin : ∀ (h₂ : Heap) (T : Addr) (ts : Array Value), h₂.get? e = some { cls := oe.cls, dict := oe.dict, data := Data.fields (vs.setIfInBounds 1 (Value.ref T)), slots := oe.slots } → h₂.get? T = some { cls := Value.type "traceback", data := Data.fields ts } → ts[3]? = some (rawInt L) → T ≠ e → s.heap.objs.size ≤ T → T ∉ List.filterMap (fun x => x.frame) (env :: outer) →
      (∀ b o, b ≠ e → b ∉ List.filterMap (fun x => x.frame) (env :: outer) → vs[1]? ≠ some (Value.ref b) → s.heap.get? b = some o → h₂.get? b = some o) → (∀ b o, b ∈ List.filterMap (fun x => x.frame) (env :: outer) → s.heap.get? b = some o → ∃ sl, h₂.get? b = some { cls := o.cls, dict := o.dict, data := o.data, slots := sl }) →
      wpAny (model prog w) A (setFlight (Value.ref e) none) Q E { s with heap := h₂ } := fun h₂ T ts g1 g2 g3 g4 g5 g6 g7 g8 => by
    unfold setFlight
    have v1 : (vs.setIfInBounds 1 (Value.ref T))[1]? = some (Value.ref T) := by
      rw [Array.getElem?_setIfInBounds_self_of_lt h1s]
    refine wpAny_bind (wpAny_field g1 rfl v1 (wpAny_ite_true rfl ?_))
    refine wpAny_setField_rec (s := { s with heap := h₂ }) g2 (Array.getElem?_eq_some_iff.mp g3).1 fun h₃ q1 q2 => ?_
    refine hQ h₃ T _ ((q2.2 e (Ne.symm g4)).trans g1) q1 ?_ g4 g5 (fun b o c1 c2 c3 g => ?_) (fun b o c1 g => ?_)
    · rw [Array.getElem?_setIfInBounds_self_of_lt (Array.getElem?_eq_some_iff.mp g3).1]
      rfl
    · have hb : b ≠ T := fun z => by
        have := Heap.lt_size g
        rw [z] at this
        exact absurd this (Nat.not_lt.mpr g5)
      exact (q2.2 b hb).trans (g7 b o c1 c2 c3 g)
    · obtain ⟨sl, q⟩ := g8 b o c1 g
      exact ⟨sl, (q2.2 b fun z => g6 (by rw [← z]; exact c1)).trans q⟩
  unfold noteFrame
  rw [hf]
  have fresh : ∀ {T : Addr}, s.heap.objs.size ≤ T → T ∉ List.filterMap (fun x => x.frame) (env :: outer) := fun {T} hT hm => by
    obtain ⟨_, o, g, _⟩ := hl.mem hm
    exact absurd (Heap.lt_size g) (Nat.not_lt.mpr hT)
  rcases ht with ht | ⟨T0, ts0, ht, hTe, hT0, h30⟩
  · refine wpAny_bind (wpAny_field he hd ht (wpAny_ite_false rfl ?_))
    exact note_x hfr hl hf he hd h1s hen fun h₂ T ts g1 g2 g3 g4 g5 g6 g7 => fin h₂ T ts g1 g2 g3 g4 g5 (fresh g5) (fun b o c1 c2 _ g => g6 b o c1 c2 g) g7
  · refine wpAny_bind (wpAny_field he hd ht (wpAny_ite_true rfl ?_))
    refine wpAny_bind (wpAny_field hT0 rfl h30 (wpAny_ite_false rfl ?_))
    refine wpAny_bind (wpAny_setField_rec hT0 (Array.getElem?_eq_some_iff.mp h30).1 fun h₁ q1 q2 => ?_)
    have hT0f : T0 ∉ List.filterMap (fun x => x.frame) (env :: outer) := fun hm => by
      obtain ⟨_, o, g, nf⟩ := hl.mem hm
      rw [hT0] at g
      cases g
      exact nf _ rfl
    have hl1 : h₁.FunFrames base (env :: outer) := hl.of_keeps fun b o g nf => ⟨o, (q2.2 b fun z => by rw [z, hT0] at g; cases g; exact nf _ rfl).trans g, rfl⟩
    refine note_x (s := { s with heap := h₁ }) hfr hl1 hf ((q2.2 e (Ne.symm hTe)).trans he) hd h1s hen fun h₂ T ts g1 g2 g3 g4 g5 g6 g7 => ?_
    have g5' : s.heap.objs.size ≤ T := by rw [← q2.1]; exact g5
    refine fin h₂ T ts g1 g2 g3 g4 g5' (fresh g5') (fun b o c1 c2 c3 g => g6 b o c1 c2 ((q2.2 b fun z => c3 (by rw [z]; exact ht)).trans g)) fun b o c1 g => ?_
    exact g7 b o c1 ((q2.2 b fun z => hT0f (by rw [← z]; exact c1)).trans g)
theorem handle_sup {prog : Program} {w : World} {A : Around} {E : Value → Shared → Prop} {s : Shared} {env : Env} {e : Addr} {D : Addr} {t : Expr} {n : Str} {b₀ : Stmt} {suite : List Stmt} {pos : Pos} {rest : List ExceptHandler} {Q : Flow → Shared → Prop}
    (h : wpAny (model prog w) (A.mark (some (.ref e))) (eval t env) (fun c s₁ => c = .ref D ∧ (∀ (Q' : Bool → Shared → Prop) A' E', Q' true s₁ → wpAny (model prog w) A' (excMatches (.ref e) (.ref D)) Q' E' s₁) ∧
      wpAny (model prog w) (A.mark (some (.ref e))) (setFlight (.ref e) none) (fun _ s₂ =>
          wpAny (model prog w) (A.mark (some (.ref e))) (storeName env n (.ref e)) (fun _ s₃ =>
            wpAny (model prog w) (A.mark (some (.ref e))) (execs (b₀ :: suite) env)
              (fun f s₄ => wpAny (model prog w) A (do bindName env n .none; unbindBehindTheSuite env n pos) (fun _ s₅ => Q f s₅) E s₄)
              (AsSuiteRaised (model prog w) (A.mark (some (.ref e))) env n pos (notedBy (model prog w) (A.mark (some (.ref e))) env (cameBackBy (model prog w) A env E))) s₃) (notedBy (model prog w) (A.mark (some (.ref e))) env (cameBackBy (model prog w) A env E)) s₂) (notedBy (model prog w) (A.mark (some (.ref e))) env (cameBackBy (model prog w) A env E)) s₁) (notedBy (model prog w) (A.mark (some (.ref e))) env (cameBackBy (model prog w) A env E)) s) :
    wpAny (model prog w) A (handleBy (.ref e) env (.ExceptHandler (some t) (some n) (b₀ :: suite) pos :: rest)) Q E s := by
  refine wpAny_handleBy_cons (codeAny_handlers_test (wpAny_mono h (fun c s₁ h₁ => ?_) fun _ _ y => y)) (by intro q; cases q)
  obtain ⟨rfl, hm, hk⟩ := h₁
  exact hm _ _ _ (codeAny_handlers_suite_as hk)
def tryC (X : Cx) (pins : List (Addr × Obj)) (xe : Value → Shared → Prop) : Cx := { X with xe := xe, pn := X.pn ++ pins }
def markC (X : Cx) (x : Addr) : Cx := { X with A := X.A.mark (some (.ref x)), calm := false, xe := fun _ _ => False }
section
variable {X : Cx} {pins pins' : List (Addr × Obj)} {σ : St} {H : Hp} {s : Shared} {xe : Value → Shared → Prop} {x : Addr}
theorem inv_try (I : Inv X pins σ H s) : Inv (tryC X pins xe) [] σ H s :=
  ⟨⟨I.ok.mod, I.ok.kind, I.ok.glob, I.ok.blt, I.ok.above, I.ok.inj, I.ok.has, I.ok.cab, I.ok.hd, I.ok.frames, I.ok.stk, I.ok.exf, I.ok.bs, I.ok.bsz, I.ok.noex, I.ok.exfs, I.ok.funs, I.ok.frf⟩, I.os, I.bare, I.base, I.loc, I.cell, I.free, I.freeC,
    fun p hp => I.pin p (by rw [List.append_nil] at hp; exact hp), I.hok, I.len⟩
theorem inv_tried (I : Inv (tryC X pins xe) pins' σ H s) : Inv X pins σ H s :=
  ⟨⟨I.ok.mod, I.ok.kind, I.ok.glob, I.ok.blt, I.ok.above, I.ok.inj, I.ok.has, I.ok.cab, I.ok.hd, I.ok.frames, I.ok.stk, I.ok.exf, I.ok.bs, I.ok.bsz, I.ok.noex, I.ok.exfs, I.ok.funs, I.ok.frf⟩, I.os, I.bare, I.base, I.loc, I.cell, I.free, I.freeC,
    fun p hp => I.pin p (List.mem_append_left _ hp), I.hok, I.len⟩
theorem inv_mark (I : Inv X pins σ H s) : Inv (markC X x) pins σ H s :=
  ⟨⟨I.ok.mod, I.ok.kind, I.ok.glob, I.ok.blt, I.ok.above, I.ok.inj, I.ok.has, I.ok.cab, fun z => (nomatch z), I.ok.frames, I.ok.stk, I.ok.exf, I.ok.bs, I.ok.bsz, I.ok.noex, I.ok.exfs, I.ok.funs, I.ok.frf⟩, I.os, I.bare, I.base, I.loc, I.cell, I.free, I.freeC, I.pin, I.hok, I.len⟩
theorem inv_marked (ok : X.Ok) (I : Inv (markC X x) pins σ H s) : Inv X pins σ H s :=
  ⟨ok, I.os, I.bare, I.base, I.loc, I.cell, I.free, I.freeC, I.pin, I.hok, I.len⟩
theorem sp_tried {D : Ends} {f : Flow} (h : SP (tryC X pins xe) [] D f s) : SP X pins D f s := by
  cases f with
  | next => obtain ⟨σ', H', I, q⟩ := h; exact ⟨σ', H', inv_tried I, q⟩
  | brk => obtain ⟨σ', H', I, q⟩ := h; exact ⟨σ', H', inv_tried I, q⟩
  | cont => obtain ⟨σ', H', I, q⟩ := h; exact ⟨σ', H', inv_tried I, q⟩
  | ret u => obtain ⟨v, σ', H', I, r, q⟩ := h; exact ⟨v, σ', H', inv_tried I, r, q⟩
end
end L2
namespace L2
open PySem PySem.Spec PyProof.Rows
def XR (x C : Addr) (dx : Option Addr) : HO := .ext fun h => ∃ vs sl, h.get? x = some { cls := .ref C, dict := dx, data := .fields vs, slots := sl }
def tbOf : Option Value → List Addr
  | some (.ref b) => [b]
  | _ => []
theorem mem_tbOf {o : Option Value} {b : Addr} (h : b ∈ tbOf o) : o = some (.ref b) := by
  unfold tbOf at h
  split at h
  · rw [List.mem_singleton.mp h]
  · cases h
structure Noted (s : Shared) (x T : Addr) (ox : Obj) (vs ts : Array Value) : Prop where
  at_ : s.heap.get? x = some ox
  dat : ox.data = .fields vs
  one : vs[1]? = some (.ref T)
  ent : s.heap.get? T = some { cls := .type "traceback", data := .fields ts }
  fl : ts[3]? = some .none
  ne : T ≠ x
section
variable {X : Cx} {pins : List (Addr × Obj)} {σ : St} {H1 H2 : Hp} {s1 s2 : Shared} {x C : Addr} {ox : Obj} {vs : Array Value}
theorem caught_x {E : Value → Shared → Prop} {Q : Unit → Shared → Prop} (hstk : X.stack = X.env :: X.outer ∧ X.env.frame = some X.env.locals) (I1 : Inv X pins σ H1 s1) (L : Lies s1 s2 H2 x ox vs) (hc : ox.cls = .ref C)
    (hos : s2.os = s1.os) (hg : AllBare s2.gens) (un : Un (frs X.stack) [] H1 H2 s1.heap s2.heap) (hok : HOk X.prog X.w H2 s2.heap)
    (hQ : ∀ s3 T ox3 vs3 ts, Inv X pins σ (upd H2 x (XR x C ox.dict)) s3 → Noted s3 x T ox3 vs3 ts → Q () s3) :
    wpAny (model X.prog X.w) X.A (noteFrame (.ref x) X.env) (fun _ s' => wpAny (model X.prog X.w) X.A (setFlight (.ref x) none) Q E s') E s2 := by
  have I2 : Inv X pins σ H2 s2 := I1.call' (ch := []) hos un hok hg (fun b z => absurd z (by simp))
  have hfree := I2.stkFree
  have hst := I2.stack
  have hfrm := I2.ok.frames
  have hold : ∀ b o, s1.heap.get? b = some o → b ≠ x := fun b o g z => by
    have h1 := Heap.lt_size g
    have h2 := L.new
    rw [z] at h1
    exact absurd (Nat.lt_of_lt_of_le h1 h2) (Nat.lt_irrefl _)
  have hen : x ∉ frs X.stack := fun hm => by
    obtain ⟨_, o, g, _⟩ := I1.stack.mem hm
    exact hold x o g rfl
  rw [hstk.1] at hen hst hfrm
  have hT0 : ∀ b, vs[1]? = some (Value.ref b) → s1.heap.objs.size ≤ b ∧ H2 b = none := fun b hb => by
    rcases L.tb with z | ⟨T0, _, z, _, _, _, z5, z6⟩
    · rw [z] at hb; cases hb
    · rw [z] at hb; cases hb; exact ⟨z5, z6⟩
  refine leave_n (base := X.base) (outer := X.outer) (L := X.env.locals) hfrm hst hstk.2 L.at_ L.dat L.siz hen ?_ ?_
  · rcases L.tb with z | ⟨T, ts, z1, z2, z3, z4, _, _⟩
    · exact .inl z
    · exact .inr ⟨T, ts, z1, z2, z3, z4⟩
  · intro h' T ts g1 g2 g3 g4 g5 g6 g7
    let chs : List Addr := x :: tbOf vs[1]?
    have hchs : ∀ b ∈ chs, b = x ∨ vs[1]? = some (.ref b) := fun b hb => by
      rcases List.mem_cons.mp hb with z | z
      · exact .inl z
      · exact .inr (mem_tbOf z)
    have hch2 : ∀ b, vs[1]? = some (.ref b) → b ∈ chs := fun b hb => by
      show b ∈ x :: tbOf vs[1]?
      rw [hb]
      exact List.mem_cons_of_mem _ (List.mem_singleton.mpr rfl)
    have hnew : ∀ b ∈ chs, s1.heap.objs.size ≤ b := fun b hb => by
      rcases hchs b hb with z | z
      · rw [z]; exact L.new
      · exact (hT0 b z).1
    have hno : ∀ b ∈ chs, ∀ c o, s1.heap.get? c = some o → c ≠ b := fun b hb c o g z => by
      have h1 := Heap.lt_size g
      rw [z] at h1
      exact absurd (Nat.lt_of_lt_of_le h1 (hnew b hb)) (Nat.lt_irrefl _)
    have hfr2 : ∀ b, b ∉ frs X.stack → b ∉ List.filterMap (fun x => x.frame) (X.env :: X.outer) := fun b hb => by
      rw [hstk.1] at hb
      exact hb
    have hfr3 : ∀ b, b ∈ frs X.stack → b ∈ List.filterMap (fun x => x.frame) (X.env :: X.outer) := fun b hb => by
      rw [hstk.1] at hb
      exact hb
    have u3 : Un (frs X.stack) chs H2 (upd H2 x (XR x C ox.dict)) s2.heap h' := by
      refine ⟨fun b o g n hf hx => ?_, fun b o g n hf hx => ?_, fun b o g n hx => ?_, fun b o g hx => ?_, fun b xs e => ?_, fun b o u e => ?_, fun b ps e => ⟨#[], ?_⟩⟩
      · exact g6 b o (fun z => hx (by rw [z]; exact List.mem_cons_self)) (hfr2 b hf) (fun z => hx (hch2 b z)) g
      · exact g7 b o (hfr3 b hf) g
      · rw [upd_ne (fun z => hx (by rw [z]; exact List.mem_cons_self)), n]
      · by_cases hm : b ∈ frs X.stack
        · obtain ⟨sl, g''⟩ := g7 b o (hfr3 b hm) g
          exact ⟨_, g''⟩
        · exact ⟨_, g6 b o (fun z => hx (by rw [z]; exact List.mem_cons_self)) (hfr2 b hm) (fun z => hx (hch2 b z)) g⟩
      · rw [upd_ne (fun z => by rw [z, L.fre] at e; cases e), e]
      · rw [upd_ne (fun z => by rw [z, L.fre] at e; cases e), e]
      · rw [upd_ne (fun z => by rw [z, L.fre] at e; cases e), e, Array.append_empty]
    have hok3 : HOk X.prog X.w (upd H2 x (XR x C ox.dict)) h' := by
      intro a o ha
      by_cases z : a = x
      · subst z
        rw [upd_same] at ha
        cases ha
        rw [hc] at g1
        exact ⟨⟨_, _, g1⟩, ⟨_, g1⟩, fun h1 h2 ⟨v, sl, z⟩ z2 => ⟨v, sl, z2 _ z⟩⟩
      · rw [upd_ne z] at ha
        refine (I2.hok a o ha).stay (fun b u hb gb => ?_) (fun b hb => by rw [upd_ne (fun z => by rw [z, L.fre] at hb; cases hb), hb]) fun b xs hb => by rw [upd_ne (fun z => by rw [z, L.fre] at hb; cases hb), hb]
        have hb' : H2 b ≠ none := by
          rcases hb with rfl | hb
          · rw [ha]; exact fun z => nomatch z
          · rw [hb]; exact fun z => nomatch z
        exact g6 b u (fun z => hb' (by rw [z]; exact L.fre)) (fun z => hb' (hfree b (by rw [hstk.1]; exact z))) (fun z => hb' (hT0 b z).2) gb
    have I3 : Inv X pins σ (upd H2 x (XR x C ox.dict)) { s2 with heap := h' } := by
      refine I2.call (g' := s2.gens) (t' := s2.toks) (d' := s2.drawn) (ch := chs) u3 hok3 hg fun b hb => ⟨.inr (Nat.le_trans I1.sz (hnew b hb)), fun z => ?_, fun y c e z => ?_, fun p hp z => ?_⟩
      · obtain ⟨m, ⟨o, _, _, ho, _⟩, _⟩ := I1.loc
        exact hno b hb _ o ho z.symm
      · obtain ⟨v, o, ho, _⟩ := I1.cell y c e
        exact hno b hb c o ho z
      · obtain ⟨e, _⟩ := I1.pin p hp
        exact hno b hb p.1 p.2 e z
    exact hQ _ T _ _ ts I3 ⟨g1, rfl, by rw [Array.getElem?_setIfInBounds_self_of_lt L.siz], g2, g3, g4⟩
theorem set_same {ts : Array Value} {i : Nat} {v : Value} (h : ts[i]? = some v) : ts.setIfInBounds i v = ts := by
  apply Array.ext_getElem?
  intro j
  rw [Array.getElem?_setIfInBounds]
  split
  · rename_i z
    subst z
    split
    · exact h.symm
    · rename_i z
      have := (Array.getElem?_eq_some_iff.mp h).1
      exact absurd this z
  · rfl
theorem flight_x {prog : Program} {w : World} {A : Around} {E : Value → Shared → Prop} {Q : Unit → Shared → Prop} {H : Hp} {s : Shared} {T : Addr} {ts : Array Value} (I : Inv X pins σ H s) (n : Noted s x T ox vs ts) (hQ : ∀ s', Inv X pins σ H s' → Q () s') : wpAny (model prog w) A (setFlight (.ref x) none) Q E s := by
  unfold setFlight
  refine wpAny_bind (wpAny_field n.at_ n.dat n.one (wpAny_ite_true rfl ?_))
  refine wpAny_setField_rec n.ent (Array.getElem?_eq_some_iff.mp n.fl).1 fun h₃ q1 q2 => ?_
  refine hQ _ (I.kept (t' := s.toks) fun b u g => ?_)
  by_cases z : b = T
  · subst z
    rw [n.ent] at g
    cases g
    rw [q1]
    exact congrArg (fun a => some ({ cls := Value.type "traceback", data := Data.fields a } : Obj)) (set_same n.fl)
  · exact (q2.2 b z).trans g
end
end L2
namespace L2
open PySem PySem.Spec PyProof.Rows
section
variable {X : Cx} {C D N fI ND : Addr} {dn n : Str} {i : Nat} {body suite : List Stmt} {b₀ : Stmt} {np hpos pos : Pos} {tb : XK → TS} {ts : TS}
def endsTry (i : Nat) (Dn : Ends) : Ends := { nx := fun σ H => Dn.nx (σ.set i none) H, rt := Dn.rt, bk := fun σ H => Dn.bk (σ.set i none) H, ct := fun σ H => Dn.ct (σ.set i none) H }
def xkTry (C : Addr) (len i : Nat) (ts : TS) (Dn : Ends) : XK := fun c dx H' => c = .ref C ∧ ∀ (x : Addr) (σ' : St), σ'.length = len → H' x = none → ts (endsTry i Dn) (σ'.set i (some (.ref x))) (upd H' x (XR x C dx))
def tTry (C : Addr) (len i : Nat) (tb : XK → TS) (ts : TS) : TS := fun Dn σ H => tb (xkTry C len i ts Dn) Dn σ H
structure XTop (K : PySem.W.Frag) (D ND : Addr) : Prop where
  obj : ∃ nm q bs hd sn sub ab col dd k0 k1 k2 k3 k5 nid, K.lookup D = some (excClassObj nm q D ND bs vbm hd sn sub ab col dd k0 k1 k2 k3 k5 nid)
theorem ps_try (hstk : X.stack = X.env :: X.outer ∧ X.env.frame = some X.env.locals) (hN : X.N.Nodup) (hi : X.N[i]? = some n) (hk : X.env.scope.names.lookup n = some .local) (hg : Gl X dn) (hm : X.mg dn = some (.ref D)) (XD : XTop X.K D ND) (XC : XCls X.K C D N fI)
    (hbody : ∀ (E1 : XK) (xe : Value → Shared → Prop) (pins : List (Addr × Obj)), Passes (CX1 X.prog X.w) (tryC X pins xe) E1 → PSs (tryC X pins xe) body (tb E1)) (hsuite : ∀ x, PSs (markC X x) (b₀ :: suite) ts) (hdb : (dn == ("__debug__" : Str)) = false := by decide) :
    PS X (.Try body [.ExceptHandler (some (.Name dn np)) (some n) (b₀ :: suite) hpos] [] [] pos) (tTry C X.N.length i tb ts) := by
  intro pins s σ H Dn I h
  obtain ⟨nm, q', bs, sn, sub, ab, col, dd, k0, k1, k2, k3, k5, hC⟩ := XC.obj
  obtain ⟨nmD, qD, bsD, hdD, snD, subD, abD, colD, ddD, j0, j1, j2, j3, j5, nid, hD⟩ := XD.obj
  refine wpAny_Try_except ?_
  have hb := hbody (xkTry C X.N.length i ts Dn) (fun e s₁ => wpAny (model X.prog X.w) X.A (noteFrame e X.env) (fun _ s₂ => wpAny (model X.prog X.w) X.A (setFlight e none) (fun _ s₃ => wpAny (model X.prog X.w) X.A (handleBy e X.env [.ExceptHandler (some (.Name dn np)) (some n) (b₀ :: suite) hpos]) (SP X pins Dn) X.xe s₃) X.xe s₂) X.xe s₁) pins ?_ [] s σ H Dn (inv_try I) h
  · refine wpAny_mono hb (fun f s' hs => ?_) (fun e s' hs => hs)
    cases f with
    | next => exact wpAny_pure (sp_tried hs)
    | brk => exact sp_tried hs
    | cont => exact sp_tried hs
    | ret u => exact sp_tried hs
  · intro pins' σ' H1 s1 e s2 I1 ⟨x, ox, vs, H2, he, L, hos, hgn, un, hok, hc, hts⟩
    subst he
    show wpAny (model X.prog X.w) X.A (noteFrame (.ref x) X.env) _ _ s2
    refine caught_x hstk (inv_tried I1) L hc hos hgn un hok fun s3 T ox3 vs3 tts I3 n3 => ?_
    refine handle_sup (D := D) ?_
    refine Calls.Name_function_global I3.ok.kind hg (Calls.loadGlobal_global (by rw [I3.ok.glob]; exact I3.mod.glob.keeps I3.bk) hm ⟨rfl, fun Q' A' E' q => ?_, ?_⟩) hdb
    · obtain ⟨vx, sx, hx⟩ := (show ∃ vs sl, _ from (I3.hok x _ upd_same).1)
      obtain ⟨hh, g, d, tk, os⟩ := s3
      exact exc_sup (I3.kIn _ _ hC) (I3.kIn _ _ hD) hx rfl rfl (by rw [List.contains_cons, beq_self_eq_true, Bool.true_or]) q
    · refine flight_x I3 n3 fun s4 I4 => store_ok I4 hN hi (.inl hk) (show RelV (.ref x) (.ref x) from rfl) (fun s5 I5 => ?_) (.inr hk)
      have hs5 := hsuite x pins s5 _ _ (endsTry i Dn) (inv_mark I5) (hts x σ' (inv_tried I1).len L.fre)
      refine wpAny_mono hs5 (fun f s6 hs => ?_) (fun e s6 z => z.elim)
      cases f with
      | next =>
        obtain ⟨σ6, H6, I6, q6⟩ := hs
        exact gone_ok (inv_marked I5.ok I6) hN hi hk fun s7 I7 => ⟨_, _, I7, q6⟩
      | brk =>
        obtain ⟨σ6, H6, I6, q6⟩ := hs
        exact gone_ok (inv_marked I5.ok I6) hN hi hk fun s7 I7 => ⟨_, _, I7, q6⟩
      | cont =>
        obtain ⟨σ6, H6, I6, q6⟩ := hs
        exact gone_ok (inv_marked I5.ok I6) hN hi hk fun s7 I7 => ⟨_, _, I7, q6⟩
      | ret u =>
        obtain ⟨v, σ6, H6, I6, r6, q6⟩ := hs
        exact gone_ok (inv_marked I5.ok I6) hN hi hk fun s7 I7 => ⟨v, _, _, I7, r6, q6⟩
end
end L2
namespace L2
open PySem PySem.Spec PyProof.Rows
open PySem.W (Frag clsIn findIn takerIn InstAt looks_clsIn looks_findIn looks_takesIn looks_specialIn specialIn takesIn Looks check_slot looks_mroIn mroIn handedIn handedOut_of class_get KitX)
open Builtin Builtin.ObjectAttr
structure XIs (K : Frag) (C : Addr) : Prop where
  ga : findIn K (.ref C) "__getattribute__" = some (some (.builtin "BaseException.__getattribute__"))
  gk : findIn K (.ref C) "__getattr__" = some none
  ha : findIn K (.ref C) "__class__" = some (some (.builtin "object.__class__"))
  hn : specialIn K (.builtin "object.__class__") "__get__" = some (some (.builtin "getset_descriptor.__get__"))
  htk : takesIn K (.builtin "object.__class__") = some true
  hm : mroIn K C (.type "object") = some true
  hb : mroIn K C (.type "BaseException") = some true
  cl : (clsIn K C).isSome = true
section
variable {prog : Program} {w : World} {A : Around} {E : Value → Shared → Prop} {s : Shared} {K : Frag} {x C : Addr} {ox : Obj} {od : Option Obj}
theorem class_x {Q : Option Value → Shared → Prop} (Z : XIs K C) (X : K.In s.heap) (I : InstAt s.heap x ox C od) (hq : Q (some (.ref C)) { s with toks := s.toks + 1 }) :
    wpAny (model prog w) A (getAttr? (.ref x) "__class__") Q E s := by
  have IT : Looks (model prog w) s.heap (typeOf (.ref x)) (.ref C) := I.type
  have L1 : Looks (model prog w) s.heap (typeLookup (.ref C) "__getattribute__") (some (.builtin "BaseException.__getattribute__")) := looks_findIn X Z.ga
  have LK : Looks (model prog w) s.heap (typeLookup (.ref C) "__getattr__") none := looks_findIn X Z.gk
  have LF : Looks (model prog w) s.heap (typeLookup (.ref C) "__class__") (some (.builtin "object.__class__")) := looks_findIn X Z.ha
  have LN : Looks (model prog w) s.heap (specialOf (.builtin "object.__class__") "__get__") (some (.builtin "getset_descriptor.__get__")) := looks_specialIn X Z.hn
  have LT : Looks (model prog w) s.heap (takesStores (.builtin "object.__class__")) true := looks_takesIn X Z.htk
  have sub : Looks (model prog w) s.heap (isInstance (.ref x) (.type "BaseException")) true := IT.andThen (looks_mroIn X Z.hb)
  have FB := PySem.F.attrBase_ValueError
  unfold getAttr? getAttrBy?
  refine wpAny_bind (wpAny_mkText (wpAny_bind (wpAny_attempt ?_)))
  unfold getAttrBy
  refine wpAny_holding (wpAny_bind (IT _ _ _ _ (fun _ _ e => e) (wpAny_bind (L1 _ _ _ _ (fun _ _ e => e) ?_))))
  dsimp only
  have hx2 : (Value.builtin "BaseException.__getattribute__" == Value.builtin "object.__getattribute__") = false := by decide +kernel
  rw [show (onTheHeap (Value.ref C) && Value.builtin "BaseException.__getattribute__" == Value.builtin "object.__getattribute__") = false from by rw [hx2]; rfl, if_neg (by decide)]
  unfold getAttrByItsOwn
  have HB : Looks (model prog w) s.heap (hookBefore (.ref C)) none := by
    unfold hookBefore
    rw [if_pos (show onTheHeap (Value.ref C) = true from rfl)]
    exact LK
  refine wpAny_bind (HB _ _ _ _ (fun _ _ e => e) (wpAny_bind (wpAny_attempt (wpAny_holding ?_))))
  unfold callGetattribute
  rw [show (false && onTheHeap (Value.builtin "BaseException.__getattribute__")) = false from rfl, if_neg (by decide)]
  unfold boundAndCalled
  rw [FB.ga.bind]
  refine wpAny_bind (wpAny_pure ?_)
  show wpAny _ _ (call (.builtin "BaseException.__getattribute__") [.ref x, .str "__class__" s.toks]) _ _ _
  refine wpAny_call ?_
  refine codeAny_call_builtin FB.ga.plain F.entry_bexc_ga ?_
  refine @check_slot (model prog w) _ _ { s with toks := s.toks + 1 } "BaseException.__getattribute__" "BaseException" "__getattribute__" (.ref x) [.str "__class__" s.toks] [] _ (by decide +kernel) (by decide +kernel) sub (F.args_bexc_ga (.ref x) (.str "__class__" s.toks)) ?_
  unfold Builtin.«object.__getattribute__»
  have LD : Looks (model prog w) s.heap (dataDescriptor? (some (.builtin "object.__class__")) (some (.builtin "getset_descriptor.__get__"))) (some (.builtin "getset_descriptor.__get__", .builtin "object.__class__")) := LT.andThen .now
  have LV : Looks (model prog w) s.heap (find (.ref x) (.ref C) "__class__") (.bind (.builtin "getset_descriptor.__get__") (.builtin "object.__class__")) := by
    refine LF.andThen (LN.andThen (LD.andThen ?_))
    exact Looks.tag .now
  refine wpAny_bind (wpAny_pure (wpAny_bind (wpAny_pure (wpAny_bind (IT _ _ _ _ (fun _ _ e => e) (wpAny_bind (LV _ _ _ _ (fun _ _ e => e) ?_)))))))
  show wpAny _ _ (holding [.builtin "object.__class__"] (call (.builtin "getset_descriptor.__get__") [.builtin "object.__class__", .ref x, .ref C]) >>= ret) _ _ _
  refine wpAny_bind (wpAny_holding (wpAny_call (class_get (s := { s with toks := s.toks + 1 }) X I Z.hm ?_)))
  refine wpAny_pure ?_
  show wpAny _ _ (handedOut (.ref C)) _ _ _
  rw [handedOut_of (show handedIn (.ref C) = true from rfl)]
  exact wpAny_pure (wpAny_pure hq)
theorem kitx_exc (Z : XIs K C) : KitX K (.ref x) (.ref C) (fun h => ∃ ox od, InstAt h x ox C od) where
  ty := fun _ _ _ ⟨_, _, I⟩ => I.type
  it := fun _ _ X _ => by
    have hcD := Z.cl
    unfold clsIn at hcD
    split at hcD
    · rename_i c' d' cd' sl' ho
      intro A' Q' E' s' k q
      unfold isType loadHead
      exact wpAny_bind (wpAny_loadPart (k _ _ (X _ _ ho)) (wpAny_pure q))
    · cases hcD
  ne := fun h tp dd its n sl X htp => by
    have hcD := Z.cl
    refine Bool.eq_false_iff.mpr fun q => ?_
    have e : C = tp := Value.ref.inj (beq_iff_eq.mp q)
    subst e
    unfold clsIn at hcD
    split at hcD
    · rename_i c' d' cd' sl' ho
      have z := (X _ _ ho).symm.trans htp
      cases z
    · cases hcD
  ca := fun X ⟨_, _, I⟩ k => class_x Z X I k
end
section
variable {X : Cx} {pins : List (Addr × Obj)} {σ : St} {H : Hp} {s : Shared} {A : Around} {E : Value → Shared → Prop} {Q : Value → Shared → Prop} {c : Value} {b : Bool} {x C dx : Addr} {fs : List (Str × V)}
theorem inst_xr (I : Inv X pins σ H s) (hx : H x = some (XR x C (some dx))) (hd : H dx = some (.xd fs)) : ∃ ox od, InstAt s.heap x ox C od := by
  obtain ⟨vs, sl, h1⟩ := (show ∃ vs sl, _ from (I.hok x _ hx).1)
  obtain ⟨mA, ⟨od, es, ep, h2, _⟩, _⟩ := (show ObjOk X.prog X.w H s.heap dx (.xd fs) from I.hok dx _ hd)
  exact ⟨_, some od, h1, rfl, rfl, h2⟩
theorem isinst_x (Z : XIs X.K C) (I : Inv X pins σ H s) (hx : H x = some (XR x C (some dx))) (hd : H dx = some (.xd fs)) (e : PySem.W.kitOne X.K (.ref C) c = some b) (h : ∀ tk, Q (.bool b) { s with toks := tk }) :
    wpAny (model X.prog X.w) A (call (.builtin "isinstance") [.ref x, c]) Q E s :=
  PySem.W.kia_one (kitx_exc Z) I.kIn (inst_xr I hx hd) e (fun z => nomatch z) h
theorem handed_rel : ∀ {y : V} {u : Value}, RelV y u → handedIn u = true
  | .non, _, r => by rw [show _ = Value.none from r]; rfl
  | .bl _, _, r => by rw [show _ = Value.bool _ from r]; rfl
  | .int _, _, ⟨_, r⟩ => by rw [r]; rfl
  | .str _, _, ⟨_, r⟩ => by rw [r]; rfl
  | .byt _, _, ⟨_, r⟩ => by rw [r]; rfl
  | .flt _, _, ⟨_, r⟩ => by rw [r]; rfl
  | .ref _, _, r => by rw [show _ = Value.ref _ from r]; rfl
  | .ty _, _, r => by rw [show _ = Value.type _ from r]; rfl
variable {D N fI : Addr} {e : Expr} {f : Str} {pos : Pos} {ta : TE}
def tFldX (K : PySem.W.Frag) (C : Addr) (ta : TE) (f : Str) : TE := fun σ H Q => ta σ H fun v H1 => ∃ x dx fs y, v = .ref x ∧ H1 x = some (XR x C (some dx)) ∧ H1 dx = some (.xd fs) ∧ fs.lookup f = some y ∧ findIn K (.ref C) f = some none ∧ Q y H1
theorem pe_fldX (XC : XCls X.K C D N fI) (he : PE X e ta) (hb : attributeBase e f X.env (eval e X.env) = eval e X.env) : PE X (.Attribute e f pos) (tFldX X.K C ta f) := by
  intro pins s σ H Q I h
  refine attr_of hb (thn (he pins s σ H _ I h) fun u s1 ⟨v, H1, I1, rv, x, dx, fs, y, ev, hx, hd, hf, hno, q⟩ => ?_)
  subst ev
  obtain rfl : u = Value.ref x := rv
  obtain ⟨cd, c1, c2, c3⟩ := XC.cls
  obtain ⟨vs, sl, h1⟩ := (show ∃ vs sl, _ from (I1.hok x _ hx).1)
  obtain ⟨mA, h2, h3⟩ := (show ObjOk X.prog X.w H1 s1.heap dx (.xd fs) from I1.hok dx _ hd)
  have h4 := h3 f
  rw [hf] at h4
  cases hm : mA f with
  | none => rw [hm] at h4; exact h4.elim
  | some uy =>
    rw [hm] at h4
    obtain ⟨hp, g, d, tk, os⟩ := s1
    exact get_x I1.kIn c1 c2 c3 XC.ga XC.gk hno h1 rfl rfl rfl h2.ns hm (handed_rel h4) ⟨y, H1, I1.tok (tk + 1), h4, q⟩
end
end L2
namespace L2
open PySem PySem.Spec PyProof.Rows
structure Cal1 (P : Program) (w : World) (K : PySem.W.Frag) (mg : Str → Option Value) (base : Heap) (x : Str) (k : Nat) (ps : List Str) (sp : Sp) : Prop where
  ex : ∃ (f : Addr) (fd : FuncData), FnOk P w K mg base (CX1 P w) k f fd ps sp ∧ Binds K fd ps [] ∧ PySem.W.keepIn K (.ref f) = true ∧ mg x = some (.ref f)
structure XCal (P : Program) (w : World) (K : PySem.W.Frag) (mg : Str → Option Value) (base : Heap) (x : Str) (C D : Addr) (k : Nat) (ps : List Str) (sp : Sp) : Prop where
  ex : ∃ (N fI : Addr) (fd : FuncData), XCls K C D N fI ∧ FnOk P w K mg base CX0 k fI fd ps sp ∧ Binds K fd ps [] ∧ (∃ oI, K.lookup fI = some oI ∧ oI.cls = .type "function") ∧ mg x = some (.ref C)
section
variable {P : Program} {w : World} {K : PySem.W.Frag} {mg : Str → Option Value} {base : Heap}
theorem Fun.okq1 {x qual : Str} {st : Stmt} {f : Addr} {fd : FuncData} {N ps : List Str} {k : Nat} {sp : Sp} (F : Fun K x qual st f fd) (S : FnScope N ps (defScope st)) (len : ∀ vs H Q E, sp vs H Q E → vs.length = ps.length)
    (hbody : ∀ (cdv : Value) (A : Around) (outer : List Env) (s : Shared) (H : Hp) (vs : List V) (Q : VK) (E : XK), Room k (A.deeper (envOfC qual (defScope st) s.heap.objs.size f cdv)) → sp vs H Q E →
      ∃ t, QB (cxOf (CX1 P w) P w K mg base N qual (defScope st) f cdv A outer s H E) (defBody st) t ∧ t { nx := fun _ H' => Q .non H', rt := Q } (L2.start N vs) H) : FnOk P w K mg base (CX1 P w) (k + 1) f fd ps sp := by
  obtain ⟨oc, od, kV, doc, pm, an, cdv, ct, osl, rfl, lk, hcd⟩ := F.ex
  refine fn_of lk hcd S len fun A outer s H vs Q E hr hsp => ?_
  obtain ⟨t, h, q⟩ := hbody cdv A outer s H vs Q E hr hsp
  exact ⟨t, h.h, q⟩
theorem Def1.cal1 {x : Str} {st : Stmt} {ps : List Str} {f : Addr} {fd : FuncData} {k : Nat} {sp : Sp} (D : Def1 K mg x st ps f fd) (F : FnOk P w K mg base (CX1 P w) k f fd ps sp) : Cal1 P w K mg base x k ps sp :=
  ⟨f, fd, F, D.bd, D.fn.kp, D.nm⟩
end
section
variable {X : Cx} {k : Nat} {ps : List Str} {sp : Sp} {x f : Str} {p np apos cpos pos pos' : Pos} {e o value : Expr} {es : List Expr} {t : TA} {E : XK} {C D N fI : Addr} {te ta tv : TE}
theorem qe_cal1 (c : Cal1 X.prog X.w X.K X.mg X.base x k ps sp) (hr : Room k X.A) (hg : Gl X x) (hx : Passes (CX1 X.prog X.w) X E) (ha : QA X (e :: es) t) (hdb : (x == ("__debug__" : Str)) = false := by decide)
    (he : starEach (e :: es) X.env = (false, eval e X.env) :: starEach es X.env := by rfl) (hpl : (backTo pos (starEach es X.env)).any (·.1) = false := by rfl) : QE X (.Call (.Name x p) (e :: es) [] pos) (tCall sp [] E t) := by
  obtain ⟨f, fd, F, b, kp, hm⟩ := c.ex
  exact ⟨pe_call F hr hg hm kp b .nil hx ha.h hdb he hpl⟩
theorem qs_raise (c : XCal X.prog X.w X.K X.mg X.base x C D k ps sp) (hr : Room (k + 1) X.A) (hg : Gl X x) (hcalm : X.calm = true) (ho : XOut X E) (ha : QA X (e :: es) t) (hdb : (x == ("__debug__" : Str)) = false := by decide)
    (hst : starEach (e :: es) X.env = (false, eval e X.env) :: starEach es X.env := by rfl) (hpl : (backTo cpos (starEach es X.env)).any (·.1) = false := by rfl) :
    QS X (.Raise (some (.Call (.Name x np) (e :: es) [] cpos)) none pos) (tRaise C sp E t) := by
  obtain ⟨N, fI, fd, XC, F, b, hf, hm⟩ := c.ex
  exact ⟨ps_raiseX XC F hr b hf hcalm ho hg hm ha.h hdb hst hpl⟩
theorem qe_binit {pl : Sem Bool} (XC : XCls X.K C D N fI) (XD : XBase X.K D) (hg : Gl X x) (hm : X.mg x = some (.ref D)) (ha : QA X (e :: es) t) (hdb : (x == ("__debug__" : Str)) = false := by decide)
    (hst : starEach (e :: es) X.env = (false, eval e X.env) :: starEach es X.env := by rfl) (hpl : (backTo cpos (starEach es X.env)).any (·.1) = false := by rfl)
    (ht : eval (.Call (.Attribute (.Name x np) "__init__" apos) (e :: es) [] cpos) X.env = (do
      let ov ← eval (.Name x np) X.env
      standAt apos.atName
      let (f, first) ← holding [ov] (getMethod ov "__init__" pl)
      callWith cpos f first (backTo cpos (starEach (e :: es) X.env)) (backToKw cpos (keywordEach [] X.env))) := by rfl) :
    QE X (.Call (.Attribute (.Name x np) "__init__" apos) (e :: es) [] cpos) (tBI C t) := ⟨pe_binit XC XD hg hm ha.h hdb hst hpl ht⟩
theorem qs_fldX (XC : XCls X.K C D N fI) (ha : QE X o ta) (hv : QE X value tv) (hs : swapsWith value (some (.Attribute o f pos')) pos.line X.env = pure false := by rfl) : QS X (.Assign [.Attribute o f pos'] value pos) (sFldX X.K C ta tv f) := ⟨ps_fldX XC ha.h hv.h hs⟩
theorem qe_fldX (XC : XCls X.K C D N fI) (he : QE X e ta) (hb : attributeBase e f X.env (eval e X.env) = eval e X.env := by rfl) : QE X (.Attribute e f pos) (tFldX X.K C ta f) := ⟨pe_fldX XC he.h hb⟩
theorem qe_joined {v₁ v₂ : Expr} {rest : List Expr} {tj : TJ} (h : PJ X (v₁ :: v₂ :: rest) tj) (hl : (v₁ :: v₂ :: rest).length ≤ 100 := by decide) : QE X (.JoinedStr (v₁ :: v₂ :: rest) pos) (fun σ H Q => tj σ H fun H1 => ∀ x, Q (.str x) H1) := ⟨pe_joined h hl⟩
theorem qs_try {dn n : Str} {i : Nat} {ND : Addr} {body suite : List Stmt} {b₀ : Stmt} {hpos : Pos} {tb : XK → TS} {ts : TS} (hstk : X.stack = X.env :: X.outer ∧ X.env.frame = some X.env.locals) (hN : X.N.Nodup) (hi : X.N[i]? = some n) (hk : X.env.scope.names.lookup n = some .local) (hg : Gl X dn) (hm : X.mg dn = some (.ref D)) (XD : XTop X.K D ND) (XC : XCls X.K C D N fI)
    (hbody : ∀ (E1 : XK) (xe : Value → Shared → Prop) (pins : List (Addr × Obj)), Passes (CX1 X.prog X.w) (tryC X pins xe) E1 → QB (tryC X pins xe) body (tb E1)) (hsuite : ∀ x, QB (markC X x) (b₀ :: suite) ts) (hdb : (dn == ("__debug__" : Str)) = false := by decide) :
    QS X (.Try body [.ExceptHandler (some (.Name dn np)) (some n) (b₀ :: suite) hpos] [] [] pos) (tTry C X.N.length i tb ts) :=
  ⟨ps_try hstk hN hi hk hg hm XD XC (fun E1 xe pins hp => (hbody E1 xe pins hp).h) (fun x => (hsuite x).h) hdb⟩
def rIsX (K : PySem.W.Frag) : List V → Hp → VK → Prop := fun xs H Q => ∃ x c C dx fs b, xs = [.ref x, c] ∧ H x = some (XR x C (some dx)) ∧ H dx = some (.xd fs) ∧ XIs K C ∧ (∀ u, RelV c u → PySem.W.kitOne K (.ref C) u = some b) ∧ Q (.bl b) H
theorem call_isX : CallR X (.builtin "isinstance") (rIsX X.K) := by
  intro pins s σ H xs us Q I r h
  obtain ⟨x, c, C, dx, fs, b, rfl, hx, hd, Z, hk, q⟩ := h
  obtain ⟨u, v, rfl, r1, r2⟩ := Vals.two r
  obtain rfl : u = Value.ref x := r1
  exact isinst_x Z I hx hd (hk v r2) fun tk => ⟨.bl b, H, I.tok tk, rfl, q⟩
end
end L2
namespace L2
open PySem PySem.Spec PyProof.Rows
section
variable {X : Cx} {k : Nat} {ps : List Str} {sp : Sp} {x : Str} {p pos : Pos} {e : Expr} {es : List Expr} {t : TA} {E : XK}
theorem qe_cl1 (c : Cal1 X.prog X.w X.K X.mg X.base x k ps sp) (hr : Room k X.A) (hg : Gl X x) (b : Bn x) (hx : Passes (CX1 X.prog X.w) X E) (ha : QA X (e :: es) t)
    (he : starEach (e :: es) X.env = (false, eval e X.env) :: starEach es X.env := by rfl) (hpl : (backTo pos (starEach es X.env)).any (·.1) = false := by rfl) : QE X (.Call (.Name x p) (e :: es) [] pos) (tCall sp [] E t) := qe_cal1 c hr hg hx ha b.hd he hpl
end
def spXInit (C : Addr) (fld : Str) : Sp := fun vs H Q _ => ∃ (a : Addr) (j : Int), vs = [.ref a, .int j] ∧ (-(2 ^ 70) < j ∧ j < 2 ^ 70) ∧ H a = some (XO a C none) ∧
  ∀ dx, H dx = none → dx ≠ a → Q .non (upd (upd H dx (.xd [(fld, .int j)])) a (XO a C (some dx)))
def spBehindX (C : Addr) : Sp := fun vs H Q E => ∃ (l : Addr) (ok : Addr → Prop) (cs : List RowC) (j : Nat) (n : Int) (c : RowC), vs = [.ref l, .int (j : Int), .int n] ∧ TreeAt ok H (.ref l) (.list (cs.map rowCD)) ∧ RowsC cs ∧ j < 2 ^ 60 ∧ cs[j]? = some c ∧ isPik c = false ∧
  (∀ t, stepC c j n = some t → ∀ H', Same H H' → Q (.int t) H') ∧ (stepC c j n = none → ∀ dx H', Same H H' → H' dx = some (.xd [("row", .int (j : Int))]) → E (.ref C) (some dx) H')
theorem refused_go {H H1 : Hp} {E : XK} {C : Addr} {j : Int} {fld : Str} (hb : -(2 ^ 70) < j ∧ j < 2 ^ 70) (s1 : Same H H1) (qx : ∀ dx H', Same H H' → H' dx = some (.xd [(fld, .int j)]) → E (.ref C) (some dx) H') :
    1 ≤ 1000 ∧ ∀ a, H1 a = none → spXInit C fld [.ref a, .int j] (upd H1 a (XO a C none)) (fun v H2 => v = .non ∧ ∃ dx, H2 a = some (XO a C (some dx)) ∧ E (.ref C) (some dx) (unt H2 a)) E0 := by
  refine ⟨by decide, fun a ha => ⟨a, j, rfl, hb, upd_same, fun dx hdx hne => ⟨rfl, dx, upd_same, qx dx _ (fun b o e => ?_) ?_⟩⟩⟩
  · have e1 := s1 _ _ e
    have n1 : b ≠ a := fun z => by rw [z, ha] at e1; cases e1
    have n2 : b ≠ dx := fun z => by rw [upd_ne hne] at hdx; rw [z, hdx] at e1; cases e1
    rw [unt_ne n1, upd_ne n1, upd_ne n2, upd_ne n1, e1]
  · rw [unt_ne hne, upd_ne hne, upd_same]
end L2
namespace L2
open PySem PySem.Spec PyProof.Rows
section
variable {X : Cx} {e o : Expr} {te to : TE} {pos : Pos}
def cntB (xs : List V) (y : V) (n : Nat) : Prop := ∃ (bl : List Bool) (b : Bool), xs = bl.map V.bl ∧ y = .bl b ∧ n = bl.count b
def tCntB (K : PySem.W.Frag) (to te : TE) : TE := fun σ H Q => to σ H fun x H1 => ∃ (p : Addr), x = .ref p ∧ (∃ xs, SqL K H1 p xs) ∧ te σ H1 fun y H2 => ∃ (xs : List V) (n : Nat), SqL K H2 p xs ∧ cntB xs y n ∧ Q (.int (n : Nat)) H2
def isB (w : Bool) : Value → Bool
  | .bool z => z == w
  | _ => false
theorem cnt_bls (w : Bool) : ∀ {is : List Bool} {its : List Value}, Vals (is.map V.bl) its → its.countP (isB w) = is.count w
  | [], _, .nil => rfl
  | i :: is, _, .cons r rs => by
    obtain rfl := (show _ = Value.bool i from r)
    rw [List.countP_cons, List.count_cons, cnt_bls w rs]
    rfl
theorem vals_bl : ∀ {is : List Bool} {its : List Value}, Vals (is.map V.bl) its → ∀ {y}, y ∈ its → ∃ b, y = Value.bool b
  | [], _, .nil, _, h => by cases h
  | i :: is, _, .cons r rs, y, h => by
    rcases List.mem_cons.mp h with z | z
    · exact ⟨i, z.trans r⟩
    · exact vals_bl rs z
theorem pe_cntB {apos cpos : Pos} (hu : X.A.in1.units < cLine) (ho : PE X o to) (he : PE X e te)
    (hbase : attributeBase o "count" X.env (eval o X.env) = eval o X.env := by rfl)
    (hfew : ((backTo cpos (starEach [e] X.env)).all (fun x => !x.1) && (backToKw cpos (keywordEach [] X.env)).all (fun x => x.1.isSome)
      && decide ([e].length + ([] : List Keyword).length + (if ([] : List Keyword).isEmpty then 0 else 1) < 30)) = true := by rfl)
    (hline : (apos.endLine == cpos.line) = true := by rfl) (hs : starEach [e] X.env = (false, eval e X.env) :: starEach [] X.env := by rfl) (hplain : (backTo cpos (starEach [] X.env)).any (·.1) = false := by rfl) :
    PE X (.Call (.Attribute o "count" apos) [e] [] cpos) (tCntB X.K to te) := by
  intro pins s σ H Q I h
  refine wpAny_Call_method_late hbase hfew hline rfl (thn (ho pins s σ H _ I h) fun v s1 ⟨x, H1, I1, r1, q⟩ => ?_)
  obtain ⟨p, rfl, ⟨xs0, hq⟩, q⟩ := q
  obtain ⟨h1, h2⟩ := tyV_is (T := "list") I1 r1 (.inl ⟨rfl, _, hq⟩)
  refine ⟨"list", "list.count", PySem.F.plainAttrs_list, PySem.F.slot_list_count, PySem.F.type_list_count, h1, h2, ?_⟩
  rw [hs]
  refine Calls.callWith_builtin (by show (false || (backTo cpos (starEach [] X.env)).any (·.1)) = false; rw [hplain] <;> rfl) (Calls.evalArgs_plain ?_)
  refine Calls.spliced_cons (thn (he pins s1 σ H1 _ I1 q) fun u s2 ⟨y, H2, I2, r2, xs, n, hq2, hc, q3⟩ => Calls.spliced_nil ?_)
  cases r1
  obtain ⟨its, rv, pl, hz⟩ := I2.list hq2
  obtain ⟨ob, nn, eo, ec, ed, es⟩ := pl
  cases ob with
  | mk cls dict data slots =>
    cases ec
    cases es
    obtain ⟨bl, b, rfl, rfl, rfl⟩ := hc
    obtain rfl : u = Value.bool b := r2
    refine call_meets F.slot_list_count ⟨_, eo, rfl⟩ F.entry_list_count (F.args_list_count_2 _ _) (SeqAt.list_countAt p its.toArray nn _ _ _ (isB b)) ⟨eo, fun y hy => ?_, ?_⟩
    · have hy' : y ∈ its := by simpa using hy
      obtain ⟨b', rfl⟩ := vals_bl rv hy'
      exact SeqAt.EqAt.bool_bool b' b
    · rw [show its.toArray.toList = its from rfl, cnt_bls b rv]
      exact ⟨.int (bl.count b : Nat), H2, I2.tok _, ⟨_, rfl⟩, q3⟩
theorem qe_cntB (K : PySem.W.Frag) {apos cpos : Pos} (hu : X.A.in1.units < cLine) (ho : QE X o to) (he : QE X e te) (hK : X.K = K := by rfl)
    (hbase : attributeBase o "count" X.env (eval o X.env) = eval o X.env := by rfl)
    (hfew : ((backTo cpos (starEach [e] X.env)).all (fun x => !x.1) && (backToKw cpos (keywordEach [] X.env)).all (fun x => x.1.isSome)
      && decide ([e].length + ([] : List Keyword).length + (if ([] : List Keyword).isEmpty then 0 else 1) < 30)) = true := by rfl)
    (hline : (apos.endLine == cpos.line) = true := by rfl) (hs : starEach [e] X.env = (false, eval e X.env) :: starEach [] X.env := by rfl) (hplain : (backTo cpos (starEach [] X.env)).any (·.1) = false := by rfl) :
    QE X (.Call (.Attribute o "count" apos) [e] [] cpos) (tCntB K to te) := by
  subst hK
  exact ⟨pe_cntB hu ho.h he.h hbase hfew hline hs hplain⟩
end
theorem boot_ValueError : bootBuiltins "ValueError" = some (.type "ValueError") := by decide +kernel
theorem bn_ValueError : Bn "ValueError" := ⟨by decide +kernel, by decide +kernel⟩
theorem isX_go {K : PySem.W.Frag} {x C dx : Addr} {fs : List (Str × V)} {c : V} {b : Bool} {H : Hp} {Q : VK} (Z : XIs K C) (hx : H x = some (XR x C (some dx))) (hd : H dx = some (.xd fs)) (hk : ∀ u, RelV c u → PySem.W.kitOne K (.ref C) u = some b) (q : Q (.bl b) H) : rIsX K [.ref x, c] H Q :=
  ⟨x, c, C, dx, fs, b, rfl, hx, hd, Z, hk, q⟩
theorem kit_ref {K : PySem.W.Frag} {C a : Addr} {b : Bool} (h : PySem.W.kitOne K (.ref C) (.ref a) = some b) : ∀ u, RelV (.ref a) u → PySem.W.kitOne K (.ref C) u = some b := fun u r => by
  obtain rfl : u = Value.ref a := r
  exact h
theorem kit_ty {K : PySem.W.Frag} {C : Addr} {n : String} {b : Bool} (h : PySem.W.kitOne K (.ref C) (.type n) = some b) : ∀ u, RelV (.ty n) u → PySem.W.kitOne K (.ref C) u = some b := fun u r => by
  obtain rfl : u = Value.type n := r
  exact h
def spWordX (C : Addr) (wd fld : Str) : Sp := fun vs H Q _ => (vs = [.non] ∧ Q .non H) ∨ ∃ (x dx : Addr) (j : Int), vs = [.ref x] ∧ H x = some (XR x C (some dx)) ∧ H dx = some (.xd [(fld, .int j)]) ∧
  ∀ t H', Same H H' → H t = none → H' t = some (.tup [.str wd, .int j]) → Q (.ref t) H'
end L2
namespace L2
open PySem PySem.Spec PyProof.Rows
open Builtin
section
variable {X : Cx}
end
end L2
namespace L2
open PySem PySem.Spec PyProof.Rows
mutual
def noL : PyData → Bool
  | .list _ => false
  | .tuple ds => noLs ds
  | _ => true
def noLs : List PyData → Bool
  | [] => true
  | d :: ds => noL d && noLs ds
end
mutual
theorem TreeAt.keepT {ok ok' : Addr → Prop} {H H' : Hp} (k : ∀ a xs, ok a → H a = some (.tup xs) → ok' a ∧ H' a = some (.tup xs)) : ∀ {v : V} {d : PyData}, TreeAt ok H v d → noL d = true → TreeAt ok' H' v d
  | _, _, .non, _ => .non
  | _, _, .bl b, _ => .bl b
  | _, _, .int i, _ => .int i
  | _, _, .str x, _ => .str x
  | _, _, .lst o e z t, h => by rw [noL] at h; cases h
  | _, _, .tup o e z t, h => by
    rw [noL] at h
    exact .tup (k _ _ o e).1 (k _ _ o e).2 z (TreesAt.keepT k t h)
theorem TreesAt.keepT {ok ok' : Addr → Prop} {H H' : Hp} (k : ∀ a xs, ok a → H a = some (.tup xs) → ok' a ∧ H' a = some (.tup xs)) : ∀ {vs : List V} {ds : List PyData}, TreesAt ok H vs ds → noLs ds = true → TreesAt ok' H' vs ds
  | _, _, .nil, _ => .nil
  | _, _, .cons t r, h => by
    rw [noLs, Bool.and_eq_true] at h
    exact .cons (TreeAt.keepT k t h.1) (TreesAt.keepT k r h.2)
end
theorem trees_int {ok : Addr → Prop} {H : Hp} : ∀ gs : List Int, TreesAt ok H (gs.map V.int) (gs.map PyData.int)
  | [] => .nil
  | g :: gs => .cons (.int g) (trees_int gs)
end L2
namespace L2
open PySem PySem.Spec PyProof.Rows
section
variable {X : Cx} {e e2 o i value : Expr} {te te2 to ti tv : TE} {pos tpos : Pos}
def ixl1 (ob : Option HO) (i : Int) (H : Hp) (Q : VK) : Prop := match ob with
  | some (.lst xs) => ∃ v, atI xs i = some v ∧ Q v H
  | _ => False
def rIxL1 : V → V → Hp → VK → Prop := fun x y H Q => match x, y with
  | .ref p, .int i => ixl1 (H p) i H Q
  | _, _ => False
theorem rIxL1_ref (p : Addr) (i : Int) (H : Hp) (Q : VK) : rIxL1 (.ref p) (.int i) H Q = ixl1 (H p) i H Q := rfl
theorem ixl1_lst (xs : List V) (i : Int) (H : Hp) (Q : VK) : ixl1 (some (.lst xs)) i H Q = ∃ v, atI xs i = some v ∧ Q v H := rfl
theorem get_D : PGet X rIxL1 := by
  intro pins s σ H x y v u Q I rx ry h
  unfold rIxL1 at h
  split at h
  · rename_i p i
    unfold ixl1 at h
    split at h
    · rename_i xs e
      obtain ⟨z, he, q⟩ := h
      cases rx
      obtain ⟨t, rfl⟩ := ry
      obtain ⟨its, r, pl, hz⟩ := I.list (SqL.of e)
      obtain ⟨j, h1, h2, h3, h4, h5⟩ := atI_get he
      obtain ⟨w, ew, rw'⟩ := r.get h2
      have hl := r.length
      have hn := line63
      have fin : EP X pins σ Q w s := ⟨z, H, I, rw', q⟩
      by_cases h0 : 0 ≤ i
      · have hj : i.toNat = j := by
          rw [seqIndex_of h0 h5] at h1
          exact Option.some.inj h1
        exact wpAny_getItem_list pl.isList h0 (by omega) (by rw [hj]; simpa using ew) fin
      · have hj : (i + (its.toArray.size : Int)).toNat = j := by
          rw [seqIndex_neg (by omega) h4] at h1
          rw [List.size_toArray, ← hl]
          exact Option.some.inj h1
        exact wpAny_getItem_list_neg pl.isList (by omega) (by rw [List.size_toArray] <;> omega) (by omega) (by rw [hj]; simpa using ew) fin
    · exact h.elim
  · exact h.elim
def sLA (to ti tv : TE) : TS := tAugS to ti tv rIxL1 (ipI fun i j => i + j) rSetD
theorem sLA_eq (to ti tv : TE) (D : Ends) (σ : St) (H : Hp) : sLA to ti tv D σ H = to σ H fun o H1 => ti σ H1 fun i H2 => rIxL1 o i H2 fun x H3 => tv σ H3 fun y H4 => ipI (fun i j => i + j) x y H4 fun z H5 => rSetD o i z H5 fun H6 => D.nx σ H6 := rfl
theorem qs_la (ho : QE X o to) (hi : QE X i ti) (hv : QE X value tv)
    (ha : ∀ ov iv new, augStore i ov iv new = (do holding [new, ov, iv] (setItem ov iv new); release [new, ov, iv] []; pure .next)) : QS X (.AugAssign (.Subscript o i tpos) .Add value pos) (sLA to ti tv) := ⟨ps_augS ho.h hi.h get_D hv.h ip_add set_D ha⟩
def insV (xs : List V) (i : Int) (y : V) : List V := xs.take i.toNat ++ y :: xs.drop i.toNat
def insq (ob : Option HO) (l : Addr) (i : Int) (y : V) (H : Hp) (Q : VK) : Prop := match ob with
  | some (.lst xs) => 0 ≤ i ∧ i ≤ xs.length ∧ xs.length < sizeLine ∧ Q .non (upd H l (.lst (insV xs i y)))
  | _ => False
def inK2 (l : Addr) (x y : V) (H : Hp) (Q : VK) : Prop := match x with
  | .int i => insq (H l) l i y H Q
  | _ => False
def inK (x : V) (te te2 : TE) (σ : St) (H1 : Hp) (Q : VK) : Prop := match x with
  | .ref l => isq (H1 l) ∧ te σ H1 fun x H2 => te2 σ H2 fun y H3 => inK2 l x y H3 Q
  | _ => False
def tInsD (to te te2 : TE) : TE := fun σ H Q => to σ H fun x H1 => inK x te te2 σ H1 Q
theorem tInsD_eq (to te te2 : TE) (σ : St) (H : Hp) (Q : VK) : tInsD to te te2 σ H Q = to σ H fun x H1 => inK x te te2 σ H1 Q := rfl
theorem inK_ref (l : Addr) (te te2 : TE) (σ : St) (H1 : Hp) (Q : VK) : inK (.ref l) te te2 σ H1 Q = (isq (H1 l) ∧ te σ H1 fun x H2 => te2 σ H2 fun y H3 => inK2 l x y H3 Q) := rfl
theorem inK2_int (l : Addr) (i : Int) (y : V) (H : Hp) (Q : VK) : inK2 l (.int i) y H Q = insq (H l) l i y H Q := rfl
theorem insq_lst (xs : List V) (l : Addr) (i : Int) (y : V) (H : Hp) (Q : VK) : insq (some (.lst xs)) l i y H Q = (0 ≤ i ∧ i ≤ xs.length ∧ xs.length < sizeLine ∧ Q .non (upd H l (.lst (insV xs i y)))) := rfl
def evK (n : Nat) : List Nat := (List.range ((n + 1) / 2)).map (2 * ·)
def evV (xs : List V) : List V := (evK xs.length).filterMap fun k => xs[k]?
theorem ev_le {n k : Nat} (h : k ∈ evK n) : k < n := by
  obtain ⟨j, hj, rfl⟩ := List.mem_map.mp h
  have := List.mem_range.mp hj
  omega
theorem vals_pick {xs : List V} {its : List Value} (r : Vals xs its) : ∀ {ks : List Nat}, (∀ k ∈ ks, k < xs.length) → Vals (ks.filterMap fun k => xs[k]?) (ks.filterMap fun k => its[k]?)
  | [], _ => .nil
  | k :: ks, h => by
    have hk := h k List.mem_cons_self
    have hx : xs[k]? = some xs[k] := List.getElem?_eq_getElem hk
    obtain ⟨u, eu, ru⟩ := r.get hx
    rw [List.filterMap_cons_some hx, List.filterMap_cons_some eu]
    exact .cons ru (vals_pick r fun j hj => h j (List.mem_cons_of_mem _ hj))
theorem slicePick_ev (its : List Value) : slicePick its.toArray none none (some 2) = ((evK its.length).filterMap fun k => its[k]?).toArray := by
  unfold slicePick sliceBounds sliceRange evK
  simp only [Option.getD_some, List.size_toArray, show ((2 : Int) > 0) by decide, if_true]
  congr 1
  have key : (if (0 : Int) < (its.length : Int) then ((its.length : Int) - 0 + 2 - 1) / 2 else 0).toNat = (its.length + 1) / 2 := by
    split <;> omega
  rw [key, List.filterMap_map, List.filterMap_map]
  refine fm_congr fun k hk => ?_
  show its.toArray[((0 : Int) + 2 * (k : Int)).toNat]? = its[2 * k]?
  rw [show ((0 : Int) + 2 * (k : Int)).toNat = 2 * k by omega]
  simp
def evq (ob : Option HO) (H : Hp) (Q : VK) : Prop := match ob with
  | some (.lst xs) => ∀ p, H p = none → Q (.ref p) (upd H p (.lst (evV xs)))
  | _ => False
def evKK (x : V) (H : Hp) (Q : VK) : Prop := match x with
  | .ref p => evq (H p) H Q
  | _ => False
def tEv (te : TE) : TE := fun σ H Q => te σ H fun x H1 => evKK x H1 Q
theorem tEv_eq (te : TE) (σ : St) (H : Hp) (Q : VK) : tEv te σ H Q = te σ H fun x H1 => evKK x H1 Q := rfl
theorem evKK_ref (p : Addr) (H : Hp) (Q : VK) : evKK (.ref p) H Q = evq (H p) H Q := rfl
theorem evq_lst (xs : List V) (H : Hp) (Q : VK) : evq (some (.lst xs)) H Q = ∀ p, H p = none → Q (.ref p) (upd H p (.lst (evV xs))) := rfl
theorem fm_len {α β : Type} (f : α → Option β) (l : List α) : (l.filterMap f).length ≤ l.length := List.length_filterMap_le f l
theorem ev_len (xs : List V) : (evV xs).length ≤ xs.length := by
  have := fm_len (fun k => xs[k]?) (evK xs.length)
  unfold evV
  unfold evK at this ⊢
  rw [List.length_map, List.length_range] at this
  omega
theorem pe_ev {p2 p3 : Pos} {j} (he : PE X e te) (hlt : ∀ o r, letTemporaryGo e o r = pure () := by intro _ _; rfl) : PE X (.Subscript e (.Slice none none (some (.Constant (.int 2) j p3)) p2) pos) (tEv te) := by
  intro pins s σ H Q I h
  refine wpAny_Subscript_Slice_step (T := "list") slot_list_getitem.lookup (thn (he pins s σ H _ I h) fun v s1 ⟨x, H1, I1, r1, q1⟩ => ?_) hlt
  replace q1 : evKK x H1 Q := q1
  unfold evKK at q1
  split at q1
  · rename_i p
    unfold evq at q1
    split at q1
    · rename_i xs e1
      cases r1
      refine wpAny_Slice ?_
      rw [evalPart_none]
      refine wpAny_pure ?_
      refine wpAny_pure ?_
      refine thn (po_some pe_int pins s1 σ H1 (fun o H' => o = some 2 ∧ H' = H1) I1 ⟨_, rfl, rfl, rfl⟩) fun vs s3 ⟨o3, H3, I3, pu, e3, e4⟩ => ?_
      subst e3
      subst e4
      have I4 : Inv X pins σ H3 { s3 with heap := s3.heap.push { cls := .type "slice", data := .fields #[.none, .none, vs] } } := I3.kept (t' := s3.toks) fun b ob q => Heap.get?_push_of_some _ q
      obtain ⟨its, r, ht, hz⟩ := I4.list (SqL.of e1)
      have hlen := r.length
      refine ⟨ht.isList.typeIs, ?_⟩
      refine wpAny_getItem_list_slice ht.isList (Heap.IsSliceOf.new ..) .none .none pu (by decide) ?_ (by rw [List.size_toArray] <;> omega)
      rw [slicePick_ev]
      refine ⟨.ref _, _, I4.laid (t' := s3.toks) (o := .lst (evV xs)) (fun b ob q => Heap.get?_push_of_some _ q) (Nat.le_refl _) ?_, rfl, q1 _ (I4.hok.fresh (Nat.le_refl _))⟩
      refine ⟨Nat.le_trans (ev_len xs) hz, _, 0, ?_, Heap.get?_push_size _ rfl⟩
      unfold evV
      rw [← hlen]
      exact vals_pick r fun k hk => ev_le hk
    · exact q1.elim
  · exact q1.elim
theorem qe_ev {p2 p3 : Pos} {j} (he : QE X e te) (hlt : ∀ o r, letTemporaryGo e o r = pure () := by intro _ _; rfl) : QE X (.Subscript e (.Slice none none (some (.Constant (.int 2) j p3)) p2) pos) (tEv te) := ⟨pe_ev he.h hlt⟩
end
theorem ev_int (ns : List Int) : ∃ ms : List Int, evV (ns.map V.int) = ms.map V.int ∧ ms.length ≤ ns.length := by
  refine ⟨(evK (ns.map V.int).length).filterMap fun k => ns[k]?, ?_, ?_⟩
  · unfold evV
    rw [List.map_filterMap]
    refine fm_congr fun k hk => ?_
    rw [List.getElem?_map]
  · have := ev_len (ns.map V.int)
    have h2 : evV (ns.map V.int) = ((evK (ns.map V.int).length).filterMap fun k => ns[k]?).map V.int := by
      unfold evV
      rw [List.map_filterMap]
      refine fm_congr fun k hk => ?_
      rw [List.getElem?_map]
    rw [h2, List.length_map] at this
    rw [List.length_map (f := V.int) (as := ns)] at this ⊢
    exact this
def rdB := And.intro @sLA_eq (And.intro @rIxL1_ref (And.intro @ixl1_lst (And.intro @tInsD_eq (And.intro @inK_ref (And.intro @inK2_int (And.intro @insq_lst (And.intro @tEv_eq (And.intro @evKK_ref @evq_lst))))))))
end L2
namespace L2
open PySem PySem.Spec PyProof.Rows
def bump (cs : List Int) (k : Nat) : List Int := cs.set k (cs.getD k 0 + 1)
theorem bumpI_len (cs : List Int) (k : Nat) : (bump cs k).length = cs.length := by unfold bump; rw [List.length_set]
theorem bump_map {cs : List Int} {k : Nat} (h : k < cs.length) : ∃ c, (cs.map V.int)[k]? = some (V.int c) ∧ (cs.map V.int).set k (V.int (c + 1)) = (bump cs k).map V.int := by
  refine ⟨cs[k], by rw [List.getElem?_map, List.getElem?_eq_getElem h]; rfl, ?_⟩
  unfold bump
  rw [List.map_set, show cs.getD k 0 = cs[k] by simp [List.getD, List.getElem?_eq_getElem h]]
end L2
namespace L2
open PySem PySem.Spec PyProof.Rows
theorem zeros_flat : ∀ n : Nat, (List.replicate n [V.int 0]).flatten = (List.replicate n (0 : Int)).map V.int
  | 0 => rfl
  | n + 1 => by
    rw [List.replicate_succ, List.replicate_succ, List.flatten_cons, List.map_cons, zeros_flat n]
    rfl
theorem ixN_nat' {n j : Nat} (h : j < n) : ixN n (j : Int) = some j := by
  unfold ixN
  rw [if_pos (by omega), if_pos (by omega)]
  rfl
end L2
namespace L2
open PySem PySem.Spec PyProof.Rows
theorem SqL.keep {K : PySem.W.Frag} {a : Addr} {H H' : Hp} {xs : List V} (h : SqL K H a xs) (k : ∀ o, H a = some o → H' a = some o) : SqL K H' a xs := by
  rcases h with (h | ⟨o, h⟩) | h
  · exact .inl (.inl (k _ h))
  · exact .inl (.inr ⟨o, k _ h⟩)
  · exact .inr h
theorem cut_int (ns : List Int) (lo hi : Option Int) : ∃ ms : List Int, cutV (ns.map V.int) lo hi = ms.map V.int ∧ ms.length ≤ ns.length ∧ ∀ m ∈ ms, m ∈ ns := by
  unfold cutV
  refine ⟨(ns.drop (HT.sIx (ns.map V.int).length 0 lo)).take (HT.sIx (ns.map V.int).length (ns.map V.int).length hi - HT.sIx (ns.map V.int).length 0 lo), by rw [List.map_take, List.map_drop], ?_, fun m hm => List.mem_of_mem_drop (List.mem_of_mem_take hm)⟩
  exact Nat.le_trans (List.length_take_le' _ _) (by rw [List.length_drop]; exact Nat.sub_le _ _)
theorem nodes_ints : ∀ ns : List Int, nodesAll (ns.map PyData.int) ≤ ns.length := fun ns => by
  have := nodesAll_le (n := 1) (ds := ns.map PyData.int) fun d hd => by
    obtain ⟨n, _, rfl⟩ := List.mem_map.mp hd
    exact Nat.le_refl _
  rw [List.length_map] at this
  omega
theorem szI_all {ns : List Int} (hl : ns.length ≤ 210) (h : ∀ n ∈ ns, n.natAbs ≤ 10 ^ 20) (a : Nat) : szAll a (ns.map PyData.int) := szAll_iff.mpr fun d hd => by
  obtain ⟨n, hn, rfl⟩ := List.mem_map.mp hd
  have := h n hn
  show n.natAbs ≤ 10 ^ 20 * 2 ^ a
  have h2 : 1 ≤ 2 ^ a := Nat.one_le_two_pow
  exact Nat.le_trans this (Nat.le_mul_of_pos_right _ h2)
end L2
namespace L2
open PySem PySem.Spec PyProof.Rows
theorem Cal1.cal0 {P : Program} {w : World} {K : PySem.W.Frag} {mg : Str → Option Value} {base : Heap} {x : Str} {k : Nat} {ps : List Str} {sp : Sp} (c : Cal1 P w K mg base x k ps sp) : Cal P w K mg base x k ps (fun vs H Q _ => sp vs H Q fun _ _ _ => False) := by
  obtain ⟨f, fd, F, b, kp, hm⟩ := c.ex
  refine ⟨f, fd, ⟨fun vs H Q E h => F.len vs H Q _ h, fun A outer s H args us vs Q E hr he hb hv hs => ?_⟩, b, kp, hm⟩
  refine codeAny_mono (F.run A outer s H args us vs Q _ hr he hb hv hs) fun r s' hq => ?_
  cases r with
  | ok r => cases r <;> exact hq
  | error e =>
    obtain ⟨_, _, _, _, _, _, _, _, _, _, z⟩ := hq
    exact z.elim
def bumps (k : List Int) (done : List Int) : List Int := done.foldl (fun k a => bump k a.toNat) k
theorem bumps_len : ∀ (done k : List Int), (bumps k done).length = k.length
  | [], k => rfl
  | a :: done, k => by
    show (bumps (bump k a.toNat) done).length = _
    rw [bumps_len done, bumpI_len]
theorem bumps_snoc (k done : List Int) (a : Int) : bumps k (done ++ [a]) = bump (bumps k done) a.toNat := by
  unfold bumps
  rw [List.foldl_append]
  rfl
def ctally (cs : List RowC) : List Int → List Int → List Int ⊕ Int
  | [], k => .inl k
  | n :: ns, k => match (runOf cs n).1 with
    | some _ => ctally cs ns (bumps k (runOf cs n).2)
    | none => .inr ((runOf cs n).2.getLastD 0)
def ctallyOf (cs : List RowC) (ns : List Int) : List Int ⊕ Int := ctally cs ns (List.replicate cs.length 0)
def ctO : List Int ⊕ Int → HO
  | .inl k => .lst (k.map V.int)
  | .inr j => .tup [.str "beyond", .int j]
def ctD : List Int ⊕ Int → PyData
  | .inl k => .list (k.map .int)
  | .inr j => .tuple [.str "beyond", .int j]
theorem ct_none {cs : List RowC} {ns k : List Int} {i : Nat} {n : Int} (h : ns[i]? = some n) (hx : (runOf cs n).1 = none) : ctally cs (ns.drop i) k = .inr ((runOf cs n).2.getLastD 0) := by
  rw [List.drop_eq_getElem_cons (List.getElem?_eq_some_iff.mp h).1, (List.getElem?_eq_some_iff.mp h).2]
  show (match (runOf cs n).1 with | some _ => _ | none => _) = _
  rw [hx]
theorem ct_some {cs : List RowC} {ns k : List Int} {i : Nat} {n lab : Int} (h : ns[i]? = some n) (hx : (runOf cs n).1 = some lab) : ctally cs (ns.drop i) k = ctally cs (ns.drop (i + 1)) (bumps k (runOf cs n).2) := by
  rw [List.drop_eq_getElem_cons (List.getElem?_eq_some_iff.mp h).1, (List.getElem?_eq_some_iff.mp h).2]
  show (match (runOf cs n).1 with | some _ => _ | none => _) = _
  rw [hx]
theorem ct_end {cs : List RowC} {ns k : List Int} : ctally cs (ns.drop ns.length) k = .inl k := by
  rw [List.drop_length]
  rfl
theorem ct_fit {cs : List RowC} : ∀ (ns k c : List Int), ctally cs ns k = .inl c → c.length = k.length
  | [], k, c, h => by cases h; rfl
  | n :: ns, k, c, h => by
    replace h : (match (runOf cs n).1 with | some _ => ctally cs ns (bumps k (runOf cs n).2) | none => .inr ((runOf cs n).2.getLastD 0)) = Sum.inl c := h
    split at h
    · rw [ct_fit ns _ c h, bumps_len]
    · cases h
theorem ct_safe {cs : List RowC} : ∀ (ns k : List Int), (∀ n ∈ ns, ∃ lab, (runOf cs n).1 = some lab) → ∃ c, ctally cs ns k = .inl c
  | [], k, _ => ⟨k, rfl⟩
  | n :: ns, k, h => by
    obtain ⟨lab, hl⟩ := h n List.mem_cons_self
    obtain ⟨c, hc⟩ := ct_safe ns (bumps k (runOf cs n).2) fun m hm => h m (List.mem_cons_of_mem _ hm)
    refine ⟨c, ?_⟩
    show (match (runOf cs n).1 with | some _ => ctally cs ns (bumps k (runOf cs n).2) | none => .inr ((runOf cs n).2.getLastD 0)) = _
    rw [hl]
    exact hc
theorem run_in {cs : List RowC} {n : Int} (hr : RowsC cs) : ∀ (k : Nat) (a : Int), 0 ≤ a → a < cs.length → ∀ x ∈ (runC cs n k a).2, 0 ≤ x ∧ x < cs.length
  | 0, a, h0, h1, x, hx => by
    rw [List.mem_singleton.mp (show x ∈ [a] from hx)]
    exact ⟨h0, h1⟩
  | k + 1, a, h0, h1, x, hx => by
    obtain ⟨j, rfl⟩ := Int.eq_ofNat_of_zero_le h0
    have hj : j < cs.length := by omega
    have hc : cs[((j : Nat) : Int).toNat]? = some cs[j] := by rw [Int.toNat_natCast]; exact List.getElem?_eq_getElem hj
    cases hp : isPik cs[j] with
    | true =>
      cases e : cs[j] with
      | pik l =>
        rw [e] at hc
        rw [runC_pik hc] at hx
        rw [List.mem_singleton.mp hx]
        exact ⟨h0, h1⟩
      | _ => rw [e] at hp; cases hp
    | false =>
      cases ht : stepC cs[j] (j : Int) n with
      | none =>
        rw [runC_no hc hp ht] at hx
        rw [List.mem_singleton.mp hx]
        exact ⟨h0, h1⟩
      | some t =>
        have hb := stepC_btw hr (List.getElem?_eq_getElem hj) ht
        rw [runC_go hc hp ht] at hx
        rcases List.mem_cons.mp hx with z | z
        · rw [z]; exact ⟨h0, h1⟩
        · exact run_in hr k t (by omega) hb.2 x z
theorem runOf_in {cs : List RowC} {n : Int} (hr : RowsC cs) : ∀ x ∈ (runOf cs n).2, 0 ≤ x ∧ x < cs.length := run_in hr _ 0 (by decide) (by have := hr.1; omega)
theorem run_ne (cs : List RowC) (n : Int) : ∀ (k : Nat) (a : Int), (runC cs n k a).2 ≠ []
  | 0, a => by show [a] ≠ []; simp
  | k + 1, a => by
    show (match cs[a.toNat]? with | some (.pik l) => (some l, [a]) | some c => (match stepC c a n with | none => (none, [a]) | some t => ((runC cs n k t).1, a :: (runC cs n k t).2)) | none => (none, [a])).2 ≠ []
    split
    · simp
    · split <;> simp
    · simp
def spRunY (C : Addr) : Sp := fun vs H Q E => ∃ (l : Addr) (ok : Addr → Prop) (cs : List RowC) (n : Int), vs = [.ref l, .int n] ∧ TreeAt ok H (.ref l) (.list (cs.map rowCD)) ∧ RowsC cs ∧
  (∀ lab, (runOf cs n).1 = some lab → ∀ (t ld : Addr) H', Same H H' → H t = none → H ld = none → t ≠ ld → H' t = some (.tup [.int lab, .ref ld]) → H' ld = some (.lst ((runOf cs n).2.map V.int)) → Q (.ref t) H') ∧
  ((runOf cs n).1 = none → ∀ pre (j : Int) dx H', Same H H' → (runOf cs n).2 = pre ++ [j] → H' dx = some (.xd [("row", .int j)]) → E (.ref C) (some dx) H')
def spCtd (C : Addr) : Sp := fun vs H Q E => ∃ (l b : Addr) (ok : Addr → Prop) (cs : List RowC) (ns : List Int), vs = [.ref l, .ref b] ∧ TreeAt ok H (.ref l) (.list (cs.map rowCD)) ∧ RowsC cs ∧ H b = some (.lst (ns.map V.int)) ∧ ns.length ≤ 300 ∧
  (∀ k, ctallyOf cs ns = .inl k → ∀ p H', Same H H' → H p = none → H' p = some (.lst (k.map V.int)) → Q (.ref p) H') ∧ (∀ j, ctallyOf cs ns = .inr j → ∀ dx H', Same H H' → H' dx = some (.xd [("row", .int j)]) → E (.ref C) (some dx) H')
def spCtl : Sp := fun vs H Q _ => ∃ (l b : Addr) (ok : Addr → Prop) (cs : List RowC) (ns : List Int), vs = [.ref l, .ref b] ∧ TreeAt ok H (.ref l) (.list (cs.map rowCD)) ∧ RowsC cs ∧ H b = some (.lst (ns.map V.int)) ∧ ns.length ≤ 300 ∧
  ∀ p H', Same H H' → H p = none → H' p = some (ctO (ctallyOf cs ns)) → Q (.ref p) H'
theorem ctT {r : List Int ⊕ Int} {H : Hp} {p : Addr} (e : H p = some (ctO r)) (hl : ∀ c, r = .inl c → c.length ≤ 9000) : TreeAt (fun _ => True) H (.ref p) (ctD r) := by
  cases r with
  | inl cs => exact .lst trivial e (by rw [List.length_map]; exact hl cs rfl) (trees_int _)
  | inr i => exact .tup trivial e (by show 2 ≤ 9000; decide) (.cons (.str _) (.cons (.int _) .nil))
theorem ct_deep (r : List Int ⊕ Int) : (ctD r).depth < 3 := by
  cases r with
  | inl cs =>
    show PyData.depthAll (cs.map .int) + 1 < 3
    rw [depth_ints]
    decide
  | inr i => simp [ctD, PyData.depth, PyData.depthAll]
def onesM (m n : Nat) : List RowC := (List.range n).map fun (k : Nat) => RowC.one (k : Int) (m : Int)
def chainM (m : Nat) : List RowC := onesM m m ++ [.pik 0]
theorem onesM_succ (m n : Nat) : onesM m (n + 1) = onesM m n ++ [RowC.one (n : Int) (m : Int)] := by
  unfold onesM
  rw [List.range_succ, List.map_append]
  rfl
theorem onesM_len (m n : Nat) : (onesM m n).length = n := by unfold onesM; rw [List.length_map, List.length_range]
theorem chainM_len (m : Nat) : (chainM m).length = m + 1 := by unfold chainM; rw [List.length_append, onesM_len]; rfl
theorem chainM_get {m j : Nat} {c : RowC} (h : (chainM m)[j]? = some c) : (j < m ∧ c = .one (j : Int) (m : Int)) ∨ (j = m ∧ c = .pik 0) := by
  unfold chainM at h
  rcases Nat.lt_or_ge j m with z | z
  · rw [List.getElem?_append_left (by rw [onesM_len]; exact z)] at h
    unfold onesM at h
    rw [List.getElem?_map, List.getElem?_range z] at h
    cases h
    exact .inl ⟨z, rfl⟩
  · rw [List.getElem?_append_right (by rw [onesM_len]; exact z), onesM_len] at h
    have : j - m = 0 ∨ 1 ≤ j - m := by omega
    rcases this with k | k
    · rw [k] at h; cases h; exact .inr ⟨by omega, rfl⟩
    · rw [List.getElem?_eq_none (by show 1 ≤ j - m; exact k)] at h; cases h
theorem chainM_rows (m : Nat) : RowsC (chainM m) := by
  refine ⟨by rw [chainM_len]; omega, fun j c hc => ?_⟩
  rw [chainM_len]
  rcases chainM_get hc with ⟨h, rfl⟩ | ⟨h, rfl⟩
  · exact btw_of (by omega) (by omega)
  · trivial
theorem chainM_safe (m : Nat) (n : Int) : ∃ lab, (runOf (chainM m) n).1 = some lab := by
  have hl := chainM_len m
  refine run_safe (chainM_rows m) (fun a => True) (fun j c hS hc hp => ?_) _ 0 (by omega) (by omega) (by omega) trivial
  rcases chainM_get hc with ⟨hj, rfl⟩ | ⟨hj, rfl⟩
  · exact ⟨_, rfl, trivial⟩
  · cases hp
def prC (zs : List Int) : RowC → Int
  | .one _ _ => zs.getD 0 0
  | .rng _ _ _ => zs.getD 1 0
  | .low _ _ => zs.getD 2 0
  | .msk _ _ _ _ => zs.getD 3 0
  | .tab _ _ => zs.getD 4 0
  | .pik _ => 0
theorem five_get (zs : List Int) (c : RowC) : (valV (mergeK [] (fiveKv zs)) (Sum.inr (wordC c))).getD (.int 0) = .int (prC zs c) := by
  cases c with
  | one a b => rw [show wordC (.one a b) = wordI 0 from rfl, five_val (by decide)]; rfl
  | rng a b t => rw [show wordC (.rng a b t) = wordI 1 from rfl, five_val (by decide)]; rfl
  | low a b => rw [show wordC (.low a b) = wordI 2 from rfl, five_val (by decide)]; rfl
  | msk a b c d => rw [show wordC (.msk a b c d) = wordI 3 from rfl, five_val (by decide)]; rfl
  | tab a b => rw [show wordC (.tab a b) = wordI 4 from rfl, five_val (by decide)]; rfl
  | pik l =>
    show (valV (mergeK [] (fiveKv zs)) (Sum.inr "pick")).getD (.int 0) = .int 0
    unfold mergeK fiveKv
    simp only [List.foldl_cons, List.foldl_nil, valV_put, valV_nil]
    rw [if_neg (kne (a := "pick") (b := "table") (by decide +kernel)), if_neg (kne (a := "pick") (b := "mask") (by decide +kernel)), if_neg (kne (a := "pick") (b := "below") (by decide +kernel)), if_neg (kne (a := "pick") (b := "within") (by decide +kernel)), if_neg (kne (a := "pick") (b := "is") (by decide +kernel))]
    rfl
def sixKv (zs : List Int) : List (Key × V) := fiveKv zs ++ [((Sum.inr "pick" : Key), V.int 0)]
theorem six_take {zs : List Int} (h : zs.length = 5) : (zs.map V.int ++ [V.int 0]).take (sixKv zs).length = (sixKv zs).map (·.2) := by
  match zs, h with
  | [a, b, c, d, e], _ => rfl
theorem six_val (zs : List Int) (c : RowC) : valV (mergeK [] (sixKv zs)) (Sum.inr (wordC c)) = some (.int (prC zs c)) := by
  have key : mergeK [] (sixKv zs) = putK (mergeK [] (fiveKv zs)) (Sum.inr "pick") (V.int 0) := by
    unfold mergeK sixKv
    rw [List.foldl_append]
    rfl
  rw [key, valV_put]
  cases c with
  | one a b => rw [show wordC (.one a b) = ("is" : Str) from rfl, if_neg (kne (a := "is") (b := "pick") (by decide +kernel)), show ("is" : Str) = wordI 0 from rfl, five_val (by decide)]; rfl
  | rng a b t => rw [show wordC (.rng a b t) = ("within" : Str) from rfl, if_neg (kne (a := "within") (b := "pick") (by decide +kernel)), show ("within" : Str) = wordI 1 from rfl, five_val (by decide)]; rfl
  | low a b => rw [show wordC (.low a b) = ("below" : Str) from rfl, if_neg (kne (a := "below") (b := "pick") (by decide +kernel)), show ("below" : Str) = wordI 2 from rfl, five_val (by decide)]; rfl
  | msk a b c d => rw [show wordC (.msk a b c d) = ("mask" : Str) from rfl, if_neg (kne (a := "mask") (b := "pick") (by decide +kernel)), show ("mask" : Str) = wordI 3 from rfl, five_val (by decide)]; rfl
  | tab a b => rw [show wordC (.tab a b) = ("table" : Str) from rfl, if_neg (kne (a := "table") (b := "pick") (by decide +kernel)), show ("table" : Str) = wordI 4 from rfl, five_val (by decide)]; rfl
  | pik l => rw [show wordC (.pik l) = ("pick" : Str) from rfl, if_pos rfl]; rfl
def wghL (zs : List Int) (cs : List RowC) (k : List Int) : List Int := List.zipWith (fun c n => n * prC zs c) cs k
def spWgh : Sp := fun vs H Q _ => ∃ (l b z : Addr) (ok : Addr → Prop) (cs : List RowC) (k zs : List Int), vs = [.ref l, .ref b, .ref z] ∧ TreeAt ok H (.ref l) (.list (cs.map rowCD)) ∧ H b = some (.lst (k.map V.int)) ∧ k.length = cs.length ∧ H z = some (.tup (zs.map V.int)) ∧ zs.length = 5 ∧ (∀ x ∈ zs, 1 ≤ x ∧ x ≤ 99) ∧
  ∀ H', Same H H' → Q (.int (wghL zs cs k).sum) H'
theorem pr_few {zs : List Int} (h : ∀ x ∈ zs, 1 ≤ x ∧ x ≤ 99) (c : RowC) : 0 ≤ prC zs c ∧ prC zs c ≤ 99 := by
  have key : ∀ i : Nat, 0 ≤ zs.getD i 0 ∧ zs.getD i 0 ≤ 99 := fun i => by
    rw [List.getD_eq_getElem?_getD]
    cases e : zs[i]? with
    | none => exact ⟨by decide, by decide⟩
    | some z =>
      have := h z (List.mem_of_getElem? e)
      exact ⟨by show 0 ≤ z; omega, by show z ≤ 99; omega⟩
  cases c with
  | pik l => exact ⟨by show (0 : Int) ≤ 0; decide, by show (0 : Int) ≤ 99; decide⟩
  | one a b => exact key 0
  | rng a b t => exact key 1
  | low a b => exact key 2
  | msk a b c d => exact key 3
  | tab a b => exact key 4
theorem wgh_snoc {zs : List Int} {cs : List RowC} {k : List Int} {i : Nat} {c : RowC} {n : Int} (hc : cs[i]? = some c) (hn : k[i]? = some n) : wghL zs (cs.take (i + 1)) (k.take (i + 1)) = wghL zs (cs.take i) (k.take i) ++ [n * prC zs c] := by
  unfold wghL
  have l1 : (cs.take i).length = i := by rw [List.length_take]; have := (List.getElem?_eq_some_iff.mp hc).1; omega
  have l2 : (k.take i).length = i := by rw [List.length_take]; have := (List.getElem?_eq_some_iff.mp hn).1; omega
  rw [take_snoc hc, take_snoc hn, List.zipWith_append (by rw [l1, l2])]
  rfl
end L2
namespace L2
open PySem PySem.Spec PyProof.Rows
theorem ar3 {a b c : Nat} (h1 : a ≤ 40 * 204) (h2 : b ≤ 200) (h3 : c ≤ 200) : 1 + ((1 + a) + ((1 + b) + ((1 + c) + 0))) ≤ 40000 := by omega
theorem ar4 {a : Nat} (h : a ≤ 2) : max (a + 1) (max (0 + 1) (max (0 + 1) 0)) + 1 ≤ 100 := by omega
theorem shw_rows3 {rs : List RowI} {m : Int} {ns zs : List Int} (h : ∀ (j : Nat) r, rs[j]? = some r → RowOk m j r) (hm : m ≤ 100) (hl : rs.length ≤ 40) (hn : ns.length ≤ 200) (bn : ∀ n ∈ ns, n.natAbs ≤ 10 ^ 20) (hz : zs.length ≤ 200) (bz : ∀ n ∈ zs, n.natAbs ≤ 10 ^ 20) : Shw (.list [.list (rs.map rowD), .list (ns.map .int), .tuple (zs.map .int)]) := by
  have hc : ∀ d ∈ rs.map rowD, szD 0 d ∧ nodes d ≤ 204 ∧ d.depth ≤ 2 := fun d hd => by
    obtain ⟨r, hr, rfl⟩ := List.mem_map.mp hd
    obtain ⟨j, hj, e⟩ := List.mem_iff_getElem.mp hr
    exact sz_row (h j r (by rw [← e]; exact List.getElem?_eq_getElem hj)) (by omega) hm
  have n1 := nodesAll_le fun d hd => (hc d hd).2.1
  rw [List.length_map] at n1
  have d1 := depthAll_le fun d hd => (hc d hd).2.2
  have n2 := nodes_ints ns
  have n3 := nodes_ints zs
  have d2 := depth_ints ns
  have d3 := depth_ints zs
  have sz1 : szD 2 (.list (rs.map rowD)) := szD_le ⟨by rw [List.length_map]; show rs.length ≤ 210; omega, szAll_iff.mpr fun d hd => (hc d hd).1⟩
  refine shw_of ⟨by show 3 ≤ 210 * 5 ^ 2; decide, sz1, ⟨by rw [List.length_map]; show ns.length ≤ 210 * 5 ^ 2; omega, szI_all (by omega) bn 2⟩, ⟨by rw [List.length_map]; show zs.length ≤ 210 * 5 ^ 2; omega, szI_all (by omega) bz 2⟩, trivial⟩ ?_ ?_
  · show 1 + ((1 + nodesAll (rs.map rowD)) + ((1 + nodesAll (ns.map .int)) + ((1 + nodesAll (zs.map .int)) + 0))) ≤ 40000
    exact ar3 (Nat.le_trans n1 (Nat.mul_le_mul_right 204 hl)) (Nat.le_trans n2 hn) (Nat.le_trans n3 hz)
  · show max (PyData.depthAll (rs.map rowD) + 1) (max (PyData.depthAll (ns.map .int) + 1) (max (PyData.depthAll (zs.map .int) + 1) 0)) + 1 ≤ 100
    rw [d2, d3]
    exact ar4 d1
end L2
namespace L2
theorem ife3 {c1 c2 : Prop} [Decidable c1] [Decidable c2] {A B : Prop} (h1 : c1 → c2 → A) (h2 : B) : if c1 then (if c2 then A else B) else B := by
  split
  · rename_i h
    split
    · rename_i h'
      exact h1 h h'
    · exact h2
  · exact h2
end L2
namespace L2
open PySem PySem.Spec PyProof.Rows
theorem DGet.k' {H : Hp} {a : Addr} {kvs : List (Key × V)} {k : Key} {v : V} (e : H a = some (.dK kvs)) (hv : valV kvs k = some v) : DGet H a (kV k) (some v) := by
  rw [← hv]
  exact DGet.k e
end L2
namespace L2
open PySem PySem.Spec PyProof.Rows
theorem ln1 {α : Type} {us : List α} (h : us.length = 1) : ∃ a, us = [a] := by
  cases us with
  | nil => cases h
  | cons a r =>
    cases r with
    | nil => exact ⟨a, rfl⟩
    | cons b r => cases h
theorem ln2 {α : Type} {us : List α} (h : us.length = 2) : ∃ a0 a1, us = [a0, a1] := by
  cases us with
  | nil => cases h
  | cons a0 r =>
    obtain ⟨a1, rfl⟩ := ln1 (Nat.succ.inj h)
    exact ⟨a0, a1, rfl⟩
theorem ln3 {α : Type} {us : List α} (h : us.length = 3) : ∃ a0 a1 a2, us = [a0, a1, a2] := by
  cases us with
  | nil => cases h
  | cons a0 r =>
    obtain ⟨a1, a2, rfl⟩ := ln2 (Nat.succ.inj h)
    exact ⟨a0, a1, a2, rfl⟩
theorem ln4 {α : Type} {us : List α} (h : us.length = 4) : ∃ a0 a1 a2 a3, us = [a0, a1, a2, a3] := by
  cases us with
  | nil => cases h
  | cons a0 r =>
    obtain ⟨a1, a2, a3, rfl⟩ := ln3 (Nat.succ.inj h)
    exact ⟨a0, a1, a2, a3, rfl⟩
theorem ln5 {α : Type} {us : List α} (h : us.length = 5) : ∃ a0 a1 a2 a3 a4, us = [a0, a1, a2, a3, a4] := by
  cases us with
  | nil => cases h
  | cons a0 r =>
    obtain ⟨a1, a2, a3, a4, rfl⟩ := ln4 (Nat.succ.inj h)
    exact ⟨a0, a1, a2, a3, a4, rfl⟩
theorem le490 (x : Int) (i : Nat) : x + 2 + 500 * (i : Int) + 490 ≤ x + 2 + 500 * ((i + 1 : Nat) : Int) := by omega
theorem le10 (x : Int) : x + 2 + 2 + 2 + 2 + 2 ≤ x + 10 + 2 * ((0 : Nat) : Int) := by omega
theorem le60 (x : Int) : x ≤ x + 60 := by omega
theorem le00 (x : Int) : x ≤ x + 2 * ((0 : Nat) : Int) := by omega
theorem le100 (j : Nat) : (30120 : Int) + 100 * (j : Int) + 60 ≤ 30120 + 100 * ((j + 1 : Nat) : Int) := by omega
theorem le2s (x : Int) (j : Nat) : x + 2 * (j : Int) + 2 ≤ x + 2 * ((j + 1 : Nat) : Int) := by omega
theorem pl9 {pre : List Int} {j n : Nat} (h : pre.length ≤ j) (hj : j < n) (hn : n ≤ 9000) : ((pre ++ [(j : Int)]).map V.int).length ≤ 9000 := by
  rw [List.length_map, List.length_append, List.length_singleton]
  omega
theorem tk1 {x : Int} (h : x ≤ 1000000) : x + 2 ≤ 1000100 := by omega
theorem tk2 {x : Int} (h : x ≤ 1000000) : x + 2 + 2 ≤ 1000100 := by omega
theorem tk3 {x : Int} (h : x ≤ 1000000) : x + 2 + 2 + 2 ≤ 1000100 := by omega
theorem tu3 {x : Int} : x + 2 + 2 + 2 ≤ x + 490 := by omega
theorem tk4 {x : Int} (h : x ≤ 1000000) : x + 2 + 2 + 2 + 2 ≤ 1000100 := by omega
theorem tu4 {x : Int} : x + 2 + 2 + 2 + 2 ≤ x + 490 := by omega
theorem tk5 {x : Int} (h : x ≤ 1000000) : x + 2 + 2 + 2 + 2 + 2 ≤ 1000100 := by omega
theorem tk6 {x : Int} (h : x ≤ 1000000) : x + 2 + 2 + 2 + 2 + 2 + 2 ≤ 1000100 := by omega
theorem tu6 {x : Int} : x + 2 + 2 + 2 + 2 + 2 + 2 ≤ x + 490 := by omega
def tV (i : Nat) : TE := fun σ H Q => match σ[i]? with
  | some (some x) => Q x H
  | _ => False
def rdz := And.intro rd0 (And.intro rd1 (And.intro rd2 (And.intro rd3 (And.intro rd4 (And.intro rd5 (And.intro rd6 (And.intro rd7 (And.intro rd8 (And.intro rd9 @tV.eq_1)))))))))
theorem tV_of {i : Nat} {σ : St} {H : Hp} {Q : VK} (h : tV i σ H Q) : tVar i σ H Q := by
  unfold tV at h
  split at h
  · rename_i x e
    exact ⟨x, e, h⟩
  · exact h.elim
section
variable {X : Cx} {i : Nat} {x : Str} {pos : Pos}
theorem qe_nV (h : Nm X.N X.env.scope i x) : QE X (.Name x pos) (tV i) := ⟨fun pins s σ H Q I q => (qe_n h).h pins s σ H Q I (tV_of q)⟩
theorem qe_vV (i : Nat) {x : Str} {pos : Pos} (hN : X.N[i]? = some x := by rfl) (hv : Vis X.env.scope x := by first | exact Or.inl rfl | exact Or.inr (Or.inl rfl) | exact Or.inr (Or.inr rfl)) (hd : (x == ("__debug__" : Str)) = false := by decide)
    (hcd : (x == ("__classdict__" : Str)) = false := by decide) : QE X (.Name x pos) (tV i) := ⟨fun pins s σ H Q I q => (qe_v i hN hv hd hcd).h pins s σ H Q I (tV_of q)⟩
end
end L2
local macro_rules | `(tactic| walk_at "rd") => `(tactic| try dsimp only [L2.tV, L2.tSeq, L2.tIfS, L2.tTest, L2.tOp, L2.tC, L2.tRet, L2.tNext, L2.tCall, L2.tCons, L2.tNil, L2.tCB, L2.tIf, L2.tNot, L2.tB, L2.tAnd, L2.tOr, L2.tLst, L2.tTup, L2.tAsg, L2.gName, L2.rI0, List.getElem?_cons_zero, List.getElem?_cons_succ, List.set_cons_zero, List.set_cons_succ])
namespace K44
open PySem L2 PyProof.Rows
def top (i : Nat) : Stmt := PySem.Challenge.pw_caseways_k44_rows_counted_and_weighed.main.body.getD i (.Pass ⟨0, 0, 0, 0⟩)
abbrev BLs : List Str := ["ValueError", "abs", "all", "bool", "dict", "int", "isinstance", "len", "list", "min", "range", "repr", "str", "sum", "tuple", "zip"]
theorem mB_ValueError : ("ValueError" : Str) ∈ BLs := by decide +kernel
theorem mB_abs : ("abs" : Str) ∈ BLs := by decide +kernel
theorem mB_all : ("all" : Str) ∈ BLs := by decide +kernel
theorem mB_bool : ("bool" : Str) ∈ BLs := by decide +kernel
theorem mB_dict : ("dict" : Str) ∈ BLs := by decide +kernel
theorem mB_int : ("int" : Str) ∈ BLs := by decide +kernel
theorem mB_isinstance : ("isinstance" : Str) ∈ BLs := by decide +kernel
theorem mB_len : ("len" : Str) ∈ BLs := by decide +kernel
theorem mB_list : ("list" : Str) ∈ BLs := by decide +kernel
theorem mB_min : ("min" : Str) ∈ BLs := by decide +kernel
theorem mB_range : ("range" : Str) ∈ BLs := by decide +kernel
theorem mB_repr : ("repr" : Str) ∈ BLs := by decide +kernel
theorem mB_str : ("str" : Str) ∈ BLs := by decide +kernel
theorem mB_sum : ("sum" : Str) ∈ BLs := by decide +kernel
theorem mB_tuple : ("tuple" : Str) ∈ BLs := by decide +kernel
theorem mB_zip : ("zip" : Str) ∈ BLs := by decide +kernel
abbrev sZCellAt : Stmt := top 18
theorem scZCellAt : FnScope ["_law_script", "_law_k"] ["_law_script", "_law_k"] (defScope sZCellAt) := ⟨rfl, rfl, rfl, by decide +kernel, rfl, by decide +kernel, by decide +kernel⟩
theorem nZCellAt_0 : Nm ["_law_script", "_law_k"] (defScope sZCellAt) 0 "_law_script" := .of (by decide +kernel)
theorem nZCellAt_1 : Nm ["_law_script", "_law_k"] (defScope sZCellAt) 1 "_law_k" := .of (by decide +kernel)
theorem gZCellAt_len : (defScope sZCellAt).names.lookup ("len" : Str) = some .globalImplicit := by decide +kernel
theorem bnZCellAt : Bn "_law_cell_at" := ⟨by decide +kernel, by decide +kernel⟩
abbrev sZTape : Stmt := top 19
theorem scZTape : FnScope ["_law_script", "_law_k", "_law_cell"] ["_law_script", "_law_k"] (defScope sZTape) := ⟨rfl, rfl, rfl, by decide +kernel, rfl, by decide +kernel, by decide +kernel⟩
theorem nZTape_0 : Nm ["_law_script", "_law_k", "_law_cell"] (defScope sZTape) 0 "_law_script" := .of (by decide +kernel)
theorem nZTape_1 : Nm ["_law_script", "_law_k", "_law_cell"] (defScope sZTape) 1 "_law_k" := .of (by decide +kernel)
theorem nZTape_2 : Nm ["_law_script", "_law_k", "_law_cell"] (defScope sZTape) 2 "_law_cell" := .of (by decide +kernel)
theorem gZTape_ZCellAt : (defScope sZTape).names.lookup ("_law_cell_at" : Str) = some .globalImplicit := by decide +kernel
theorem gZTape_abs : (defScope sZTape).names.lookup ("abs" : Str) = some .globalImplicit := by decide +kernel
theorem gZTape_int : (defScope sZTape).names.lookup ("int" : Str) = some .globalImplicit := by decide +kernel
theorem bnZTape : Bn "_law_tape" := ⟨by decide +kernel, by decide +kernel⟩
abbrev sZTake : Stmt := top 20
theorem scZTake : FnScope ["_law_tape_here", "_law_many", "_law_found", "_law_prime", "_law_once"] ["_law_tape_here", "_law_many"] (defScope sZTake) := ⟨rfl, rfl, rfl, by decide +kernel, rfl, by decide +kernel, by decide +kernel⟩
theorem nZTake_0 : Nm ["_law_tape_here", "_law_many", "_law_found", "_law_prime", "_law_once"] (defScope sZTake) 0 "_law_tape_here" := .of (by decide +kernel)
theorem nZTake_1 : Nm ["_law_tape_here", "_law_many", "_law_found", "_law_prime", "_law_once"] (defScope sZTake) 1 "_law_many" := .of (by decide +kernel)
theorem nZTake_2 : Nm ["_law_tape_here", "_law_many", "_law_found", "_law_prime", "_law_once"] (defScope sZTake) 2 "_law_found" := .of (by decide +kernel)
theorem nZTake_3 : Nm ["_law_tape_here", "_law_many", "_law_found", "_law_prime", "_law_once"] (defScope sZTake) 3 "_law_prime" := .of (by decide +kernel)
theorem nZTake_4 : Nm ["_law_tape_here", "_law_many", "_law_found", "_law_prime", "_law_once"] (defScope sZTake) 4 "_law_once" := .of (by decide +kernel)
theorem gZTake_ZTake : (defScope sZTake).names.lookup ("_law_take" : Str) = some .globalImplicit := by decide +kernel
theorem bnZTake : Bn "_law_take" := ⟨by decide +kernel, by decide +kernel⟩
section
variable {P : Program} {w : World} {K : PySem.W.Frag} {mg : Str → Option Value} {base : Heap} {f : Addr} {fd : FuncData} {bs : List Str}
theorem ok_cell (hB : ∀ x : Str, x ∈ BLs → mg x = none) (F : Fun K "_law_cell_at" "_law_cell_at" sZCellAt f fd) : FnOk P w K mg base CX0 1 f fd ["_law_script", "_law_k"] (spCell K) := by
  refine F.okq scZCellAt (fun vs H Q E h => ?_) (fun cdv A outer s H vs Q E hr h => ?_)
  · obtain ⟨a, ns, k, rfl, _⟩ := h
    rfl
  · obtain ⟨a, ns, k, rfl, hS, h0, q⟩ := h
    refine ⟨_, (qb_one (qs_ret (qe_if (qt_cmp op_lt (qe_nV nZCellAt_1) (qe_cb call_len_seq gZCellAt_len (hB "len" mB_len) PySem.boot_len bn_len (qa_cons (qe_nV nZCellAt_0) qa_nil rfl) rfl rfl) (nomark _)) (qe_ix ix_list (qe_nV nZCellAt_0) (qe_nV nZCellAt_1) (fun _ _ => rfl)) qe_int))), ?_⟩
    (walk_at "rd"; try simp only [rdz, reduceIte, reduceCtorEq, Nat.reduceAdd, Nat.reduceSub])
    refine ⟨_, .inl hS, ?_⟩
    split
    · rename_i c
      rw [List.length_map] at c
      have hk : k.toNat < ns.length := by omega
      have ek : k = ((k.toNat : Nat) : Int) := by omega
      have z : atI (ns.map V.int) ((k.toNat : Nat) : Int) = some (.int ns[k.toNat]) := atI_nat (by rw [List.getElem?_map, List.getElem?_eq_getElem hk]; rfl)
      rw [← ek] at z
      unfold rIxL
      exact ⟨a, _, k, _, rfl, rfl, hS, z, q _⟩
    · exact q _
theorem ok_tape (hB : ∀ x : Str, x ∈ BLs → mg x = none) (CZCellAt : Cal P w K mg base "_law_cell_at" 1 ["_law_script", "_law_k"] (spCell K)) (F : Fun K "_law_tape" "_law_tape" sZTape f fd) : FnOk P w K mg base CX0 2 f fd ["_law_script", "_law_k"] (spTape K) := by
  refine F.okq scZTape (fun vs H Q E h => ?_) (fun cdv A outer s H vs Q E hr h => ?_)
  · obtain ⟨a, ns, k, rfl, _⟩ := h
    rfl
  · obtain ⟨a, ns, k, rfl, hS, h0, h1, q⟩ := h
    refine ⟨_, (qb_cons (qs_st nZTape_2 scZTape.nd (qe_cl CZCellAt (hr.mono (by decide)) gZTape_ZCellAt bnZCellAt (qa_cons (qe_nV nZTape_0) (qa_cons (qe_nV nZTape_1) qa_nil rfl) rfl) rfl rfl) rfl (.inl rfl))
      (qb_one (qs_ret (qe_lst (qa_cons (qe_op op_mulD (qe_cb call_abs gZTape_abs (hB "abs" mB_abs) PyProof.Rows.Boot.«abs» bn_abs (qa_cons (qe_nV nZTape_2) qa_nil rfl) rfl rfl) (qe_ct call_int_D gZTape_int (hB "int" mB_int) boot_int bn_int (qa_cons (qe_cmp op_ge (qe_cb call_abs gZTape_abs (hB "abs" mB_abs) PyProof.Rows.Boot.«abs» bn_abs (qa_cons (qe_nV nZTape_2) qa_nil rfl) rfl rfl) (qe_op op_pow qe_int qe_int) (nomark _)) qa_nil rfl) rfl rfl)) (qa_cons (qe_op op_mod (qe_op op_mulD (qe_op op_addD (qe_op op_addD (qe_op op_mod (qe_nV nZTape_2) qe_int) (qe_op op_mulD (qe_op op_mulD qe_int (qe_nV nZTape_1)) (qe_nV nZTape_1))) qe_int) qe_int) qe_int) (qa_cons qe_int qa_nil rfl) rfl) rfl))))), ?_⟩
    (walk_at "rd"; try simp only [rdz, reduceIte, reduceCtorEq, Nat.reduceAdd, Nat.reduceSub])
    refine ⟨a, ns, k, rfl, hS, h0, fun v => ?_⟩
    (walk_at "rd"; try simp only [rdz, reduceIte, reduceCtorEq, Nat.reduceAdd, Nat.reduceSub])
    refine ⟨⟨by decide, by decide, by decide⟩, ?_, by decide, .inl (by decide), .inr (by omega), .inr (by decide), by decide, sl_le (by decide), fun p hp => q p _ hp (same_upd hp) ⟨_, _, _, upd_same, ?_, ?_, ?_, Int.le_refl _, Int.le_refl _⟩⟩
    · right
      generalize (if v < 0 then -v else v) = u
      split <;> decide
    · refine Int.mul_nonneg ?_ ?_
      · split <;> omega
      · generalize (if v < 0 then -v else v) = u
        split <;> decide
    · exact Int.emod_nonneg _ (by decide)
    · exact Int.emod_lt_of_pos _ (by decide)
theorem ok_take {n : Nat} (hB : ∀ x : Str, x ∈ BLs → mg x = none) (hn : n ≤ 10) (CZTake : Cal P w K mg base "_law_take" n ["_law_tape_here", "_law_many"] (spTake n)) (F : Fun K "_law_take" "_law_take" sZTake f fd) : FnOk P w K mg base CX0 (n + 1) f fd ["_law_tape_here", "_law_many"] (spTake (n + 1)) := by
  refine F.okq scZTake (fun vs H Q E h => ?_) (fun cdv A outer s H vs Q E hr h => ?_)
  · obtain ⟨p, m, B, rfl, _⟩ := h
    rfl
  · obtain ⟨p, m, B, rfl, ⟨a, b, c, hp, ha, hb0, hb1, hc0, hc1⟩, hB0, hm0, hm1, hn1, hn2, q⟩ := h
    refine ⟨_, (qb_cons (qs_if (qt_cmp op_gt (qe_ix ix_D (qe_nV nZTake_0) qe_int (fun _ _ => rfl)) qe_int (nomark _)) (qb_cons (qs_st nZTake_2 scZTake.nd (qe_op op_mod (qe_ix ix_D (qe_nV nZTake_0) qe_int (fun _ _ => rfl)) (qe_nV nZTake_1)) rfl (.inl rfl))
      (qb_cons (qs_asg (qe_op op_fdivL (qe_ix ix_D (qe_nV nZTake_0) qe_int (fun _ _ => rfl)) (qe_nV nZTake_1)) (qg_subC (qe_nV nZTake_0) qe_int set_D) rfl rfl rfl)
      (qb_one (qs_ret (qe_nV nZTake_2))))) qb_nil)
      (qb_cons (qs_asg (qe_op op_addD (qe_ix ix_D (qe_nV nZTake_0) qe_int (fun _ _ => rfl)) qe_int) (qg_subC (qe_nV nZTake_0) qe_int set_D) rfl rfl rfl)
      (qb_cons (qs_st nZTake_3 scZTake.nd (qe_ix ix_D (qe_lst (qa_cons qe_int (qa_cons qe_int (qa_cons qe_int (qa_cons qe_int (qa_cons qe_int (qa_cons qe_int (qa_cons qe_int qa_nil rfl) rfl) rfl) rfl) rfl) rfl) rfl)) (qe_op op_mod (qe_ix ix_D (qe_nV nZTake_0) qe_int (fun _ _ => rfl)) qe_int) (fun _ _ => rfl)) rfl (.inl rfl))
      (qb_cons (qs_st nZTake_4 scZTake.nd (qe_op op_mod (qe_op op_mulD (qe_op op_addD (qe_ix ix_D (qe_nV nZTake_0) qe_int (fun _ _ => rfl)) (qe_op op_mulD qe_int (qe_ix ix_D (qe_nV nZTake_0) qe_int (fun _ _ => rfl)))) (qe_op op_addD qe_int (qe_ix ix_D (qe_nV nZTake_0) qe_int (fun _ _ => rfl)))) (qe_nV nZTake_3)) rfl (.inl rfl))
      (qb_cons (qs_asg (qe_op op_mod (qe_op op_addD (qe_op op_mulD (qe_nV nZTake_4) (qe_op op_addD (qe_op op_mod (qe_nV nZTake_4) qe_int) qe_int)) (qe_ix ix_D (qe_nV nZTake_0) qe_int (fun _ _ => rfl))) qe_int) (qg_subC (qe_nV nZTake_0) qe_int set_D) rfl rfl rfl)
      (qb_cons (qs_st nZTake_2 scZTake.nd (qe_op op_fdivL (qe_op op_mod (qe_op op_mulD (qe_ix ix_D (qe_nV nZTake_0) qe_int (fun _ _ => rfl)) (qe_op op_addD (qe_op op_mod (qe_ix ix_D (qe_nV nZTake_0) qe_int (fun _ _ => rfl)) qe_int) qe_int)) qe_int) qe_int) rfl (.inl rfl))
      (qb_one (qs_ret (qe_if (qt_cmp op_lt (qe_nV nZTake_1) (qe_op op_pow qe_int qe_int) (nomark _)) (qe_op op_mod (qe_nV nZTake_2) (qe_nV nZTake_1)) (qe_op op_mod (qe_op op_addD (qe_op op_mulD (qe_nV nZTake_2) qe_int) (qe_cl CZTake (hr.mono (by omega)) gZTake_ZTake bnZTake (qa_cons (qe_nV nZTake_0) (qa_cons qe_int qa_nil rfl) rfl) rfl rfl)) (qe_nV nZTake_1))))))))))), ?_⟩
    (walk_at "rd"; try simp only [rdz, reduceIte, reduceCtorEq, Nat.reduceAdd, Nat.reduceSub, hp])
    split
    · refine ⟨hm0, ⟨hm0, hm1⟩, ?_⟩
      refine q _ _ (Int.emod_nonneg _ (by omega)) (Int.emod_lt_of_pos _ hm0) SameX.upd ⟨_, _, _, upd_same, Int.ediv_nonneg ha (by omega), hb0, hb1, hc0, by omega⟩
    · refine ⟨sl_le (by decide), fun p1 hp1 => ?_⟩
      have np : p ≠ p1 := fun z => by rw [← z, upd_same] at hp1; cases hp1
      (walk_at "rd"; try simp only [rdz, reduceIte, reduceCtorEq, Nat.reduceAdd, Nat.reduceSub, hp, upd_ne np, ne_eq, np, not_false_eq_true])
      obtain ⟨v, hv, v0⟩ := primes (c + 1)
      have m1 : ∀ x : Int, 0 ≤ x % 40009 ∧ x % 40009 < 40009 := fun x => ⟨Int.emod_nonneg _ (by decide), Int.emod_lt_of_pos _ (by decide)⟩
      have m2 : ∀ x : Int, 0 ≤ x % 1009 ∧ x % 1009 < 1009 := fun x => ⟨Int.emod_nonneg _ (by decide), Int.emod_lt_of_pos _ (by decide)⟩
      have m3 : ∀ x : Int, 0 ≤ x % 2147483629 ∧ x % 2147483629 < 2147483629 := fun x => ⟨Int.emod_nonneg _ (by decide), Int.emod_lt_of_pos _ (by decide)⟩
      refine ⟨by decide, _, hv, .inl (by decide), .inr (by omega), v, rfl, v0, by decide, .inr ?_, by decide, by decide, .inr ?_, by decide, by decide, by decide, ?_⟩
      · have := m1 ((b + 39373 * (c + 1)) * (48271 + (c + 1)) % v)
        omega
      · have := m2 (((b + 39373 * (c + 1)) * (48271 + (c + 1)) % v * ((b + 39373 * (c + 1)) * (48271 + (c + 1)) % v % 40009 + 7) + (c + 1)) % 2147483629)
        omega
      · have e3 := m3 ((b + 39373 * (c + 1)) * (48271 + (c + 1)) % v * ((b + 39373 * (c + 1)) * (48271 + (c + 1)) % v % 40009 + 7) + (c + 1))
        generalize ((b + 39373 * (c + 1)) * (48271 + (c + 1)) % v * ((b + 39373 * (c + 1)) * (48271 + (c + 1)) % v % 40009 + 7) + (c + 1)) % 2147483629 = y at e3 ⊢
        have sx : SameX p H (upd (upd (upd H p (HO.lst [V.int a, V.int b, V.int (c + 1)])) p1 (HO.lst [V.int 2147483587, V.int 2147483579, V.int 2147483563, V.int 2147483549, V.int 2147483543, V.int 2147483497, V.int 2147483489])) p (HO.lst [V.int a, V.int y, V.int (c + 1)])) :=
          (SameX.upd.trans (same_upd hp1).x).trans SameX.upd
        have tp : TapeAt (upd (upd (upd H p (HO.lst [V.int a, V.int b, V.int (c + 1)])) p1 (HO.lst [V.int 2147483587, V.int 2147483579, V.int 2147483563, V.int 2147483549, V.int 2147483543, V.int 2147483497, V.int 2147483489])) p (HO.lst [V.int a, V.int y, V.int (c + 1)])) p (B + 1) :=
          ⟨a, y, c + 1, upd_same, ha, e3.1, e3.2, by omega, by omega⟩
        generalize upd (upd (upd H p (HO.lst [V.int a, V.int b, V.int (c + 1)])) p1 (HO.lst [V.int 2147483587, V.int 2147483579, V.int 2147483563, V.int 2147483549, V.int 2147483543, V.int 2147483497, V.int 2147483489])) p (HO.lst [V.int a, V.int y, V.int (c + 1)]) = H2 at sx tp ⊢
        split
        · refine ⟨hm0, q _ _ (Int.emod_nonneg _ (by omega)) (Int.emod_lt_of_pos _ hm0) sx ?_⟩
          obtain ⟨a', b', c', z1, z2, z3, z4, z5, z6⟩ := tp
          exact ⟨a', b', c', z1, z2, z3, z4, z5, by omega⟩
        · rename_i hm
          have hm' : 1000000 ≤ m := by
            rw [show (10 : Int) ^ Int.toNat 6 = 1000000 from by decide] at hm
            omega
          have hn3 := hn2 hm'
          refine ⟨.inr (by decide), p, 99991, B + 1, rfl, tp, by omega, by decide, by decide, by omega, fun z => absurd z (by decide), fun r H3 r0 r1 s3 t3 => ?_⟩
          (walk_at "rd"; try simp only [rdz, reduceIte, reduceCtorEq, Nat.reduceAdd, Nat.reduceSub])
          refine ⟨hm0, q _ _ (Int.emod_nonneg _ (by omega)) (Int.emod_lt_of_pos _ hm0) (sx.trans s3) ?_⟩
          obtain ⟨a', b', c', z1, z2, z3, z4, z5, z6⟩ := t3
          exact ⟨a', b', c', z1, z2, z3, z4, z5, by omega⟩
theorem take_none : FnOk P w K mg base CX0 0 f fd ["_law_tape_here", "_law_many"] (spTake 0) := by
  have no : ∀ vs H Q E, ¬ spTake 0 vs H Q E := fun vs H Q E h => by
    obtain ⟨p, m, B, _, _, _, _, _, h1, _⟩ := h
    omega
  exact ⟨fun vs H Q E h => absurd h (no vs H Q E), fun A outer s H args us vs Q E _ _ _ _ h => absurd h (no vs H Q E)⟩
end
end K44
namespace K44
open PySem L2 PyProof.Rows
abbrev sZSame : Stmt := top 22
theorem scZSame : FnScope ["_law_found", "_law_due_here"] ["_law_found", "_law_due_here"] (defScope sZSame) := ⟨rfl, rfl, rfl, by decide +kernel, rfl, by decide +kernel, by decide +kernel⟩
theorem nZSame_0 : Nm ["_law_found", "_law_due_here"] (defScope sZSame) 0 "_law_found" := .of (by decide +kernel)
theorem nZSame_1 : Nm ["_law_found", "_law_due_here"] (defScope sZSame) 1 "_law_due_here" := .of (by decide +kernel)
theorem gZSame_all : (defScope sZSame).names.lookup ("all" : Str) = some .globalImplicit := by decide +kernel
theorem gZSame_bool : (defScope sZSame).names.lookup ("bool" : Str) = some .globalImplicit := by decide +kernel
theorem gZSame_int : (defScope sZSame).names.lookup ("int" : Str) = some .globalImplicit := by decide +kernel
theorem gZSame_isinstance : (defScope sZSame).names.lookup ("isinstance" : Str) = some .globalImplicit := by decide +kernel
theorem gZSame_len : (defScope sZSame).names.lookup ("len" : Str) = some .globalImplicit := by decide +kernel
theorem gZSame_list : (defScope sZSame).names.lookup ("list" : Str) = some .globalImplicit := by decide +kernel
theorem gZSame_str : (defScope sZSame).names.lookup ("str" : Str) = some .globalImplicit := by decide +kernel
theorem gZSame_tuple : (defScope sZSame).names.lookup ("tuple" : Str) = some .globalImplicit := by decide +kernel
theorem gZSame_zip : (defScope sZSame).names.lookup ("zip" : Str) = some .globalImplicit := by decide +kernel
theorem bnZSame : Bn "_law_same" := ⟨by decide +kernel, by decide +kernel⟩
section
variable {P : Program} {w : World} {K : PySem.W.Frag} {mg : Str → Option Value} {base : Heap} {f : Addr} {fd : FuncData} {bs : List Str}
theorem ok_same {n : Nat} (hB : ∀ x : Str, x ∈ BLs → mg x = none) (CZSame : Cal P w K mg base "_law_same" n ["_law_found", "_law_due_here"] (spSameT n)) (F : Fun K "_law_same" "_law_same" sZSame f fd) : FnOk P w K mg base CX0 (n + 1) f fd ["_law_found", "_law_due_here"] (spSameT (n + 1)) := by
  refine F.okq scZSame (fun vs H Q E h => ?_) (fun cdv A outer s H vs Q E hr h => ?_)
  · obtain ⟨x, y, ok, d, rfl, _⟩ := h
    rfl
  · obtain ⟨x, y, ok, d, rfl, tx, ty, hd, q⟩ := h
    refine ⟨_, (qb_cons (qs_if (qt_val (qe_cb call_isiB gZSame_isinstance (hB "isinstance" mB_isinstance) boot_isinstance bn_isinstance (qa_cons (qe_nV nZSame_1) (qa_cons (qe_tup (qa_cons (qe_bt "list" gZSame_list (hB "list" mB_list) boot_list bn_list) (qa_cons (qe_bt "tuple" gZSame_tuple (hB "tuple" mB_tuple) boot_tuple bn_tuple) qa_nil rfl) rfl)) qa_nil rfl) rfl) rfl rfl) (fun _ => rfl)) (qb_cons (qs_if (qt_w (qw_or (qt_cmp (op_neD hr.units0) (qe_cb call_isiA gZSame_isinstance (hB "isinstance" mB_isinstance) boot_isinstance bn_isinstance (qa_cons (qe_nV nZSame_0) (qa_cons (qe_bt "list" gZSame_list (hB "list" mB_list) boot_list bn_list) qa_nil rfl) rfl) rfl rfl) (qe_cb call_isiA gZSame_isinstance (hB "isinstance" mB_isinstance) boot_isinstance bn_isinstance (qa_cons (qe_nV nZSame_1) (qa_cons (qe_bt "list" gZSame_list (hB "list" mB_list) boot_list bn_list) qa_nil rfl) rfl) rfl rfl) (nomark _)) (qw_or1 (qt_cmp (op_neD hr.units0) (qe_cb call_isiA gZSame_isinstance (hB "isinstance" mB_isinstance) boot_isinstance bn_isinstance (qa_cons (qe_nV nZSame_0) (qa_cons (qe_bt "tuple" gZSame_tuple (hB "tuple" mB_tuple) boot_tuple bn_tuple) qa_nil rfl) rfl) rfl rfl) (qe_cb call_isiA gZSame_isinstance (hB "isinstance" mB_isinstance) boot_isinstance bn_isinstance (qa_cons (qe_nV nZSame_1) (qa_cons (qe_bt "tuple" gZSame_tuple (hB "tuple" mB_tuple) boot_tuple bn_tuple) qa_nil rfl) rfl) rfl rfl) (nomark _))))) (qb_one (qs_ret qe_bl)) qb_nil)
      (qb_cons (qs_if (qt_cmp (op_neD hr.units0) (qe_cb call_len_D gZSame_len (hB "len" mB_len) PySem.boot_len bn_len (qa_cons (qe_nV nZSame_0) qa_nil rfl) rfl rfl) (qe_cb call_len_D gZSame_len (hB "len" mB_len) PySem.boot_len bn_len (qa_cons (qe_nV nZSame_1) qa_nil rfl) rfl rfl) (nomark _)) (qb_one (qs_ret qe_bl)) qb_nil)
      (qb_one (qs_ret (qe_cb (call_allD rfl) gZSame_all (hB "all" mB_all) PyProof.Rows.Boot.«all» bn_all (qa_cons (qe_comp (NX := ["_law_found", "_law_due_here"]) (kX := (defScope sZSame).names) ["_law_one", "_law_other"] [none, none] rfl rfl ⟨rfl, by decide +kernel, by decide +kernel, by decide +kernel, by decide +kernel⟩ rfl (qi_zipD gZSame_zip (hB "zip" mB_zip) (qa_cons (qe_nV nZSame_0) (qa_cons (qe_nV nZSame_1) qa_nil rfl) rfl) rfl rfl) (fun _ _ _ _ _ => (qg_tup (n := 2) rfl (qgs_cons (qg_name 0 (show List.Nodup (["_law_one", "_law_other"] : List Str) from by decide +kernel) rfl (Or.inl rfl)) (qgs_cons (qg_name 1 (show List.Nodup (["_law_one", "_law_other"] : List Str) from by decide +kernel) rfl (Or.inl rfl)) qgs_nil rfl) rfl) rfl rfl)) (fun _ _ _ _ _ => qc_nil) (fun _ _ _ _ _ => (qe_cl CZSame (hr.mono (by omega)) rfl bnZSame (qa_cons (qe_vV 0) (qa_cons (qe_vV 1) qa_nil rfl) rfl) rfl rfl))) qa_nil rfl) rfl rfl))))) qb_nil)
      (qb_cons (qs_if (qt_w (qw_or (qt_cmp op_isN (qe_nV nZSame_1) qe_non (nomark _)) (qw_or1 (qt_val (qe_cb call_isiA gZSame_isinstance (hB "isinstance" mB_isinstance) boot_isinstance bn_isinstance (qa_cons (qe_nV nZSame_1) (qa_cons (qe_bt "str" gZSame_str (hB "str" mB_str) boot_str bn_str) qa_nil rfl) rfl) rfl rfl) (fun _ => rfl))))) (qb_one (qs_ret (qe_and (qe_cmp (op_eqD hr.units0) (qe_nV nZSame_0) (qe_nV nZSame_1) (nomark _)) (qe_one (qe_cmp (op_eqD hr.units0) (qe_cb call_isiA gZSame_isinstance (hB "isinstance" mB_isinstance) boot_isinstance bn_isinstance (qa_cons (qe_nV nZSame_0) (qa_cons (qe_bt "str" gZSame_str (hB "str" mB_str) boot_str bn_str) qa_nil rfl) rfl) rfl rfl) (qe_cb call_isiA gZSame_isinstance (hB "isinstance" mB_isinstance) boot_isinstance bn_isinstance (qa_cons (qe_nV nZSame_1) (qa_cons (qe_bt "str" gZSame_str (hB "str" mB_str) boot_str bn_str) qa_nil rfl) rfl) rfl rfl) (nomark _)))))) qb_nil)
      (qb_cons (qs_if (qt_val (qe_cb call_isiA gZSame_isinstance (hB "isinstance" mB_isinstance) boot_isinstance bn_isinstance (qa_cons (qe_nV nZSame_1) (qa_cons (qe_bt "bool" gZSame_bool (hB "bool" mB_bool) boot_bool bn_bool) qa_nil rfl) rfl) rfl rfl) (fun _ => rfl)) (qb_one (qs_ret (qe_and (qe_cb call_isiA gZSame_isinstance (hB "isinstance" mB_isinstance) boot_isinstance bn_isinstance (qa_cons (qe_nV nZSame_0) (qa_cons (qe_bt "bool" gZSame_bool (hB "bool" mB_bool) boot_bool bn_bool) qa_nil rfl) rfl) rfl rfl) (qe_one (qe_cmp (op_eqD hr.units0) (qe_nV nZSame_0) (qe_nV nZSame_1) (nomark _)))))) qb_nil)
      (qb_one (qs_ret (qe_and (qe_cb call_isiA gZSame_isinstance (hB "isinstance" mB_isinstance) boot_isinstance bn_isinstance (qa_cons (qe_nV nZSame_0) (qa_cons (qe_bt "int" gZSame_int (hB "int" mB_int) boot_int bn_int) qa_nil rfl) rfl) rfl rfl) (qe_and (qe_not (qe_cb call_isiA gZSame_isinstance (hB "isinstance" mB_isinstance) boot_isinstance bn_isinstance (qa_cons (qe_nV nZSame_0) (qa_cons (qe_bt "bool" gZSame_bool (hB "bool" mB_bool) boot_bool bn_bool) qa_nil rfl) rfl) rfl rfl)) (qe_one (qe_cmp (op_eqD hr.units0) (qe_nV nZSame_0) (qe_nV nZSame_1) (nomark _)))))))))), ?_⟩
    cases tx with
    | non =>
      cases ty
      refine seq_k fun k hk => ?_
      (walk_at "rd"; try simp only [rdz, reduceIte, reduceCtorEq, Nat.reduceAdd, Nat.reduceSub])
      refine ⟨sl_le (by decide), fun t ht => ?_⟩
      subst hk
      refine seq_k fun k hk => ?_
      (walk_at "rd"; try simp only [rdz, reduceIte, reduceCtorEq, Nat.reduceAdd, Nat.reduceSub])
      exact q _ (same_upd ht)
    | bl b =>
      cases ty
      refine seq_k fun k hk => ?_
      (walk_at "rd"; try simp only [rdz, reduceIte, reduceCtorEq, Nat.reduceAdd, Nat.reduceSub])
      refine ⟨sl_le (by decide), fun t ht => ?_⟩
      subst hk
      refine seq_k fun k hk => ?_
      (walk_at "rd"; try simp only [rdz, reduceIte, reduceCtorEq, Nat.reduceAdd, Nat.reduceSub])
      subst hk
      refine seq_k fun k hk => ?_
      (walk_at "rd"; try simp only [rdz, reduceIte, reduceCtorEq, Nat.reduceAdd, Nat.reduceSub])
      exact q _ (same_upd ht)
    | int i =>
      cases ty
      refine seq_k fun k hk => ?_
      (walk_at "rd"; try simp only [rdz, reduceIte, reduceCtorEq, Nat.reduceAdd, Nat.reduceSub])
      refine ⟨sl_le (by decide), fun t ht => ?_⟩
      subst hk
      refine seq_k fun k hk => ?_
      (walk_at "rd"; try simp only [rdz, reduceIte, reduceCtorEq, Nat.reduceAdd, Nat.reduceSub])
      subst hk
      refine seq_k fun k hk => ?_
      (walk_at "rd"; try simp only [rdz, reduceIte, reduceCtorEq, Nat.reduceAdd, Nat.reduceSub])
      subst hk
      (walk_at "rd"; try simp only [rdz, reduceIte, reduceCtorEq, Nat.reduceAdd, Nat.reduceSub])
      exact q _ (same_upd ht)
    | str x =>
      cases ty
      refine seq_k fun k hk => ?_
      (walk_at "rd"; try simp only [rdz, reduceIte, reduceCtorEq, Nat.reduceAdd, Nat.reduceSub])
      refine ⟨sl_le (by decide), fun t ht => ?_⟩
      subst hk
      refine seq_k fun k hk => ?_
      (walk_at "rd"; try simp only [rdz, reduceIte, reduceCtorEq, Nat.reduceAdd, Nat.reduceSub])
      exact q _ (same_upd ht)
    | lst o1 e1 z1 ts1 =>
      rename_i p1 xs1 ds
      cases ty with
      | lst o2 e2 z2 ts2 =>
        rename_i p2 xs2
        have l1 := ts1.length
        have l2 := ts2.length
        refine seq_k fun k hk => ?_
        (walk_at "rd"; try simp only [rdz, reduceIte, reduceCtorEq, Nat.reduceAdd, Nat.reduceSub, e1, e2])
        refine ⟨sl_le (by decide), fun t ht => ?_⟩
        have s1 := same_upd (o := HO.tup [V.ty "list", V.ty "tuple"]) ht
        have e1 := s1 _ _ e1
        have e2 := s1 _ _ e2
        generalize upd H t (HO.tup [V.ty "list", V.ty "tuple"]) = H1 at s1 e1 e2 ⊢
        (walk_at "rd"; try simp only [rdz, reduceIte, reduceCtorEq, Nat.reduceAdd, Nat.reduceSub, e1, e2])
        rw [decide_eq_true (show (xs1.length : Int) = (xs2.length : Int) by omega), Bool.not_true, if_neg (by decide)]
        refine comp_k fun R hR => ?_
        (walk_at "rd"; try simp only [rdz, reduceIte, reduceCtorEq, Nat.reduceAdd, Nat.reduceSub, e1, e2])
        obtain ⟨Pc, hPc⟩ : ∃ Pv : Nat → List V → L2.St → Hp → Prop, Pv = fun (i : Nat) acc τ H' => ∃ (o0 o1 : Option V), Same H1 H' ∧ acc = (List.replicate i true).map V.bl ∧ τ = [o0, o1] := ⟨_, rfl⟩
        refine comp_zl hR (xs := xs1) (ys := xs2) (sl_le z1) (by omega) Pc (by rw [hPc]; exact ⟨_, _, Same.refl _, rfl, rfl⟩) ?_ ?_ ?_ ?_
        · intro i acc τ H2 pc
          rw [hPc] at pc
          obtain ⟨_, _, _, rfl, _⟩ := pc
          simp
        · intro i acc τ H2 pc
          rw [hPc] at pc
          obtain ⟨_, _, s2, _, _⟩ := pc
          exact ⟨s2 _ _ e1, s2 _ _ e2⟩
        · intro i x y acc τ H2 r hx hy pc hr2
          rw [hPc] at pc
          obtain ⟨o0, o1, s2, rfl, rfl⟩ := pc
          obtain ⟨dx, hdx, tx⟩ := ts1.get hx
          obtain ⟨dy, hdy, ty⟩ := ts2.get hy
          rw [hdx] at hdy
          cases hdy
          have s3 := same_upd (o := HO.tup [x, y]) hr2
          have s13 := (s1.trans s2).trans s3
          (walk_at "rd"; try simp only [rdz, reduceIte, reduceCtorEq, Nat.reduceAdd, Nat.reduceSub])
          refine ⟨x, y, ok, dx, rfl, tx.same s13, ty.same s13, by have := (depth_mem (List.mem_of_getElem? hdx)).1; omega, fun H4 s4 => ?_⟩
          rw [hPc]
          refine ⟨_, _, (s2.trans s3).trans s4, ?_, rfl⟩
          rw [List.replicate_succ', List.map_append]
          rfl
        · intro acc τ H2 d2 pc hd2
          rw [hPc] at pc
          obtain ⟨o0, o1, s2, rfl, rfl⟩ := pc
          have s3 := s1.trans (s2.trans (same_upd (o := HO.lst ((List.replicate xs1.length true).map V.bl)) hd2))
          have e3 : upd H2 d2 (HO.lst ((List.replicate xs1.length true).map V.bl)) d2 = _ := upd_same
          generalize upd H2 d2 (HO.lst ((List.replicate xs1.length true).map V.bl)) = H3 at s3 e3 ⊢
          (walk_at "rd"; try simp only [rdz, reduceIte, reduceCtorEq, Nat.reduceAdd, Nat.reduceSub, e3])
          refine ⟨_, rfl, ?_⟩
          rw [show (List.replicate xs1.length true).all id = true by simp]
          exact q _ s3
    | tup o1 e1 z1 ts1 =>
      rename_i p1 xs1 ds
      cases ty with
      | tup o2 e2 z2 ts2 =>
        rename_i p2 xs2
        have l1 := ts1.length
        have l2 := ts2.length
        refine seq_k fun k hk => ?_
        (walk_at "rd"; try simp only [rdz, reduceIte, reduceCtorEq, Nat.reduceAdd, Nat.reduceSub, e1, e2])
        refine ⟨sl_le (by decide), fun t ht => ?_⟩
        have s1 := same_upd (o := HO.tup [V.ty "list", V.ty "tuple"]) ht
        have e1 := s1 _ _ e1
        have e2 := s1 _ _ e2
        generalize upd H t (HO.tup [V.ty "list", V.ty "tuple"]) = H1 at s1 e1 e2 ⊢
        (walk_at "rd"; try simp only [rdz, reduceIte, reduceCtorEq, Nat.reduceAdd, Nat.reduceSub, e1, e2])
        rw [decide_eq_true (show (xs1.length : Int) = (xs2.length : Int) by omega), Bool.not_true, if_neg (by decide)]
        refine comp_k fun R hR => ?_
        (walk_at "rd"; try simp only [rdz, reduceIte, reduceCtorEq, Nat.reduceAdd, Nat.reduceSub, e1, e2])
        obtain ⟨Pc, hPc⟩ : ∃ Pv : Nat → List V → L2.St → Hp → Prop, Pv = fun (i : Nat) acc τ H' => ∃ (o0 o1 : Option V), Same H1 H' ∧ acc = (List.replicate i true).map V.bl ∧ τ = [o0, o1] := ⟨_, rfl⟩
        refine comp_zt hR (xs := xs1) (ys := xs2) (sl_le z1) (by omega) Pc (by rw [hPc]; exact ⟨_, _, Same.refl _, rfl, rfl⟩) ?_ ?_ ?_ ?_
        · intro i acc τ H2 pc
          rw [hPc] at pc
          obtain ⟨_, _, _, rfl, _⟩ := pc
          simp
        · intro i acc τ H2 pc
          rw [hPc] at pc
          obtain ⟨_, _, s2, _, _⟩ := pc
          exact ⟨s2 _ _ e1, s2 _ _ e2⟩
        · intro i x y acc τ H2 r hx hy pc hr2
          rw [hPc] at pc
          obtain ⟨o0, o1, s2, rfl, rfl⟩ := pc
          obtain ⟨dx, hdx, tx⟩ := ts1.get hx
          obtain ⟨dy, hdy, ty⟩ := ts2.get hy
          rw [hdx] at hdy
          cases hdy
          have s3 := same_upd (o := HO.tup [x, y]) hr2
          have s13 := (s1.trans s2).trans s3
          (walk_at "rd"; try simp only [rdz, reduceIte, reduceCtorEq, Nat.reduceAdd, Nat.reduceSub])
          refine ⟨x, y, ok, dx, rfl, tx.same s13, ty.same s13, by have := (depth_mem (List.mem_of_getElem? hdx)).2; omega, fun H4 s4 => ?_⟩
          rw [hPc]
          refine ⟨_, _, (s2.trans s3).trans s4, ?_, rfl⟩
          rw [List.replicate_succ', List.map_append]
          rfl
        · intro acc τ H2 d2 pc hd2
          rw [hPc] at pc
          obtain ⟨o0, o1, s2, rfl, rfl⟩ := pc
          have s3 := s1.trans (s2.trans (same_upd (o := HO.lst ((List.replicate xs1.length true).map V.bl)) hd2))
          have e3 : upd H2 d2 (HO.lst ((List.replicate xs1.length true).map V.bl)) d2 = _ := upd_same
          generalize upd H2 d2 (HO.lst ((List.replicate xs1.length true).map V.bl)) = H3 at s3 e3 ⊢
          (walk_at "rd"; try simp only [rdz, reduceIte, reduceCtorEq, Nat.reduceAdd, Nat.reduceSub, e3])
          refine ⟨_, rfl, ?_⟩
          rw [show (List.replicate xs1.length true).all id = true by simp]
          exact q _ s3
theorem same_none : FnOk P w K mg base CX0 0 f fd ["_law_found", "_law_due_here"] (spSameT 0) := by
  have no : ∀ vs H Q E, ¬ spSameT 0 vs H Q E := fun vs H Q E h => by
    obtain ⟨x, y, ok, d, _, _, _, h1, _⟩ := h
    omega
  exact ⟨fun vs H Q E h => absurd h (no vs H Q E), fun A outer s H args us vs Q E _ _ _ _ h => absurd h (no vs H Q E)⟩
end
end K44
namespace K44
open PySem L2 PyProof.Rows
abbrev sBInit : Stmt := inClass (top 4) 0
theorem scBInit : FnScope ["self", "row"] ["self", "row"] (defScope sBInit) := ⟨rfl, rfl, rfl, by decide +kernel, rfl, by decide +kernel, by decide +kernel⟩
theorem nBInit_0 : Nm ["self", "row"] (defScope sBInit) 0 "self" := .of (by decide +kernel)
theorem nBInit_1 : Nm ["self", "row"] (defScope sBInit) 1 "row" := .of (by decide +kernel)
theorem gBInit_C : (defScope sBInit).names.lookup ("CaseError" : Str) = some .globalImplicit := by decide +kernel
abbrev sEndsOf : Stmt := top 9
theorem scEndsOf : FnScope ["row"] ["row"] (defScope sEndsOf) := ⟨rfl, rfl, rfl, by decide +kernel, rfl, by decide +kernel, by decide +kernel⟩
theorem nEndsOf_0 : Nm ["row"] (defScope sEndsOf) 0 "row" := .of (by decide +kernel)
theorem gEndsOf_len : (defScope sEndsOf).names.lookup ("len" : Str) = some .globalImplicit := by decide +kernel
theorem bnEndsOf : Bn "ends_of" := ⟨by decide +kernel, by decide +kernel⟩
abbrev sHolds : Stmt := top 11
theorem scHolds : FnScope ["row", "number"] ["row", "number"] (defScope sHolds) := ⟨rfl, rfl, rfl, by decide +kernel, rfl, by decide +kernel, by decide +kernel⟩
theorem nHolds_0 : Nm ["row", "number"] (defScope sHolds) 0 "row" := .of (by decide +kernel)
theorem nHolds_1 : Nm ["row", "number"] (defScope sHolds) 1 "number" := .of (by decide +kernel)
theorem bnHolds : Bn "holds" := ⟨by decide +kernel, by decide +kernel⟩
abbrev sRowBehind : Stmt := top 12
theorem scRowBehind : FnScope ["rows", "at", "number", "row", "ends"] ["rows", "at", "number"] (defScope sRowBehind) := ⟨rfl, rfl, rfl, by decide +kernel, rfl, by decide +kernel, by decide +kernel⟩
theorem nRowBehind_0 : Nm ["rows", "at", "number", "row", "ends"] (defScope sRowBehind) 0 "rows" := .of (by decide +kernel)
theorem nRowBehind_1 : Nm ["rows", "at", "number", "row", "ends"] (defScope sRowBehind) 1 "at" := .of (by decide +kernel)
theorem nRowBehind_2 : Nm ["rows", "at", "number", "row", "ends"] (defScope sRowBehind) 2 "number" := .of (by decide +kernel)
theorem nRowBehind_3 : Nm ["rows", "at", "number", "row", "ends"] (defScope sRowBehind) 3 "row" := .of (by decide +kernel)
theorem nRowBehind_4 : Nm ["rows", "at", "number", "row", "ends"] (defScope sRowBehind) 4 "ends" := .of (by decide +kernel)
theorem gRowBehind_Beyond : (defScope sRowBehind).names.lookup ("Beyond" : Str) = some .globalImplicit := by decide +kernel
theorem gRowBehind_EndsOf : (defScope sRowBehind).names.lookup ("ends_of" : Str) = some .globalImplicit := by decide +kernel
theorem gRowBehind_Holds : (defScope sRowBehind).names.lookup ("holds" : Str) = some .globalImplicit := by decide +kernel
theorem bnRowBehind : Bn "row_behind" := ⟨by decide +kernel, by decide +kernel⟩
abbrev sZBehind : Stmt := top 25
theorem scZBehind : FnScope ["_law_rows_here", "_law_at", "_law_number", "_law_row", "_law_place"] ["_law_rows_here", "_law_at", "_law_number"] (defScope sZBehind) := ⟨rfl, rfl, rfl, by decide +kernel, rfl, by decide +kernel, by decide +kernel⟩
theorem nZBehind_0 : Nm ["_law_rows_here", "_law_at", "_law_number", "_law_row", "_law_place"] (defScope sZBehind) 0 "_law_rows_here" := .of (by decide +kernel)
theorem nZBehind_1 : Nm ["_law_rows_here", "_law_at", "_law_number", "_law_row", "_law_place"] (defScope sZBehind) 1 "_law_at" := .of (by decide +kernel)
theorem nZBehind_2 : Nm ["_law_rows_here", "_law_at", "_law_number", "_law_row", "_law_place"] (defScope sZBehind) 2 "_law_number" := .of (by decide +kernel)
theorem nZBehind_3 : Nm ["_law_rows_here", "_law_at", "_law_number", "_law_row", "_law_place"] (defScope sZBehind) 3 "_law_row" := .of (by decide +kernel)
theorem nZBehind_4 : Nm ["_law_rows_here", "_law_at", "_law_number", "_law_row", "_law_place"] (defScope sZBehind) 4 "_law_place" := .of (by decide +kernel)
theorem gZBehind_len : (defScope sZBehind).names.lookup ("len" : Str) = some .globalImplicit := by decide +kernel
theorem bnZBehind : Bn "_law_behind" := ⟨by decide +kernel, by decide +kernel⟩
section
variable {P : Program} {w : World} {K : PySem.W.Frag} {mg : Str → Option Value} {base : Heap} {f : Addr} {fd : FuncData} {bs : List Str} {C D N : Addr}
theorem ok_binit (XC : XCls K C D N f) (XD : XBase K D) (hD : mg "CaseError" = some (.ref D)) (hno : PySem.W.findIn K (.ref C) "row" = some none) (F : Fun K "__init__" "Beyond.__init__" sBInit f fd) : FnOk P w K mg base CX0 1 f fd ["self", "row"] (spXInit C "row") := by
  refine F.okq scBInit (fun vs H Q E h => ?_) (fun cdv A outer s H vs Q E hr h => ?_)
  · obtain ⟨a, j, rfl, _⟩ := h
    rfl
  · obtain ⟨a, j, rfl, hb, ha, q⟩ := h
    refine ⟨_, (qb_cons (qs_expr (qe_binit XC XD gBInit_C hD (qa_cons (qe_n nBInit_0) (qa_cons (qe_joined (pj_str (by decide) (pj_int (qe_n nBInit_1).h (pj_str (by decide) pj_nil)))) qa_nil)))) (qb_one (qs_fldX XC (qe_n nBInit_0) (qe_n nBInit_1)))), ?_⟩
    (walk_at "rd"; try simp only [rdz, reduceIte, reduceCtorEq, Nat.reduceAdd, Nat.reduceSub, tBI, sFldX])
    exact ⟨hb, fun x => ⟨a, _, ⟨rfl, rfl⟩, (by show 1 ≤ 1000; decide), ⟨none, ha⟩, ha, hno, q⟩⟩
theorem ok_ends (hB : ∀ x : Str, x ∈ BLs → mg x = none) (F : Fun K "ends_of" "ends_of" sEndsOf f fd) : FnOk P w K mg base CX0 1 f fd ["row"] spEnds := by
  refine F.okq scEndsOf (fun vs H Q E h => ?_) (fun cdv A outer s H vs Q E hr h => ?_)
  · obtain ⟨x, c, rfl, _⟩ := h
    rfl
  · obtain ⟨x, c, rfl, ⟨a, g, rfl, e, eg⟩, q1, q2⟩ := h
    refine ⟨_, (qb_cons (qs_if (qt_cmp (op_eqD hr.units0) (qe_ix ix_D (qe_nV nEndsOf_0) qe_int (fun _ _ => rfl)) qe_str (nomark _)) (qb_one (qs_ret (qe_tup (qa_cons (qe_ix ix_D (qe_nV nEndsOf_0) qe_int (fun _ _ => rfl)) (qa_cons (qe_op op_sub (qe_op op_addD (qe_ix ix_D (qe_nV nEndsOf_0) qe_int (fun _ _ => rfl)) (qe_ix ix_D (qe_nV nEndsOf_0) qe_int (fun _ _ => rfl))) qe_int) qa_nil rfl) rfl)))) qb_nil)
      (qb_cons (qs_if (qt_cmp (op_eqD hr.units0) (qe_ix ix_D (qe_nV nEndsOf_0) qe_int (fun _ _ => rfl)) qe_str (nomark _)) (qb_one (qs_ret (qe_tup (qa_cons (qe_ix ix_D (qe_nV nEndsOf_0) qe_int (fun _ _ => rfl)) (qa_cons (qe_op op_sub (qe_op op_addD (qe_ix ix_D (qe_nV nEndsOf_0) qe_int (fun _ _ => rfl)) (qe_cb call_len_D gEndsOf_len (hB "len" mB_len) PySem.boot_len bn_len (qa_cons (qe_ix ix_D (qe_nV nEndsOf_0) qe_int (fun _ _ => rfl)) qa_nil rfl) rfl rfl)) qe_int) qa_nil rfl) rfl)))) qb_nil)
      (qb_one (qs_ret qe_non)))), ?_⟩
    cases c with
    | msk lo wd bits t =>
      refine seq_k fun k hk => ?_
      (walk_at "rd"; try simp only [rdz, reduceIte, reduceCtorEq, Nat.reduceAdd, Nat.reduceSub, e, rowV, rdW])
      exact ⟨sl_le (by decide), fun p hp => q2 _ _ rfl p hp⟩
    | tab lo gs =>
      have eg := eg _ _ rfl
      (walk_at "rd"; try simp only [rdz, reduceIte, reduceCtorEq, Nat.reduceAdd, Nat.reduceSub, e, rowV, rdW, eg, List.length_map])
      exact ⟨sl_le (by decide), fun p hp => q2 _ _ rfl p hp⟩
    | _ => (walk_at "rd"; try simp only [rdz, reduceIte, reduceCtorEq, Nat.reduceAdd, Nat.reduceSub, e, rowV, rdW]); exact q1 rfl
theorem ok_holds (hB : ∀ x : Str, x ∈ BLs → mg x = none) (F : Fun K "holds" "holds" sHolds f fd) : FnOk P w K mg base CX0 1 f fd ["row", "number"] spHolds := by
  refine F.okq scHolds (fun vs H Q E h => ?_) (fun cdv A outer s H vs Q E hr h => ?_)
  · obtain ⟨x, c, n, rfl, _⟩ := h
    rfl
  · obtain ⟨x, c, n, rfl, ⟨a, g, rfl, e, eg⟩, hp, ht, hm, q⟩ := h
    refine ⟨_, (qb_cons (qs_if (qt_cmp (op_eqD hr.units0) (qe_ix ix_D (qe_nV nHolds_0) qe_int (fun _ _ => rfl)) qe_str (nomark _)) (qb_one (qs_ret (qe_cmp (op_eqD hr.units0) (qe_nV nHolds_1) (qe_ix ix_D (qe_nV nHolds_0) qe_int (fun _ _ => rfl)) (nomark _)))) qb_nil)
      (qb_cons (qs_if (qt_cmp (op_eqD hr.units0) (qe_ix ix_D (qe_nV nHolds_0) qe_int (fun _ _ => rfl)) qe_str (nomark _)) (qb_one (qs_ret (qe_chain op_le op_le (qe_ix ix_D (qe_nV nHolds_0) qe_int (fun _ _ => rfl)) (qe_nV nHolds_1) (qe_ix ix_D (qe_nV nHolds_0) qe_int (fun _ _ => rfl))))) qb_nil)
      (qb_cons (qs_if (qt_cmp (op_eqD hr.units0) (qe_ix ix_D (qe_nV nHolds_0) qe_int (fun _ _ => rfl)) qe_str (nomark _)) (qb_one (qs_ret (qe_cmp op_lt (qe_nV nHolds_1) (qe_ix ix_D (qe_nV nHolds_0) qe_int (fun _ _ => rfl)) (nomark _)))) qb_nil)
      (qb_one (qs_ret (qe_cmp (op_eqD hr.units0) (qe_op op_and (qe_op op_shr (qe_ix ix_D (qe_nV nHolds_0) qe_int (fun _ _ => rfl)) (qe_op op_sub (qe_nV nHolds_1) (qe_ix ix_D (qe_nV nHolds_0) qe_int (fun _ _ => rfl)))) qe_int) qe_int (nomark _))))))), ?_⟩
    cases c with
    | one a t => (walk_at "rd"; try simp only [rdz, reduceIte, reduceCtorEq, Nat.reduceAdd, Nat.reduceSub, e, rowV, rdW]); exact q
    | rng a b t =>
      (walk_at "rd"; try simp only [rdz, reduceIte, reduceCtorEq, Nat.reduceAdd, Nat.reduceSub, e, rowV, rdW])
      replace q : Q (.bl (decide (a ≤ n) && decide (n ≤ b))) H := q
      split
      · rename_i c1
        rw [decide_eq_true c1, Bool.true_and] at q
        exact q
      · rename_i c1
        rw [decide_eq_false c1, Bool.false_and] at q
        exact q
    | low a t => (walk_at "rd"; try simp only [rdz, reduceIte, reduceCtorEq, Nat.reduceAdd, Nat.reduceSub, e, rowV, rdW]); exact q
    | msk lo wd bits t =>
      have h0 := hm _ _ _ _ rfl
      (walk_at "rd"; try simp only [rdz, reduceIte, reduceCtorEq, Nat.reduceAdd, Nat.reduceSub, e, rowV, rdW])
      exact ⟨V.int bits, rfl, bits, rfl, h0, q⟩
    | tab lo gs => cases ht
    | pik l => cases hp
theorem ok_rbehind (hB : ∀ x : Str, x ∈ BLs → mg x = none) (XBeyond : XCal P w K mg base "Beyond" C D 1 ["self", "row"] (spXInit C "row")) (CEndsOf : Cal P w K mg base "ends_of" 1 ["row"] spEnds) (CHolds : Cal P w K mg base "holds" 1 ["row", "number"] spHolds) (F : Fun K "row_behind" "row_behind" sRowBehind f fd) : FnOk P w K mg base (CX1 P w) 3 f fd ["rows", "at", "number"] (spBehindX C) := by
  refine F.okq1 scRowBehind (fun vs H Q E h => ?_) (fun cdv A outer s H vs Q E hr h => ?_)
  · obtain ⟨l, ok, cs, j, n, c, rfl, _⟩ := h
    rfl
  · obtain ⟨l, ok, cs, j, n, c, rfl, tr, rows, hj, hc, hp, q, qx⟩ := h
    refine ⟨_, (qb_cons (qs_st nRowBehind_3 scRowBehind.nd (qe_ix ix_D (qe_nV nRowBehind_0) (qe_nV nRowBehind_1) (fun _ _ => rfl)) rfl (.inl rfl))
      (qb_cons (qs_st nRowBehind_4 scRowBehind.nd (qe_cl CEndsOf (hr.mono (by decide)) gRowBehind_EndsOf bnEndsOf (qa_cons (qe_nV nRowBehind_3) qa_nil rfl) rfl rfl) rfl (.inl rfl))
      (qb_cons (qs_if (qt_w (qw_and (qt_cmp op_notN (qe_nV nRowBehind_4) qe_non (nomark _)) (qw_and1 (qt_not (qt_chain op_le op_le (qe_ix ix_D (qe_nV nRowBehind_4) qe_int (fun _ _ => rfl)) (qe_nV nRowBehind_2) (qe_ix ix_D (qe_nV nRowBehind_4) qe_int (fun _ _ => rfl))))))) (qb_one (qs_raise XBeyond (hr.mono (by decide)) gRowBehind_Beyond rfl out1 (qa_cons (qe_nV nRowBehind_1) qa_nil rfl))) qb_nil)
      (qb_cons (qs_if (qt_cmp (op_eqD hr.units0) (qe_ix ix_D (qe_nV nRowBehind_3) qe_int (fun _ _ => rfl)) qe_str (nomark _)) (qb_one (qs_ret (qe_ix ix_D (qe_ix ix_D (qe_nV nRowBehind_3) qe_int (fun _ _ => rfl)) (qe_op op_sub (qe_nV nRowBehind_2) (qe_ix ix_D (qe_nV nRowBehind_3) qe_int (fun _ _ => rfl))) (fun _ _ => rfl)))) qb_nil)
      (qb_cons (qs_if (qt_val (qe_cl CHolds (hr.mono (by decide)) gRowBehind_Holds bnHolds (qa_cons (qe_nV nRowBehind_3) (qa_cons (qe_nV nRowBehind_2) qa_nil rfl) rfl) rfl rfl) (fun _ => rfl)) (qb_one (qs_ret (qe_ix ix_D (qe_nV nRowBehind_3) (qe_un un_neg qe_int) (fun _ _ => rfl)))) qb_nil)
      (qb_one (qs_ret (qe_op op_addD (qe_nV nRowBehind_1) qe_int)))))))), ?_⟩
    cases hst : stepC c j n with
    | some t =>
      replace q := q t hst
      cases tr with
      | lst o el zl tsl =>
        rename_i xs
        obtain ⟨x, hx, rx⟩ := tsl.row hc
        have hat := atI_nat hx
        refine seq_k fun k hk => ?_
        (walk_at "rd"; try simp only [rdz, reduceIte, reduceCtorEq, Nat.reduceAdd, Nat.reduceSub, el, hat])
        subst hk
        refine seq_k fun k hk => ?_
        (walk_at "rd"; try simp only [rdz, reduceIte, reduceCtorEq, Nat.reduceAdd, Nat.reduceSub])
        have rest : ∀ (v : V) H1, Same H H1 → (endsC c = none → v = .non) → (∀ lo hi, endsC c = some (lo, hi) → ∃ p, v = .ref p ∧ H1 p = some (.tup [.int lo, .int hi])) → k [some (.ref l), some (.int (j : Int)), some (.int n), some x, some v] H1 := by
          intro v H1 s1 hv1 hv2
          subst hk
          obtain ⟨a, g, rfl, e, eg⟩ := rx
          have e1 := s1 _ _ e
          have rx1 : RowAt H1 (.ref a) c := ⟨a, g, rfl, e1, fun lo gs hh => s1 _ _ (eg lo gs hh)⟩
          refine seq_k fun k hk => ?_
          cases c with
          | one a' t' =>
            have hv := hv1 rfl
            subst hv
            (walk_at "rd"; try simp only [rdz, reduceIte, reduceCtorEq, Nat.reduceAdd, Nat.reduceSub])
            subst hk
            refine seq_k fun k hk => ?_
            (walk_at "rd"; try simp only [rdz, reduceIte, reduceCtorEq, Nat.reduceAdd, Nat.reduceSub, e1, rowV, rdW])
            subst hk
            refine seq_k fun k hk => ?_
            (walk_at "rd"; try simp only [rdz, reduceIte, reduceCtorEq, Nat.reduceAdd, Nat.reduceSub])
            refine ⟨.ref a, _, n, rfl, rx1, rfl, rfl, fun _ _ _ _ h => (by cases h), ?_⟩
            (walk_at "rd"; try simp only [rdz, reduceIte, reduceCtorEq, Nat.reduceAdd, Nat.reduceSub])
            replace hst : some (if n = a' then t' else (j : Int) + 1) = some t := hst
            cases hh : holdsC (.one a' t') n with
            | true =>
              rw [if_pos (of_decide_eq_true hh)] at hst
              cases hst
              rw [if_pos rfl]
              (walk_at "rd"; try simp only [rdz, reduceIte, reduceCtorEq, Nat.reduceAdd, Nat.reduceSub, e1, rowV])
              exact q _ s1
            | false =>
              rw [if_neg (of_decide_eq_false hh)] at hst
              cases hst
              rw [if_neg (by decide)]
              subst hk
              (walk_at "rd"; try simp only [rdz, reduceIte, reduceCtorEq, Nat.reduceAdd, Nat.reduceSub])
              exact q _ s1
          | rng a' b' t' =>
            have hv := hv1 rfl
            subst hv
            (walk_at "rd"; try simp only [rdz, reduceIte, reduceCtorEq, Nat.reduceAdd, Nat.reduceSub])
            subst hk
            refine seq_k fun k hk => ?_
            (walk_at "rd"; try simp only [rdz, reduceIte, reduceCtorEq, Nat.reduceAdd, Nat.reduceSub, e1, rowV, rdW])
            subst hk
            refine seq_k fun k hk => ?_
            (walk_at "rd"; try simp only [rdz, reduceIte, reduceCtorEq, Nat.reduceAdd, Nat.reduceSub])
            refine ⟨.ref a, _, n, rfl, rx1, rfl, rfl, fun _ _ _ _ h => (by cases h), ?_⟩
            (walk_at "rd"; try simp only [rdz, reduceIte, reduceCtorEq, Nat.reduceAdd, Nat.reduceSub])
            replace hst : some (if a' ≤ n ∧ n ≤ b' then t' else (j : Int) + 1) = some t := hst
            cases hh : holdsC (.rng a' b' t') n with
            | true =>
              have h2 : (decide (a' ≤ n) && decide (n ≤ b')) = true := hh
              rw [Bool.and_eq_true, decide_eq_true_eq, decide_eq_true_eq] at h2
              rw [if_pos h2] at hst
              cases hst
              rw [if_pos rfl]
              (walk_at "rd"; try simp only [rdz, reduceIte, reduceCtorEq, Nat.reduceAdd, Nat.reduceSub, e1, rowV])
              exact ⟨_, rfl, q _ s1⟩
            | false =>
              have h2 : ¬ (a' ≤ n ∧ n ≤ b') := fun z => by
                have h3 : (decide (a' ≤ n) && decide (n ≤ b')) = false := hh
                rw [decide_eq_true z.1, decide_eq_true z.2] at h3
                cases h3
              rw [if_neg h2] at hst
              cases hst
              rw [if_neg (by decide)]
              subst hk
              (walk_at "rd"; try simp only [rdz, reduceIte, reduceCtorEq, Nat.reduceAdd, Nat.reduceSub])
              exact q _ s1
          | low a' t' =>
            have hv := hv1 rfl
            subst hv
            (walk_at "rd"; try simp only [rdz, reduceIte, reduceCtorEq, Nat.reduceAdd, Nat.reduceSub])
            subst hk
            refine seq_k fun k hk => ?_
            (walk_at "rd"; try simp only [rdz, reduceIte, reduceCtorEq, Nat.reduceAdd, Nat.reduceSub, e1, rowV, rdW])
            subst hk
            refine seq_k fun k hk => ?_
            (walk_at "rd"; try simp only [rdz, reduceIte, reduceCtorEq, Nat.reduceAdd, Nat.reduceSub])
            refine ⟨.ref a, _, n, rfl, rx1, rfl, rfl, fun _ _ _ _ h => (by cases h), ?_⟩
            (walk_at "rd"; try simp only [rdz, reduceIte, reduceCtorEq, Nat.reduceAdd, Nat.reduceSub])
            replace hst : some (if n < a' then t' else (j : Int) + 1) = some t := hst
            cases hh : holdsC (.low a' t') n with
            | true =>
              rw [if_pos (of_decide_eq_true hh)] at hst
              cases hst
              rw [if_pos rfl]
              (walk_at "rd"; try simp only [rdz, reduceIte, reduceCtorEq, Nat.reduceAdd, Nat.reduceSub, e1, rowV])
              exact q _ s1
            | false =>
              rw [if_neg (of_decide_eq_false hh)] at hst
              cases hst
              rw [if_neg (by decide)]
              subst hk
              (walk_at "rd"; try simp only [rdz, reduceIte, reduceCtorEq, Nat.reduceAdd, Nat.reduceSub])
              exact q _ s1
          | msk lo wd bits t' =>
            obtain ⟨pe, rfl, ee⟩ := hv2 _ _ rfl
            replace hst : (if 0 ≤ n - lo ∧ n - lo < wd then some (if bitAt bits (n - lo) = true then t' else (j : Int) + 1) else none) = some t := hst
            have hin : 0 ≤ n - lo ∧ n - lo < wd := by
              cases Decidable.em (0 ≤ n - lo ∧ n - lo < wd) with
              | inl z => exact z
              | inr z => rw [if_neg z] at hst; cases hst
            rw [if_pos hin] at hst
            (walk_at "rd"; try simp only [rdz, reduceIte, reduceCtorEq, Nat.reduceAdd, Nat.reduceSub, ee])
            rw [if_pos (show lo ≤ n by omega), decide_eq_true (show n ≤ lo + wd - 1 by omega), Bool.not_true, if_neg (by decide)]
            subst hk
            refine seq_k fun k hk => ?_
            (walk_at "rd"; try simp only [rdz, reduceIte, reduceCtorEq, Nat.reduceAdd, Nat.reduceSub, e1, rowV, rdW])
            subst hk
            refine seq_k fun k hk => ?_
            (walk_at "rd"; try simp only [rdz, reduceIte, reduceCtorEq, Nat.reduceAdd, Nat.reduceSub])
            refine ⟨.ref a, _, n, rfl, rx1, rfl, rfl, fun _ _ _ _ h => (by cases h; exact hin.1), ?_⟩
            (walk_at "rd"; try simp only [rdz, reduceIte, reduceCtorEq, Nat.reduceAdd, Nat.reduceSub])
            cases hh : holdsC (.msk lo wd bits t') n with
            | true =>
              rw [if_pos (show bitAt bits (n - lo) = true from hh)] at hst
              cases hst
              rw [if_pos rfl]
              (walk_at "rd"; try simp only [rdz, reduceIte, reduceCtorEq, Nat.reduceAdd, Nat.reduceSub, e1, rowV])
              exact ⟨_, rfl, q _ s1⟩
            | false =>
              rw [if_neg (by rw [show bitAt bits (n - lo) = false from hh]; decide)] at hst
              cases hst
              rw [if_neg (by decide)]
              subst hk
              (walk_at "rd"; try simp only [rdz, reduceIte, reduceCtorEq, Nat.reduceAdd, Nat.reduceSub])
              exact q _ s1
          | tab lo gs =>
            obtain ⟨pe, rfl, ee⟩ := hv2 _ _ rfl
            have eg1 := s1 _ _ (eg _ _ rfl)
            replace hst : (if 0 ≤ n - lo ∧ n - lo < gs.length then gs[(n - lo).toNat]? else none) = some t := hst
            have hin : 0 ≤ n - lo ∧ n - lo < gs.length := by
              cases Decidable.em (0 ≤ n - lo ∧ n - lo < gs.length) with
              | inl z => exact z
              | inr z => rw [if_neg z] at hst; cases hst
            rw [if_pos hin] at hst
            have hat2 : atI (gs.map V.int) (n - lo) = some (V.int t) := by
              have h3 : (gs.map V.int)[(n - lo).toNat]? = some (V.int t) := by rw [List.getElem?_map, hst]; rfl
              have h4 := atI_nat h3
              rw [show (((n - lo).toNat : Nat) : Int) = n - lo by omega] at h4
              exact h4
            (walk_at "rd"; try simp only [rdz, reduceIte, reduceCtorEq, Nat.reduceAdd, Nat.reduceSub, ee])
            rw [if_pos (show lo ≤ n by omega), decide_eq_true (show n ≤ lo + gs.length - 1 by omega), Bool.not_true, if_neg (by decide)]
            subst hk
            refine seq_k fun k hk => ?_
            (walk_at "rd"; try simp only [rdz, reduceIte, reduceCtorEq, Nat.reduceAdd, Nat.reduceSub, e1, rowV, rdW, eg1, hat2])
            exact q _ s1
          | pik l => cases hp
        refine ⟨x, c, rfl, rx, fun hn => ?_, fun lo hi hn p hp => ?_⟩
        · exact rest .non H (Same.refl _) (fun _ => rfl) (fun lo hi z => by rw [hn] at z; cases z)
        · exact rest (.ref p) _ (same_upd hp) (fun z => by rw [hn] at z; cases z) (fun lo' hi' z => by rw [hn] at z; cases z; exact ⟨p, rfl, upd_same⟩)
    | none =>
      replace qx := qx hst
      cases tr with
      | lst o el zl tsl =>
        rename_i xs
        obtain ⟨x, hx, rx⟩ := tsl.row hc
        have hat := atI_nat hx
        refine seq_k fun k hk => ?_
        (walk_at "rd"; try simp only [rdz, reduceIte, reduceCtorEq, Nat.reduceAdd, Nat.reduceSub, el, hat])
        subst hk
        refine seq_k fun k hk => ?_
        (walk_at "rd"; try simp only [rdz, reduceIte, reduceCtorEq, Nat.reduceAdd, Nat.reduceSub])
        have rest : ∀ (v : V) H1, Same H H1 → (endsC c = none → v = .non) → (∀ lo hi, endsC c = some (lo, hi) → ∃ p, v = .ref p ∧ H1 p = some (.tup [.int lo, .int hi])) → k [some (.ref l), some (.int (j : Int)), some (.int n), some x, some v] H1 := by
          intro v H1 s1 hv1 hv2
          subst hk
          obtain ⟨a, g, rfl, e, eg⟩ := rx
          have e1 := s1 _ _ e
          refine seq_k fun k hk => ?_
          cases c with
          | one a' t' => cases hst
          | rng a' b' t' => cases hst
          | low a' t' => cases hst
          | pik l => cases hp
          | msk lo wd bits t' =>
            obtain ⟨pe, rfl, ee⟩ := hv2 _ _ rfl
            (walk_at "rd"; try simp only [rdz, reduceIte, reduceCtorEq, Nat.reduceAdd, Nat.reduceSub, ee, tRaise])
            have hin : ¬ (0 ≤ n - lo ∧ n - lo < wd) := fun z => by
              replace hst : (if 0 ≤ n - lo ∧ n - lo < wd then some (if bitAt bits (n - lo) = true then t' else (j : Int) + 1) else none) = none := hst
              rw [if_pos z] at hst; cases hst
            have go := refused_go (E := E) (C := C) (fld := "row") (j := (j : Int)) (by omega) s1 qx
            split
            · rename_i c1
              rw [decide_eq_false (show ¬ n ≤ lo + wd - 1 by omega), Bool.not_false, if_pos rfl]
              exact go
            · exact go
          | tab lo gs =>
            obtain ⟨pe, rfl, ee⟩ := hv2 _ _ rfl
            (walk_at "rd"; try simp only [rdz, reduceIte, reduceCtorEq, Nat.reduceAdd, Nat.reduceSub, ee, tRaise])
            have hin : ¬ (0 ≤ n - lo ∧ n - lo < gs.length) := fun z => by
              replace hst : (if 0 ≤ n - lo ∧ n - lo < gs.length then gs[(n - lo).toNat]? else none) = none := hst
              rw [if_pos z, List.getElem?_eq_none_iff] at hst
              omega
            have go := refused_go (E := E) (C := C) (fld := "row") (j := (j : Int)) (by omega) s1 qx
            split
            · rename_i c1
              rw [decide_eq_false (show ¬ n ≤ lo + gs.length - 1 by omega), Bool.not_false, if_pos rfl]
              exact go
            · exact go
        refine ⟨x, c, rfl, rx, fun hn => ?_, fun lo hi hn p hp => ?_⟩
        · exact rest .non H (Same.refl _) (fun _ => rfl) (fun lo hi z => by rw [hn] at z; cases z)
        · exact rest (.ref p) _ (same_upd hp) (fun z => by rw [hn] at z; cases z) (fun lo' hi' z => by rw [hn] at z; cases z; exact ⟨p, rfl, upd_same⟩)
end
end K44
namespace K44
open PySem L2 PyProof.Rows
abbrev sRun : Stmt := top 13
theorem scRun : FnScope ["rows", "number", "at", "done"] ["rows", "number"] (defScope sRun) := ⟨rfl, rfl, rfl, by decide +kernel, rfl, by decide +kernel, by decide +kernel⟩
theorem nRun_0 : Nm ["rows", "number", "at", "done"] (defScope sRun) 0 "rows" := .of (by decide +kernel)
theorem nRun_1 : Nm ["rows", "number", "at", "done"] (defScope sRun) 1 "number" := .of (by decide +kernel)
theorem nRun_2 : Nm ["rows", "number", "at", "done"] (defScope sRun) 2 "at" := .of (by decide +kernel)
theorem nRun_3 : Nm ["rows", "number", "at", "done"] (defScope sRun) 3 "done" := .of (by decide +kernel)
theorem gRun_RowBehind : (defScope sRun).names.lookup ("row_behind" : Str) = some .globalImplicit := by decide +kernel
theorem bnRun : Bn "run" := ⟨by decide +kernel, by decide +kernel⟩
abbrev sZRun : Stmt := top 26
theorem scZRun : FnScope ["_law_rows_here", "_law_number", "_law_done", "_law_after"] ["_law_rows_here", "_law_number"] (defScope sZRun) := ⟨rfl, rfl, rfl, by decide +kernel, rfl, by decide +kernel, by decide +kernel⟩
theorem nZRun_0 : Nm ["_law_rows_here", "_law_number", "_law_done", "_law_after"] (defScope sZRun) 0 "_law_rows_here" := .of (by decide +kernel)
theorem nZRun_1 : Nm ["_law_rows_here", "_law_number", "_law_done", "_law_after"] (defScope sZRun) 1 "_law_number" := .of (by decide +kernel)
theorem nZRun_2 : Nm ["_law_rows_here", "_law_number", "_law_done", "_law_after"] (defScope sZRun) 2 "_law_done" := .of (by decide +kernel)
theorem nZRun_3 : Nm ["_law_rows_here", "_law_number", "_law_done", "_law_after"] (defScope sZRun) 3 "_law_after" := .of (by decide +kernel)
theorem gZRun_ZBehind : (defScope sZRun).names.lookup ("_law_behind" : Str) = some .globalImplicit := by decide +kernel
theorem bnZRun : Bn "_law_run" := ⟨by decide +kernel, by decide +kernel⟩
section
variable {P : Program} {w : World} {K : PySem.W.Frag} {mg : Str → Option Value} {base : Heap} {f : Addr} {fd : FuncData} {bs : List Str} {C : Addr}
theorem ok_lbehind (hB : ∀ x : Str, x ∈ BLs → mg x = none) (F : Fun K "_law_behind" "_law_behind" sZBehind f fd) : FnOk P w K mg base CX0 1 f fd ["_law_rows_here", "_law_at", "_law_number"] spBehindL := by
  refine F.okq scZBehind (fun vs H Q E h => ?_) (fun cdv A outer s H vs Q E hr h => ?_)
  · obtain ⟨l, ok, cs, j, n, c, rfl, _⟩ := h
    rfl
  · obtain ⟨l, ok, cs, j, n, c, rfl, tr, rows, hc, hp, q⟩ := h
    refine ⟨_, (qb_cons (qs_st nZBehind_3 scZBehind.nd (qe_ix ix_D (qe_nV nZBehind_0) (qe_nV nZBehind_1) (fun _ _ => rfl)) rfl (.inl rfl))
      (qb_cons (qs_if (qt_cmp (op_eqD hr.units0) (qe_ix ix_D (qe_nV nZBehind_3) qe_int (fun _ _ => rfl)) qe_str (nomark _)) (qb_one (qs_ret (qe_if (qt_cmp (op_eqD hr.units0) (qe_nV nZBehind_2) (qe_ix ix_D (qe_nV nZBehind_3) qe_int (fun _ _ => rfl)) (nomark _)) (qe_ix ix_D (qe_nV nZBehind_3) qe_int (fun _ _ => rfl)) (qe_op op_addD (qe_nV nZBehind_1) qe_int)))) qb_nil)
      (qb_cons (qs_if (qt_cmp (op_eqD hr.units0) (qe_ix ix_D (qe_nV nZBehind_3) qe_int (fun _ _ => rfl)) qe_str (nomark _)) (qb_one (qs_ret (qe_if (qt_chain op_le op_le (qe_ix ix_D (qe_nV nZBehind_3) qe_int (fun _ _ => rfl)) (qe_nV nZBehind_2) (qe_ix ix_D (qe_nV nZBehind_3) qe_int (fun _ _ => rfl))) (qe_ix ix_D (qe_nV nZBehind_3) qe_int (fun _ _ => rfl)) (qe_op op_addD (qe_nV nZBehind_1) qe_int)))) qb_nil)
      (qb_cons (qs_if (qt_cmp (op_eqD hr.units0) (qe_ix ix_D (qe_nV nZBehind_3) qe_int (fun _ _ => rfl)) qe_str (nomark _)) (qb_one (qs_ret (qe_if (qt_cmp op_lt (qe_nV nZBehind_2) (qe_ix ix_D (qe_nV nZBehind_3) qe_int (fun _ _ => rfl)) (nomark _)) (qe_ix ix_D (qe_nV nZBehind_3) qe_int (fun _ _ => rfl)) (qe_op op_addD (qe_nV nZBehind_1) qe_int)))) qb_nil)
      (qb_cons (qs_st nZBehind_4 scZBehind.nd (qe_op op_sub (qe_nV nZBehind_2) (qe_ix ix_D (qe_nV nZBehind_3) qe_int (fun _ _ => rfl))) rfl (.inl rfl))
      (qb_cons (qs_if (qt_w (qw_or (qt_cmp op_lt (qe_nV nZBehind_4) qe_int (nomark _)) (qw_or1 (qt_cmp op_ge (qe_nV nZBehind_4) (qe_if (qt_cmp (op_eqD hr.units0) (qe_ix ix_D (qe_nV nZBehind_3) qe_int (fun _ _ => rfl)) qe_str (nomark _)) (qe_ix ix_D (qe_nV nZBehind_3) qe_int (fun _ _ => rfl)) (qe_cb call_len_D gZBehind_len (hB "len" mB_len) PySem.boot_len bn_len (qa_cons (qe_ix ix_D (qe_nV nZBehind_3) qe_int (fun _ _ => rfl)) qa_nil rfl) rfl rfl)) (nomark _))))) (qb_one (qs_ret qe_non)) qb_nil)
      (qb_cons (qs_if (qt_cmp (op_eqD hr.units0) (qe_ix ix_D (qe_nV nZBehind_3) qe_int (fun _ _ => rfl)) qe_str (nomark _)) (qb_one (qs_ret (qe_ix ix_D (qe_ix ix_D (qe_nV nZBehind_3) qe_int (fun _ _ => rfl)) (qe_nV nZBehind_4) (fun _ _ => rfl)))) qb_nil)
      (qb_one (qs_ret (qe_if (qt_cmp (op_eqD hr.units0) (qe_op op_and (qe_op op_shr (qe_ix ix_D (qe_nV nZBehind_3) qe_int (fun _ _ => rfl)) (qe_nV nZBehind_4)) qe_int) qe_int (nomark _)) (qe_ix ix_D (qe_nV nZBehind_3) qe_int (fun _ _ => rfl)) (qe_op op_addD (qe_nV nZBehind_1) qe_int))))))))))), ?_⟩
    replace q := q _ (Same.refl _)
    cases tr with
    | lst o el zl tsl =>
      rename_i xs
      obtain ⟨x, hx, ⟨a, g, rfl, e, eg⟩⟩ := tsl.row hc
      have hat := atI_nat hx
      refine seq_k fun k hk => ?_
      (walk_at "rd"; try simp only [rdz, reduceIte, reduceCtorEq, Nat.reduceAdd, Nat.reduceSub, el, hat])
      subst hk
      cases c with
      | one a' t' =>
        replace q : Q (.int (if n = a' then t' else (j : Int) + 1)) H := q
        refine seq_k fun k hk => ?_
        (walk_at "rd"; try simp only [rdz, reduceIte, reduceCtorEq, Nat.reduceAdd, Nat.reduceSub, e, rowV, rdW])
        split
        · rename_i c1; rw [if_pos c1] at q; exact q
        · rename_i c1; rw [if_neg c1] at q; exact q
      | rng a' b' t' =>
        replace q : Q (.int (if a' ≤ n ∧ n ≤ b' then t' else (j : Int) + 1)) H := q
        refine seq_k fun k hk => ?_
        (walk_at "rd"; try simp only [rdz, reduceIte, reduceCtorEq, Nat.reduceAdd, Nat.reduceSub, e, rowV, rdW])
        subst hk
        refine seq_k fun k hk => ?_
        (walk_at "rd"; try simp only [rdz, reduceIte, reduceCtorEq, Nat.reduceAdd, Nat.reduceSub, e, rowV, rdW])
        by_cases c1 : a' ≤ n
        · rw [if_pos c1]
          by_cases c2 : n ≤ b'
          · rw [if_pos c2]
            rw [if_pos ⟨c1, c2⟩] at q
            exact ⟨_, rfl, q⟩
          · rw [if_neg c2]
            rw [if_neg fun z => c2 z.2] at q
            exact q
        · rw [if_neg c1]
          rw [if_neg fun z => c1 z.1] at q
          exact q
      | low a' t' =>
        replace q : Q (.int (if n < a' then t' else (j : Int) + 1)) H := q
        refine seq_k fun k hk => ?_
        (walk_at "rd"; try simp only [rdz, reduceIte, reduceCtorEq, Nat.reduceAdd, Nat.reduceSub, e, rowV, rdW])
        subst hk
        refine seq_k fun k hk => ?_
        (walk_at "rd"; try simp only [rdz, reduceIte, reduceCtorEq, Nat.reduceAdd, Nat.reduceSub, e, rowV, rdW])
        subst hk
        refine seq_k fun k hk => ?_
        (walk_at "rd"; try simp only [rdz, reduceIte, reduceCtorEq, Nat.reduceAdd, Nat.reduceSub, e, rowV, rdW])
        split
        · rename_i c1; rw [if_pos c1] at q; exact q
        · rename_i c1; rw [if_neg c1] at q; exact q
      | msk lo wd bits t' =>
        replace q : Q (optV (if 0 ≤ n - lo ∧ n - lo < wd then some (if bitAt bits (n - lo) = true then t' else (j : Int) + 1) else none)) H := q
        refine seq_k fun k hk => ?_
        (walk_at "rd"; try simp only [rdz, reduceIte, reduceCtorEq, Nat.reduceAdd, Nat.reduceSub, e, rowV, rdW])
        subst hk
        refine seq_k fun k hk => ?_
        (walk_at "rd"; try simp only [rdz, reduceIte, reduceCtorEq, Nat.reduceAdd, Nat.reduceSub, e, rowV, rdW])
        subst hk
        refine seq_k fun k hk => ?_
        (walk_at "rd"; try simp only [rdz, reduceIte, reduceCtorEq, Nat.reduceAdd, Nat.reduceSub, e, rowV, rdW])
        subst hk
        refine seq_k fun k hk => ?_
        (walk_at "rd"; try simp only [rdz, reduceIte, reduceCtorEq, Nat.reduceAdd, Nat.reduceSub, e, rowV, rdW])
        subst hk
        refine seq_k fun k hk => ?_
        (walk_at "rd"; try simp only [rdz, reduceIte, reduceCtorEq, Nat.reduceAdd, Nat.reduceSub, e, rowV, rdW])
        by_cases c1 : n - lo < 0
        · rw [if_pos c1]
          rw [if_neg (by omega)] at q
          exact q
        · rw [if_neg c1]
          by_cases c2 : wd ≤ n - lo
          · rw [if_pos c2]
            rw [if_neg (by omega)] at q
            exact q
          · rw [if_neg c2]
            rw [if_pos (by omega)] at q
            subst hk
            refine seq_k fun k hk => ?_
            (walk_at "rd"; try simp only [rdz, reduceIte, reduceCtorEq, Nat.reduceAdd, Nat.reduceSub, e, rowV, rdW])
            subst hk
            (walk_at "rd"; try simp only [rdz, reduceIte, reduceCtorEq, Nat.reduceAdd, Nat.reduceSub, e, rowV, rdW])
            refine ⟨_, rfl, bits, rfl, by omega, ?_⟩
            by_cases c3 : Builtin.bitAnd (bits / 2 ^ (n - lo).toNat) 1 = 1
            · rw [if_pos c3]
              rw [if_pos (show bitAt bits (n - lo) = true from decide_eq_true c3)] at q
              exact ⟨_, rfl, q⟩
            · rw [if_neg c3]
              rw [if_neg (by rw [show bitAt bits (n - lo) = false from decide_eq_false c3]; decide)] at q
              exact q
      | tab lo gs =>
        have eg := eg _ _ rfl
        replace q : Q (optV (if 0 ≤ n - lo ∧ n - lo < gs.length then gs[(n - lo).toNat]? else none)) H := q
        refine seq_k fun k hk => ?_
        (walk_at "rd"; try simp only [rdz, reduceIte, reduceCtorEq, Nat.reduceAdd, Nat.reduceSub, e, rowV, rdW])
        subst hk
        refine seq_k fun k hk => ?_
        (walk_at "rd"; try simp only [rdz, reduceIte, reduceCtorEq, Nat.reduceAdd, Nat.reduceSub, e, rowV, rdW])
        subst hk
        refine seq_k fun k hk => ?_
        (walk_at "rd"; try simp only [rdz, reduceIte, reduceCtorEq, Nat.reduceAdd, Nat.reduceSub, e, rowV, rdW])
        subst hk
        refine seq_k fun k hk => ?_
        (walk_at "rd"; try simp only [rdz, reduceIte, reduceCtorEq, Nat.reduceAdd, Nat.reduceSub, e, rowV, rdW])
        subst hk
        refine seq_k fun k hk => ?_
        (walk_at "rd"; try simp only [rdz, reduceIte, reduceCtorEq, Nat.reduceAdd, Nat.reduceSub, e, rowV, rdW, eg, List.length_map])
        by_cases c1 : n - lo < 0
        · rw [if_pos c1]
          rw [if_neg (by omega)] at q
          exact q
        · rw [if_neg c1]
          by_cases c2 : (gs.length : Int) ≤ n - lo
          · rw [if_pos c2]
            rw [if_neg (by omega)] at q
            exact q
          · rw [if_neg c2]
            rw [if_pos (by omega)] at q
            have hj : (n - lo).toNat < gs.length := by omega
            have h3 : (gs.map V.int)[(n - lo).toNat]? = some (V.int gs[(n - lo).toNat]) := by rw [List.getElem?_map, List.getElem?_eq_getElem hj]; rfl
            have h4 := atI_nat h3
            rw [show (((n - lo).toNat : Nat) : Int) = n - lo by omega] at h4
            rw [List.getElem?_eq_getElem hj] at q
            subst hk
            refine seq_k fun k hk => ?_
            (walk_at "rd"; try simp only [rdz, reduceIte, reduceCtorEq, Nat.reduceAdd, Nat.reduceSub, e, rowV, rdW, eg, h4])
            exact q
      | pik l => cases hp
theorem ok_run (hB : ∀ x : Str, x ∈ BLs → mg x = none) (CRowBehind : Cal1 P w K mg base "row_behind" 3 ["rows", "at", "number"] (spBehindX C)) (F : Fun K "run" "run" sRun f fd) : FnOk P w K mg base (CX1 P w) 4 f fd ["rows", "number"] (spRunY C) := by
  refine F.okq1 scRun (fun vs H Q E h => ?_) (fun cdv A outer s H vs Q E hr h => ?_)
  · obtain ⟨l, ok, cs, n, rfl, _⟩ := h
    rfl
  · obtain ⟨l, ok, cs, n, rfl, tr, rows, q, qx⟩ := h
    refine ⟨_, (qb_cons (qs_st nRun_2 scRun.nd qe_int rfl (.inl rfl))
      (qb_cons (qs_st nRun_3 scRun.nd (qe_lst (qa_cons (qe_nV nRun_2) qa_nil rfl)) rfl (.inl rfl))
      (qb_cons (qs_while own1 (qt_cmp (op_neD hr.units0) (qe_ix ix_D (qe_ix ix_D (qe_nV nRun_0) (qe_nV nRun_2) (fun _ _ => rfl)) qe_int (fun _ _ => rfl)) qe_str (nomark _)) (qb_cons (qs_st nRun_2 scRun.nd (qe_cl1 CRowBehind (hr.mono (by decide)) gRun_RowBehind bnRowBehind pass1 (qa_cons (qe_nV nRun_0) (qa_cons (qe_nV nRun_2) (qa_cons (qe_nV nRun_1) qa_nil rfl) rfl) rfl) rfl rfl) rfl (.inl rfl))
      (qb_one (qs_expr (qe_appD (qe_nV nRun_3) (qe_nV nRun_2) rfl rfl rfl rfl rfl) rfl))))
      (qb_one (qs_ret (qe_tup (qa_cons (qe_ix ix_D (qe_ix ix_D (qe_nV nRun_0) (qe_nV nRun_2) (fun _ _ => rfl)) qe_int (fun _ _ => rfl)) (qa_cons (qe_nV nRun_3) qa_nil rfl) rfl))))))), ?_⟩
    have tr0 := tr
    cases tr with
    | lst o el zl tsl =>
      rename_i xs
      have hxl := tsl.length
      rw [List.length_map] at hxl
      refine seq_k fun k hk => ?_
      (walk_at "rd"; try simp only [rdz, reduceIte, reduceCtorEq, Nat.reduceAdd, Nat.reduceSub])
      subst hk
      refine seq_k fun k hk => ?_
      (walk_at "rd"; try simp only [rdz, reduceIte, reduceCtorEq, Nat.reduceAdd, Nat.reduceSub])
      refine ⟨sl_le (by decide), fun ld hld => ?_⟩
      have s0 := same_upd (o := HO.lst [V.int 0]) hld
      have e0 : upd H ld (HO.lst [V.int 0]) ld = _ := upd_same
      generalize upd H ld (HO.lst [V.int 0]) = H0 at s0 e0 ⊢
      subst hk
      refine seq_k fun k hk => ?_
      obtain ⟨Pv, hPv⟩ : ∃ Pv : L2.St → Hp → Prop, Pv = fun σ H' => ∃ (pre : List Int) (j kf : Nat), Same H H' ∧ H' ld = some (.lst ((pre ++ [(j : Int)]).map V.int)) ∧ pre.length ≤ j ∧ j < cs.length ∧ cs.length ≤ j + kf ∧ runOf cs n = ((runC cs n kf j).1, pre ++ (runC cs n kf j).2) ∧ σ = [some (.ref l), some (.int n), some (.int (j : Int)), some (.ref ld)] := ⟨_, rfl⟩
      refine while_m Pv (μRun cs.length) (by rw [hPv]; exact ⟨[], 0, cs.length, s0, e0, Nat.le_refl _, rows.1, by omega, rfl, rfl⟩) ?_
      intro σ H1 pv
      rw [hPv] at pv
      obtain ⟨pre, j, kf, s1, e1, hpj, hj, hkf, hrun, rfl⟩ := pv
      have hc : cs[j]? = some cs[j] := List.getElem?_eq_getElem hj
      have el1 := s1 _ _ el
      obtain ⟨x, hx, rx⟩ := (tsl.same s1).row hc
      have hat := atI_nat hx
      have rx' := rx
      obtain ⟨a, g, rfl, e, eg⟩ := rx
      obtain ⟨kf, rfl⟩ : ∃ k', kf = k' + 1 := ⟨kf - 1, by omega⟩
      generalize hcj : cs[j] = c at hc rx' e eg
      cases hp : isPik c with
      | true =>
        cases c with
        | pik lb =>
          have hr0 := runC_pik (n := n) (k := kf) (a := (j : Int)) (l := lb) (by rw [Int.toNat_natCast]; exact hc)
          rw [hr0] at hrun
          (walk_at "rd"; try simp only [rdz, reduceIte, reduceCtorEq, Nat.reduceAdd, Nat.reduceSub, el1, hat, e, rowV, rdW])
          subst hk
          (walk_at "rd"; try simp only [rdz, reduceIte, reduceCtorEq, Nat.reduceAdd, Nat.reduceSub, el1, hat, e, rowV, rdW])
          refine ⟨sl_le (by decide), fun t ht => ?_⟩
          have st := same_upd (o := HO.tup [V.int lb, V.ref ld]) ht
          exact q lb (by rw [hrun]) t ld _ (s1.trans st) (s1.none ht) hld (ne_of_none e1 ht).symm upd_same (by rw [hrun]; exact st _ _ e1)
        | _ => cases hp
      | false =>
        (walk_at "rd"; try simp only [rdz, reduceIte, reduceCtorEq, Nat.reduceAdd, Nat.reduceSub, el1, hat, e])
        refine ⟨_, row_word c g, ?_⟩
        (walk_at "rd"; try simp only [rdz, reduceIte, reduceCtorEq, Nat.reduceAdd, Nat.reduceSub])
        rw [decide_eq_false (word_pik hp), Bool.not_false, if_pos rfl]
        refine ⟨fun σ' H' => Pv σ' H' ∧ μRun cs.length σ' < cs.length - j, fun σ' H' h => ⟨_, h.2, rfl, h.1⟩, ?_⟩
        have hc' : cs[((j : Nat) : Int).toNat]? = some c := by rw [Int.toNat_natCast]; exact hc
        cases hst : stepC c (j : Int) n with
        | none =>
          rw [runC_no hc' hp hst] at hrun
          (walk_at "rd"; try simp only [rdz, reduceIte, reduceCtorEq, Nat.reduceAdd, Nat.reduceSub])
          refine ⟨l, ok, cs, j, n, c, rfl, tr0.same s1, rows, by omega, hc, hp, fun t z => (by rw [hst] at z; cases z), fun _ dx H2 s2 hdx => ?_⟩
          exact qx (by rw [hrun]) pre (j : Int) dx H2 (s1.trans s2) (by rw [hrun]) hdx
        | some t =>
          have hb := stepC_btw rows hc hst
          obtain ⟨tn, rfl⟩ := Int.eq_ofNat_of_zero_le (show 0 ≤ t by omega)
          rw [runC_go hc' hp hst] at hrun
          refine ⟨l, ok, cs, j, n, c, rfl, tr0.same s1, rows, by omega, hc, hp, fun t z H2 s2 => ?_, fun z => by rw [hst] at z; cases z⟩
          rw [hst] at z
          cases z
          have e2 := s2 _ _ e1
          (walk_at "rd"; try simp only [rdz, reduceIte, reduceCtorEq, Nat.reduceAdd, Nat.reduceSub, e2])
          refine ⟨Nat.lt_of_le_of_lt (pl9 hpj hj (by rw [← hxl]; exact zl)) (by decide), ?_, by show cs.length - ((tn : Nat) : Int).toNat < cs.length - j; omega⟩
          rw [hPv]
          refine ⟨pre ++ [(j : Int)], tn, kf, same_upd2 (s1.trans s2) hld, ?_, by rw [List.length_append, List.length_singleton]; omega, by omega, by omega, ?_, rfl⟩
          · rw [upd_same, List.map_append (l₁ := pre ++ [(j : Int)])]
            rfl
          · rw [hrun, List.append_assoc]
            rfl
theorem ok_lrun (hB : ∀ x : Str, x ∈ BLs → mg x = none) (CZBehind : Cal P w K mg base "_law_behind" 1 ["_law_rows_here", "_law_at", "_law_number"] spBehindL) (F : Fun K "_law_run" "_law_run" sZRun f fd) : FnOk P w K mg base CX0 2 f fd ["_law_rows_here", "_law_number"] (spRun false) := by
  refine F.okq scZRun (fun vs H Q E h => ?_) (fun cdv A outer s H vs Q E hr h => ?_)
  · obtain ⟨l, ok, cs, n, rfl, _⟩ := h
    rfl
  · obtain ⟨l, ok, cs, n, rfl, tr, rows, _, q⟩ := h
    refine ⟨_, (qb_cons (qs_st nZRun_2 scZRun.nd (qe_lst (qa_cons qe_int qa_nil rfl)) rfl (.inl rfl))
      (qb_cons (qs_while PassesOwn.never (qt_cmp (op_neD hr.units0) (qe_ix ix_D (qe_ix ix_D (qe_nV nZRun_0) (qe_ix ix_D (qe_nV nZRun_2) (qe_un un_neg qe_int) (fun _ _ => rfl)) (fun _ _ => rfl)) qe_int (fun _ _ => rfl)) qe_str (nomark _)) (qb_cons (qs_st nZRun_3 scZRun.nd (qe_cl CZBehind (hr.mono (by decide)) gZRun_ZBehind bnZBehind (qa_cons (qe_nV nZRun_0) (qa_cons (qe_ix ix_D (qe_nV nZRun_2) (qe_un un_neg qe_int) (fun _ _ => rfl)) (qa_cons (qe_nV nZRun_1) qa_nil rfl) rfl) rfl) rfl rfl) rfl (.inl rfl))
      (qb_cons (qs_if (qt_cmp op_isN (qe_nV nZRun_3) qe_non (nomark _)) (qb_one (qs_ret (qe_tup (qa_cons qe_non (qa_cons (qe_nV nZRun_2) qa_nil rfl) rfl)))) qb_nil)
      (qb_one (qs_expr (qe_appD (qe_nV nZRun_2) (qe_nV nZRun_3) rfl rfl rfl rfl rfl) rfl)))))
      (qb_one (qs_ret (qe_tup (qa_cons (qe_ix ix_D (qe_ix ix_D (qe_nV nZRun_0) (qe_ix ix_D (qe_nV nZRun_2) (qe_un un_neg qe_int) (fun _ _ => rfl)) (fun _ _ => rfl)) qe_int (fun _ _ => rfl)) (qa_cons (qe_nV nZRun_2) qa_nil rfl) rfl)))))), ?_⟩
    have tr0 := tr
    cases tr with
    | lst o el zl tsl =>
      rename_i xs
      have hxl := tsl.length
      rw [List.length_map] at hxl
      refine seq_k fun k hk => ?_
      (walk_at "rd"; try simp only [rdz, reduceIte, reduceCtorEq, Nat.reduceAdd, Nat.reduceSub])
      refine ⟨sl_le (by decide), fun ld hld => ?_⟩
      have s0 := same_upd (o := HO.lst [V.int 0]) hld
      have e0 : upd H ld (HO.lst [V.int 0]) ld = _ := upd_same
      generalize upd H ld (HO.lst [V.int 0]) = H0 at s0 e0 ⊢
      subst hk
      refine seq_k fun k hk => ?_
      obtain ⟨Pv, hPv⟩ : ∃ Pv : Nat → L2.St → Hp → Prop, Pv = fun (j : Nat) σ H' => ∃ (pre : List Int) (kf : Nat) (o3 : Option V), Same H H' ∧ H' ld = some (.lst ((pre ++ [(j : Int)]).map V.int)) ∧ pre.length ≤ j ∧ j < cs.length ∧ cs.length ≤ j + kf ∧ runOf cs n = ((runC cs n kf j).1, pre ++ (runC cs n kf j).2) ∧ σ = [some (.ref l), some (.int n), some (.ref ld), o3] := ⟨_, rfl⟩
      refine while_j cs.length Pv 0 (by rw [hPv]; exact ⟨[], cs.length, _, s0, e0, Nat.le_refl _, rows.1, by omega, rfl, rfl⟩) ?_
      intro j σ H1 pv
      rw [hPv] at pv
      obtain ⟨pre, kf, o3, s1, e1, hpj, hj, hkf, hrun, rfl⟩ := pv
      have hc : cs[j]? = some cs[j] := List.getElem?_eq_getElem hj
      have el1 := s1 _ _ el
      obtain ⟨x, hx, rx⟩ := (tsl.same s1).row hc
      have hat := atI_nat hx
      have rx' := rx
      obtain ⟨a, g, rfl, e, eg⟩ := rx
      obtain ⟨kf, rfl⟩ : ∃ k', kf = k' + 1 := ⟨kf - 1, by omega⟩
      have hlast : atI ((pre ++ [(j : Int)]).map V.int) (-1) = some (V.int (j : Int)) := last_snoc pre (j : Int)
      generalize hcj : cs[j] = c at hc rx' e eg
      cases hp : isPik c with
      | true =>
        cases c with
        | pik lb =>
          have hr0 := runC_pik (n := n) (k := kf) (a := (j : Int)) (l := lb) (by rw [Int.toNat_natCast]; exact hc)
          rw [hr0] at hrun
          (walk_at "rd"; try simp only [rdz, reduceIte, reduceCtorEq, Nat.reduceAdd, Nat.reduceSub, e1, hlast, el1, hat, e, rowV, rdW])
          subst hk
          (walk_at "rd"; try simp only [rdz, reduceIte, reduceCtorEq, Nat.reduceAdd, Nat.reduceSub, e1, hlast, el1, hat, e, rowV, rdW])
          refine ⟨sl_le (by decide), fun t ht => ?_⟩
          have st := same_upd (o := HO.tup [V.int lb, V.ref ld]) ht
          refine q t ld _ (s1.trans st) (s1.none ht) hld (ne_of_none e1 ht).symm ?_ ?_ ?_
          · rw [hrun]; exact upd_same
          · rw [hrun]; exact st _ _ e1
          · rw [hrun, List.length_append, List.length_singleton]; omega
        | _ => cases hp
      | false =>
        (walk_at "rd"; try simp only [rdz, reduceIte, reduceCtorEq, Nat.reduceAdd, Nat.reduceSub, e1, hlast, el1, hat, e])
        refine ⟨_, row_word c g, ?_⟩
        (walk_at "rd"; try simp only [rdz, reduceIte, reduceCtorEq, Nat.reduceAdd, Nat.reduceSub])
        rw [decide_eq_false (word_pik hp), Bool.not_false, if_pos rfl]
        refine ⟨fun σ' H' => ∃ j', j < j' ∧ j' < cs.length ∧ Pv j' σ' H', fun σ' H' ⟨j', h1, h2, h3⟩ => ⟨_, by omega, j', rfl, h3⟩, ?_⟩
        have hc' : cs[((j : Nat) : Int).toNat]? = some c := by rw [Int.toNat_natCast]; exact hc
        (walk_at "rd"; try simp only [rdz, reduceIte, reduceCtorEq, Nat.reduceAdd, Nat.reduceSub, e1, hlast])
        refine ⟨l, ok, cs, j, n, c, rfl, tr0.same s1, rows, hc, hp, fun H2 s2 => ?_⟩
        have e2 := s2 _ _ e1
        cases hst : stepC c (j : Int) n with
        | none =>
          rw [runC_no hc' hp hst] at hrun
          unfold optV
          (walk_at "rd"; try simp only [rdz, reduceIte, reduceCtorEq, Nat.reduceAdd, Nat.reduceSub, e2])
          refine ⟨sl_le (by decide), fun t ht => ?_⟩
          have st := same_upd (o := HO.tup [V.non, V.ref ld]) ht
          refine q t ld _ ((s1.trans s2).trans st) ((s1.trans s2).none ht) hld (ne_of_none e2 ht).symm ?_ ?_ ?_
          · rw [hrun]; exact upd_same
          · rw [hrun]; exact st _ _ e2
          · rw [hrun, List.length_append, List.length_singleton]; omega
        | some t =>
          have hb := stepC_btw rows hc hst
          obtain ⟨tn, rfl⟩ := Int.eq_ofNat_of_zero_le (show 0 ≤ t by omega)
          rw [runC_go hc' hp hst] at hrun
          unfold optV
          (walk_at "rd"; try simp only [rdz, reduceIte, reduceCtorEq, Nat.reduceAdd, Nat.reduceSub, e2])
          refine ⟨Nat.lt_of_le_of_lt (pl9 hpj hj (by rw [← hxl]; exact zl)) (by decide), tn, by omega, by omega, ?_⟩
          rw [hPv]
          refine ⟨pre ++ [(j : Int)], kf, _, same_upd2 (s1.trans s2) hld, ?_, by rw [List.length_append, List.length_singleton]; omega, by omega, by omega, ?_, rfl⟩
          · rw [upd_same, List.map_append (l₁ := pre ++ [(j : Int)])]
            rfl
          · rw [hrun, List.append_assoc]
            rfl
end
end K44
namespace K44
open PySem L2 PyProof.Rows
theorem bnTwice : Bn "Twice" := ⟨by decide +kernel, by decide +kernel⟩
theorem bnBeyond : Bn "Beyond" := ⟨by decide +kernel, by decide +kernel⟩
theorem bnTooNarrow : Bn "TooNarrow" := ⟨by decide +kernel, by decide +kernel⟩
theorem bnNoStretch : Bn "NoStretch" := ⟨by decide +kernel, by decide +kernel⟩
theorem bnBadText : Bn "BadText" := ⟨by decide +kernel, by decide +kernel⟩
abbrev sZWord : Stmt := top 23
theorem scZWord : FnScope ["_law_caught", "_law_some"] ["_law_caught"] (defScope sZWord) := ⟨rfl, rfl, rfl, by decide +kernel, rfl, by decide +kernel, by decide +kernel⟩
theorem nZWord_0 : Nm ["_law_caught", "_law_some"] (defScope sZWord) 0 "_law_caught" := .of (by decide +kernel)
theorem nZWord_1 : Nm ["_law_caught", "_law_some"] (defScope sZWord) 1 "_law_some" := .of (by decide +kernel)
theorem gZWord_BadText : (defScope sZWord).names.lookup ("BadText" : Str) = some .globalImplicit := by decide +kernel
theorem gZWord_Beyond : (defScope sZWord).names.lookup ("Beyond" : Str) = some .globalImplicit := by decide +kernel
theorem gZWord_NoStretch : (defScope sZWord).names.lookup ("NoStretch" : Str) = some .globalImplicit := by decide +kernel
theorem gZWord_TooNarrow : (defScope sZWord).names.lookup ("TooNarrow" : Str) = some .globalImplicit := by decide +kernel
theorem gZWord_Twice : (defScope sZWord).names.lookup ("Twice" : Str) = some .globalImplicit := by decide +kernel
theorem gZWord_ValueError : (defScope sZWord).names.lookup ("ValueError" : Str) = some .globalImplicit := by decide +kernel
theorem gZWord_int : (defScope sZWord).names.lookup ("int" : Str) = some .globalImplicit := by decide +kernel
theorem gZWord_isinstance : (defScope sZWord).names.lookup ("isinstance" : Str) = some .globalImplicit := by decide +kernel
theorem bnZWord : Bn "_law_word" := ⟨by decide +kernel, by decide +kernel⟩
abbrev sCounted : Stmt := top 15
theorem scCounted : FnScope ["rows", "numbers", "counts", "number", "label", "done", "at"] ["rows", "numbers"] (defScope sCounted) := ⟨rfl, rfl, rfl, by decide +kernel, rfl, by decide +kernel, by decide +kernel⟩
theorem nCounted_0 : Nm ["rows", "numbers", "counts", "number", "label", "done", "at"] (defScope sCounted) 0 "rows" := .of (by decide +kernel)
theorem nCounted_1 : Nm ["rows", "numbers", "counts", "number", "label", "done", "at"] (defScope sCounted) 1 "numbers" := .of (by decide +kernel)
theorem nCounted_2 : Nm ["rows", "numbers", "counts", "number", "label", "done", "at"] (defScope sCounted) 2 "counts" := .of (by decide +kernel)
theorem nCounted_3 : Nm ["rows", "numbers", "counts", "number", "label", "done", "at"] (defScope sCounted) 3 "number" := .of (by decide +kernel)
theorem nCounted_4 : Nm ["rows", "numbers", "counts", "number", "label", "done", "at"] (defScope sCounted) 4 "label" := .of (by decide +kernel)
theorem nCounted_5 : Nm ["rows", "numbers", "counts", "number", "label", "done", "at"] (defScope sCounted) 5 "done" := .of (by decide +kernel)
theorem nCounted_6 : Nm ["rows", "numbers", "counts", "number", "label", "done", "at"] (defScope sCounted) 6 "at" := .of (by decide +kernel)
theorem gCounted_len : (defScope sCounted).names.lookup ("len" : Str) = some .globalImplicit := by decide +kernel
theorem gCounted_Run : (defScope sCounted).names.lookup ("run" : Str) = some .globalImplicit := by decide +kernel
theorem bnCounted : Bn "counted" := ⟨by decide +kernel, by decide +kernel⟩
abbrev sZTold : Stmt := top 27
theorem scZTold : FnScope ["_law_rows_here", "_law_numbers", "_law_found", "_law_caught", "error"] ["_law_rows_here", "_law_numbers"] (defScope sZTold) := ⟨rfl, rfl, rfl, by decide +kernel, rfl, by decide +kernel, by decide +kernel⟩
theorem nZTold_0 : Nm ["_law_rows_here", "_law_numbers", "_law_found", "_law_caught", "error"] (defScope sZTold) 0 "_law_rows_here" := .of (by decide +kernel)
theorem nZTold_1 : Nm ["_law_rows_here", "_law_numbers", "_law_found", "_law_caught", "error"] (defScope sZTold) 1 "_law_numbers" := .of (by decide +kernel)
theorem nZTold_2 : Nm ["_law_rows_here", "_law_numbers", "_law_found", "_law_caught", "error"] (defScope sZTold) 2 "_law_found" := .of (by decide +kernel)
theorem nZTold_3 : Nm ["_law_rows_here", "_law_numbers", "_law_found", "_law_caught", "error"] (defScope sZTold) 3 "_law_caught" := .of (by decide +kernel)
theorem nZTold_4 : Nm ["_law_rows_here", "_law_numbers", "_law_found", "_law_caught", "error"] (defScope sZTold) 4 "error" := .of (by decide +kernel)
theorem gZTold_CaseError : (defScope sZTold).names.lookup ("CaseError" : Str) = some .globalImplicit := by decide +kernel
theorem gZTold_ZWord : (defScope sZTold).names.lookup ("_law_word" : Str) = some .globalImplicit := by decide +kernel
theorem gZTold_Counted : (defScope sZTold).names.lookup ("counted" : Str) = some .globalImplicit := by decide +kernel
theorem bnZTold : Bn "_law_told" := ⟨by decide +kernel, by decide +kernel⟩
abbrev sZDue : Stmt := top 28
theorem scZDue : FnScope ["_law_rows_here", "_law_numbers", "_law_counts", "_law_number", "_law_label", "_law_done", "_law_at"] ["_law_rows_here", "_law_numbers"] (defScope sZDue) := ⟨rfl, rfl, rfl, by decide +kernel, rfl, by decide +kernel, by decide +kernel⟩
theorem nZDue_0 : Nm ["_law_rows_here", "_law_numbers", "_law_counts", "_law_number", "_law_label", "_law_done", "_law_at"] (defScope sZDue) 0 "_law_rows_here" := .of (by decide +kernel)
theorem nZDue_1 : Nm ["_law_rows_here", "_law_numbers", "_law_counts", "_law_number", "_law_label", "_law_done", "_law_at"] (defScope sZDue) 1 "_law_numbers" := .of (by decide +kernel)
theorem nZDue_2 : Nm ["_law_rows_here", "_law_numbers", "_law_counts", "_law_number", "_law_label", "_law_done", "_law_at"] (defScope sZDue) 2 "_law_counts" := .of (by decide +kernel)
theorem nZDue_3 : Nm ["_law_rows_here", "_law_numbers", "_law_counts", "_law_number", "_law_label", "_law_done", "_law_at"] (defScope sZDue) 3 "_law_number" := .of (by decide +kernel)
theorem nZDue_4 : Nm ["_law_rows_here", "_law_numbers", "_law_counts", "_law_number", "_law_label", "_law_done", "_law_at"] (defScope sZDue) 4 "_law_label" := .of (by decide +kernel)
theorem nZDue_5 : Nm ["_law_rows_here", "_law_numbers", "_law_counts", "_law_number", "_law_label", "_law_done", "_law_at"] (defScope sZDue) 5 "_law_done" := .of (by decide +kernel)
theorem nZDue_6 : Nm ["_law_rows_here", "_law_numbers", "_law_counts", "_law_number", "_law_label", "_law_done", "_law_at"] (defScope sZDue) 6 "_law_at" := .of (by decide +kernel)
theorem gZDue_ZRun : (defScope sZDue).names.lookup ("_law_run" : Str) = some .globalImplicit := by decide +kernel
theorem gZDue_len : (defScope sZDue).names.lookup ("len" : Str) = some .globalImplicit := by decide +kernel
theorem bnZDue : Bn "_law_due" := ⟨by decide +kernel, by decide +kernel⟩
section
variable {P : Program} {w : World} {K : PySem.W.Frag} {mg : Str → Option Value} {base : Heap} {f : Addr} {fd : FuncData} {bs : List Str} {aTwice aBeyond aTooNarrow aNoStretch aBadText D N fI ND : Addr}
theorem ok_word (hB : ∀ x : Str, x ∈ BLs → mg x = none) (XC : XCls K aBeyond D N fI) (Z : XIs K aBeyond) (cgTwice : mg "Twice" = some (.ref aTwice)) (cgBeyond : mg "Beyond" = some (.ref aBeyond)) (cgTooNarrow : mg "TooNarrow" = some (.ref aTooNarrow)) (cgNoStretch : mg "NoStretch" = some (.ref aNoStretch)) (cgBadText : mg "BadText" = some (.ref aBadText))
    (i1 : PySem.W.kitOne K (.ref aBeyond) (.ref aTwice) = some false) (i2 : PySem.W.kitOne K (.ref aBeyond) (.ref aBeyond) = some true) (i3 : PySem.W.kitOne K (.ref aBeyond) (.ref aTooNarrow) = some false) (i4 : PySem.W.kitOne K (.ref aBeyond) (.ref aNoStretch) = some false) (i5 : PySem.W.kitOne K (.ref aBeyond) (.ref aBadText) = some false) (i6 : PySem.W.kitOne K (.ref aBeyond) (.type "ValueError") = some true)
    (hno : PySem.W.findIn K (.ref aBeyond) "row" = some none)
    (F : Fun K "_law_word" "_law_word" sZWord f fd) : FnOk P w K mg base CX0 1 f fd ["_law_caught"] (spWordX aBeyond "beyond" "row") := by
  refine F.okq scZWord (fun vs H Q E h => ?_) (fun cdv A outer s H vs Q E hr h => ?_)
  · rcases h with ⟨rfl, _⟩ | ⟨x, dx, j, rfl, _⟩ <;> rfl
  · refine ⟨_, (qb_cons (qs_if (qt_cmp op_isN (qe_nV nZWord_0) qe_non (nomark _)) (qb_one (qs_ret qe_non)) qb_nil)
      (qb_cons (qs_st nZWord_1 scZWord.nd (qe_lst (qa_cons (qe_cb call_isX gZWord_isinstance (hB "isinstance" mB_isinstance) boot_isinstance bn_isinstance (qa_cons (qe_nV nZWord_0) (qa_cons (qe_glob (v := V.ref aTwice) gZWord_Twice cgTwice rfl bnTwice) qa_nil rfl) rfl) rfl rfl) (qa_cons (qe_cb call_isX gZWord_isinstance (hB "isinstance" mB_isinstance) boot_isinstance bn_isinstance (qa_cons (qe_nV nZWord_0) (qa_cons (qe_glob (v := V.ref aBeyond) gZWord_Beyond cgBeyond rfl bnBeyond) qa_nil rfl) rfl) rfl rfl) (qa_cons (qe_cb call_isX gZWord_isinstance (hB "isinstance" mB_isinstance) boot_isinstance bn_isinstance (qa_cons (qe_nV nZWord_0) (qa_cons (qe_glob (v := V.ref aTooNarrow) gZWord_TooNarrow cgTooNarrow rfl bnTooNarrow) qa_nil rfl) rfl) rfl rfl) qa_nil rfl) rfl) rfl)) rfl (.inl rfl))
      (qb_cons (qs_st nZWord_1 scZWord.nd (qe_op op_addD (qe_nV nZWord_1) (qe_lst (qa_cons (qe_cb call_isX gZWord_isinstance (hB "isinstance" mB_isinstance) boot_isinstance bn_isinstance (qa_cons (qe_nV nZWord_0) (qa_cons (qe_glob (v := V.ref aNoStretch) gZWord_NoStretch cgNoStretch rfl bnNoStretch) qa_nil rfl) rfl) rfl rfl) (qa_cons (qe_cb call_isX gZWord_isinstance (hB "isinstance" mB_isinstance) boot_isinstance bn_isinstance (qa_cons (qe_nV nZWord_0) (qa_cons (qe_glob (v := V.ref aBadText) gZWord_BadText cgBadText rfl bnBadText) qa_nil rfl) rfl) rfl rfl) qa_nil rfl) rfl))) rfl (.inl rfl))
      (qb_cons (qs_if (qt_w (qw_or (qt_cmp (op_neD hr.units0) (qe_cntB K hr.un1 (qe_nV nZWord_1) qe_bl) qe_int (nomark _)) (qw_or1 (qt_not (qt_val (qe_cb call_isX gZWord_isinstance (hB "isinstance" mB_isinstance) boot_isinstance bn_isinstance (qa_cons (qe_nV nZWord_0) (qa_cons (qe_bt "ValueError" gZWord_ValueError (hB "ValueError" mB_ValueError) boot_ValueError bn_ValueError) qa_nil rfl) rfl) rfl rfl) (fun _ => rfl)))))) (qb_one (qs_ret (qe_tup (qa_cons qe_str qa_nil rfl)))) qb_nil)
      (qb_cons (qs_if (qt_val (qe_ix ix_D (qe_nV nZWord_1) qe_int (fun _ _ => rfl)) (fun _ => rfl)) (qb_one (qs_ret (qe_tup (qa_cons qe_str (qa_cons (qe_fldX XC (qe_nV nZWord_0)) (qa_cons (qe_fldX XC (qe_nV nZWord_0)) (qa_cons (qe_fldX XC (qe_nV nZWord_0)) qa_nil rfl) rfl) rfl) rfl)))) qb_nil)
      (qb_cons (qs_if (qt_w (qw_or (qt_val (qe_ix ix_D (qe_nV nZWord_1) qe_int (fun _ _ => rfl)) (fun _ => rfl)) (qw_or1 (qt_val (qe_ix ix_D (qe_nV nZWord_1) qe_int (fun _ _ => rfl)) (fun _ => rfl))))) (qb_one (qs_ret (qe_tup (qa_cons (qe_ix ix_D (qe_lst (qa_cons qe_str (qa_cons qe_str qa_nil rfl) rfl)) (qe_ct call_int_D gZWord_int (hB "int" mB_int) boot_int bn_int (qa_cons (qe_ix ix_D (qe_nV nZWord_1) qe_int (fun _ _ => rfl)) qa_nil rfl) rfl rfl) (fun _ _ => rfl)) (qa_cons (qe_fldX XC (qe_nV nZWord_0)) qa_nil rfl) rfl)))) qb_nil)
      (qb_one (qs_ret (qe_if (qt_val (qe_ix ix_D (qe_nV nZWord_1) qe_int (fun _ _ => rfl)) (fun _ => rfl)) (qe_tup (qa_cons qe_str (qa_cons (qe_fldX XC (qe_nV nZWord_0)) qa_nil rfl) rfl)) (qe_tup (qa_cons qe_str qa_nil rfl))))))))))), ?_⟩
    rcases h with ⟨rfl, q⟩ | ⟨x, dx, j, rfl, hx, hd, q⟩
    · (walk_at "rd"; try simp only [rdz, reduceIte, reduceCtorEq, Nat.reduceAdd, Nat.reduceSub])
      exact q
    · refine seq_k fun k hk => ?_
      (walk_at "rd"; try simp only [rdz, reduceIte, reduceCtorEq, Nat.reduceAdd, Nat.reduceSub])
      subst hk
      refine seq_k fun k hk => ?_
      (walk_at "rd"; try simp only [rdz, reduceIte, reduceCtorEq, Nat.reduceAdd, Nat.reduceSub])
      refine isX_go Z hx hd (kit_ref i1) (isX_go Z hx hd (kit_ref i2) (isX_go Z hx hd (kit_ref i3) ?_))
      try ((walk_at "rd"; try simp only [rdz, reduceIte, reduceCtorEq, Nat.reduceAdd, Nat.reduceSub]))
      refine ⟨sl_le (by decide), fun l1 hl1 => ?_⟩
      have s1 := same_upd (o := HO.lst [V.bl false, V.bl true, V.bl false]) hl1
      have e1 : upd H l1 (HO.lst [V.bl false, V.bl true, V.bl false]) l1 = _ := upd_same
      generalize upd H l1 (HO.lst [V.bl false, V.bl true, V.bl false]) = H1 at s1 e1 ⊢
      have hx1 := s1 _ _ hx
      have hd1 := s1 _ _ hd
      subst hk
      refine seq_k fun k hk => ?_
      (walk_at "rd"; try simp only [rdz, reduceIte, reduceCtorEq, Nat.reduceAdd, Nat.reduceSub, e1])
      refine isX_go Z hx1 hd1 (kit_ref i4) (isX_go Z hx1 hd1 (kit_ref i5) ?_)
      try ((walk_at "rd"; try simp only [rdz, reduceIte, reduceCtorEq, Nat.reduceAdd, Nat.reduceSub, e1]))
      refine ⟨sl_le (by decide), fun l2 hl2 => ?_⟩
      have s2 := same_upd (o := HO.lst [V.bl false, V.bl false]) hl2
      have e12 := s2 _ _ e1
      generalize upd H1 l2 (HO.lst [V.bl false, V.bl false]) = H2 at s2 e12 ⊢
      (walk_at "rd"; try simp only [rdz, reduceIte, reduceCtorEq, Nat.reduceAdd, Nat.reduceSub, e12])
      refine ⟨sl_le (by decide), fun l3 hl3 => ?_⟩
      have s3 := same_upd (o := HO.lst [V.bl false, V.bl true, V.bl false, V.bl false, V.bl false]) hl3
      have e3 : upd H2 l3 (HO.lst [V.bl false, V.bl true, V.bl false, V.bl false, V.bl false]) l3 = _ := upd_same
      generalize upd H2 l3 (HO.lst [V.bl false, V.bl true, V.bl false, V.bl false, V.bl false]) = H3 at s3 e3 ⊢
      have hx3 := s3 _ _ (s2 _ _ hx1)
      have hd3 := s3 _ _ (s2 _ _ hd1)
      subst hk
      refine seq_k fun k hk => ?_
      (walk_at "rd"; try simp only [rdz, reduceIte, reduceCtorEq, Nat.reduceAdd, Nat.reduceSub, e3])
      refine ⟨l3, rfl, ⟨_, .inl (.inl e3)⟩, _, 1, .inl (.inl e3), ⟨[false, true, false, false, false], true, rfl, rfl, by decide⟩, ?_⟩
      (walk_at "rd"; try simp only [rdz, reduceIte, reduceCtorEq, Nat.reduceAdd, Nat.reduceSub])
      rw [if_neg (by decide)]
      refine isX_go Z hx3 hd3 (kit_ty i6) ?_
      refine ⟨true, rfl, ?_⟩
      rw [if_neg (by decide)]
      subst hk
      refine seq_k fun k hk => ?_
      (walk_at "rd"; try simp only [rdz, reduceIte, reduceCtorEq, Nat.reduceAdd, Nat.reduceSub, e3])
      subst hk
      refine seq_k fun k hk => ?_
      (walk_at "rd"; try simp only [rdz, reduceIte, reduceCtorEq, Nat.reduceAdd, Nat.reduceSub, e3, tFldX])
      refine ⟨sl_le (by decide), fun l4 hl4 => ?_⟩
      have s4 := same_upd (o := HO.lst [V.str "beyond", V.str "text"]) hl4
      have e4 : upd H3 l4 (HO.lst [V.str "beyond", V.str "text"]) l4 = _ := upd_same
      have e34 := s4 _ _ e3
      generalize upd H3 l4 (HO.lst [V.str "beyond", V.str "text"]) = H4 at s4 e4 e34 ⊢
      (walk_at "rd"; try simp only [rdz, reduceIte, reduceCtorEq, Nat.reduceAdd, Nat.reduceSub, e34, e4])
      refine ⟨V.bl false, rfl, ?_⟩
      (walk_at "rd"; try simp only [rdz, reduceIte, reduceCtorEq, Nat.reduceAdd, Nat.reduceSub, e4])
      have sa := ((s1.trans s2).trans s3).trans s4
      refine ⟨dx, s4 _ _ hx3, _, s4 _ _ hd3, V.int j, rfl, hno, sl_le (by decide), fun t ht => ?_⟩
      exact q t _ (sa.trans (same_upd ht)) (sa.none ht) upd_same
theorem ok_counted {C : Addr} (hB : ∀ x : Str, x ∈ BLs → mg x = none) (CRun : Cal1 P w K mg base "run" 4 ["rows", "number"] (spRunY C)) (F : Fun K "counted" "counted" sCounted f fd) : FnOk P w K mg base (CX1 P w) 5 f fd ["rows", "numbers"] (spCtd C) := by
  refine F.okq1 scCounted (fun vs H Q E h => ?_) (fun cdv A outer s H vs Q E hr h => ?_)
  · obtain ⟨l, b, ok, cs, ns, rfl, _⟩ := h
    rfl
  · obtain ⟨l, b, ok, cs, ns, rfl, t, rows, eb, hns, q, qx⟩ := h
    refine ⟨_, (qb_cons (qs_st nCounted_2 scCounted.nd (qe_op op_mulD (qe_lst (qa_cons qe_int qa_nil rfl)) (qe_cb call_len_D gCounted_len (hB "len" mB_len) PySem.boot_len bn_len (qa_cons (qe_nV nCounted_0) qa_nil rfl) rfl rfl)) rfl (.inl rfl))
      (qb_cons (qs_for own1 rfl (qi_seqD (qe_nV nCounted_1)) (qg_nm nCounted_3 scCounted.nd (.inl rfl))
      (qb_cons (qs_asg (qe_cl1 CRun (hr.mono (by decide)) gCounted_Run bnRun pass1 (qa_cons (qe_nV nCounted_0) (qa_cons (qe_nV nCounted_3) qa_nil rfl) rfl) rfl rfl) (qg_tup (n := 2) rfl (qgs_cons (qg_nm nCounted_4 scCounted.nd (.inl rfl)) (qgs_cons (qg_nm nCounted_5 scCounted.nd (.inl rfl)) qgs_nil rfl) rfl) rfl rfl) rfl rfl rfl)
      (qb_one (qs_for own1 rfl (qi_seqD (qe_nV nCounted_5)) (qg_nm nCounted_6 scCounted.nd (.inl rfl))
      (qb_one (qs_la (qe_nV nCounted_2) (qe_nV nCounted_6) qe_int (fun _ _ _ => rfl))) (fun _ => rfl)))) (fun _ => rfl))
      (qb_one (qs_ret (qe_nV nCounted_2))))), ?_⟩
    have t0 := t
    cases t with
    | lst o e z ts =>
      rename_i xs
      have hxl := ts.length
      rw [List.length_map] at hxl
      refine seq_k fun k hk => ?_
      (walk_at "rd"; try simp only [rdz, reduceIte, reduceCtorEq, Nat.reduceAdd, Nat.reduceSub, e])
      refine ⟨sl_le (by decide), fun l0 hl0 => ?_⟩
      have s0 := same_upd (o := HO.lst [V.int 0]) hl0
      have e0 : upd H l0 (HO.lst [V.int 0]) l0 = _ := upd_same
      have el0 := s0 _ _ e
      generalize upd H l0 (HO.lst [V.int 0]) = H0 at s0 e0 el0 ⊢
      (walk_at "rd"; try simp only [rdz, reduceIte, reduceCtorEq, Nat.reduceAdd, Nat.reduceSub, e0, el0])
      refine ⟨by omega, by omega, ?_, fun lw hlw => ?_⟩
      · show 1 * _ ≤ _
        exact sl_le (by omega)
      have hlw0 : H lw = none := s0.none hlw
      have s1 := s0.trans (same_upd (o := HO.lst (List.replicate (xs.length : Int).toNat [V.int 0]).flatten) hlw)
      have e1 : upd H0 lw (HO.lst (List.replicate (xs.length : Int).toNat [V.int 0]).flatten) lw = some (.lst ((List.replicate cs.length (0 : Int)).map V.int)) := by
        rw [upd_same, Int.toNat_natCast, hxl, zeros_flat]
      generalize upd H0 lw (HO.lst (List.replicate (xs.length : Int).toNat [V.int 0]).flatten) = H1 at s1 e1 ⊢
      subst hk
      refine seq_k fun k hk => ?_
      refine for_k fun R hR => ?_
      have eb1 := s1 _ _ eb
      (walk_at "rd"; try simp only [rdz, reduceIte, reduceCtorEq, Nat.reduceAdd, Nat.reduceSub, eb1])
      obtain ⟨Pv, hPv⟩ : ∃ Pv : Nat → L2.St → Hp → Prop, Pv = fun (i : Nat) σ H' => ∃ (ks : List Int) (o3 o4 o5 o6 : Option V), Same H H' ∧ H' lw = some (.lst (ks.map V.int)) ∧ ks.length = cs.length ∧ ctallyOf cs ns = ctally cs (ns.drop i) ks ∧ σ = [some (.ref l), some (.ref b), some (.ref lw), o3, o4, o5, o6] := ⟨_, rfl⟩
      refine for_l hR (xs := ns.map V.int) Pv (by rw [hPv]; exact ⟨_, _, _, _, _, s1, e1, by rw [List.length_replicate], rfl, rfl⟩) (fun i σ H' _ pv => ?_) ?_ ?_
      · rw [hPv] at pv
        obtain ⟨_, _, _, _, _, s', _⟩ := pv
        exact SqL.of (s' _ _ eb)
      · intro i x σ H2 hx pv
        rw [hPv] at pv
        obtain ⟨ks, o3, o4, o5, o6, s2, e2, hkl, htal, rfl⟩ := pv
        rw [List.getElem?_map] at hx
        obtain ⟨n, hn, rfl⟩ := Option.map_eq_some_iff.mp hx
        refine seq_k fun k2 hk2 => ?_
        (walk_at "rd"; try simp only [rdz, reduceIte, reduceCtorEq, Nat.reduceAdd, Nat.reduceSub])
        refine ⟨l, ok, cs, n, rfl, t0.same s2, rows, fun lab hlab t1 ld H3 s3 ht1 hld ntd et1 ed => ?_, fun hno pre j dx H3 s3 hj hdx => ?_⟩
        · (walk_at "rd"; try simp only [rdz, reduceIte, reduceCtorEq, Nat.reduceAdd, Nat.reduceSub, et1])
          subst hk2
          refine for_k fun R2 hR2 => ?_
          (walk_at "rd"; try simp only [rdz, reduceIte, reduceCtorEq, Nat.reduceAdd, Nat.reduceSub, ed])
          have nlw : lw ≠ ld := fun z => by rw [z, hld] at e2; cases e2
          obtain ⟨dn, hdn⟩ : ∃ dn, (runOf cs n).2 = dn := ⟨_, rfl⟩
          have hin := runOf_in (n := n) rows
          rw [hdn] at ed hin
          obtain ⟨Pw, hPw⟩ : ∃ Pv : Nat → L2.St → Hp → Prop, Pv = fun (j : Nat) σ H' => ∃ (o6 : Option V), Same H H' ∧ H' ld = some (.lst (dn.map V.int)) ∧ H' lw = some (.lst ((bumps ks (dn.take j)).map V.int)) ∧ σ = [some (.ref l), some (.ref b), some (.ref lw), some (V.int n), some (V.int lab), some (.ref ld), o6] := ⟨_, rfl⟩
          refine for_l hR2 (xs := dn.map V.int) Pw (by rw [hPw]; exact ⟨_, s2.trans s3, ed, s3 _ _ e2, rfl⟩) (fun j σ H' _ pv => ?_) ?_ ?_
          · rw [hPw] at pv
            obtain ⟨_, _, h', _⟩ := pv
            exact SqL.of h'
          · intro j x σ H4 hx pv
            rw [hPw] at pv
            obtain ⟨o6, s4, ed4, ew4, rfl⟩ := pv
            rw [List.getElem?_map] at hx
            obtain ⟨a, ha, rfl⟩ := Option.map_eq_some_iff.mp hx
            have hb := hin a (List.mem_of_getElem? ha)
            have hal : a.toNat < (bumps ks (dn.take j)).length := by rw [bumps_len, hkl]; omega
            obtain ⟨c, hc, hset⟩ := bump_map hal
            have hat := atI_nat hc
            rw [show ((a.toNat : Nat) : Int) = a by omega] at hat
            have hix : ixN ((bumps ks (dn.take j)).map V.int).length a = some a.toNat := by
              have := ixN_nat' (n := ((bumps ks (dn.take j)).map V.int).length) (j := a.toNat) (by rw [List.length_map]; exact hal)
              rw [show ((a.toNat : Nat) : Int) = a by omega] at this
              exact this
            (walk_at "rd"; try simp only [rdz, reduceIte, reduceCtorEq, Nat.reduceAdd, Nat.reduceSub, rdB, ew4, hat])
            refine ⟨a.toNat, hix, ?_⟩
            rw [hset, hPw]
            exact ⟨_, same_upd2 s4 hlw0, by rw [upd_ne nlw.symm]; exact ed4, by rw [upd_same, take_snoc ha, bumps_snoc], rfl⟩
          · intro σ H4 pv
            rw [hPw] at pv
            obtain ⟨o6, s4, ed4, ew4, rfl⟩ := pv
            rw [List.length_map, List.take_length] at ew4
            show Pv _ _ _
            rw [hPv]
            exact ⟨bumps ks dn, _, _, _, _, s4, ew4, by rw [bumps_len]; exact hkl, by rw [htal, ct_some hn hlab, hdn], rfl⟩
        · exact qx j (by rw [htal, ct_none hn hno, hj]; simp) dx H3 (s2.trans s3) hdx
      · intro σ H2 pv
        rw [hPv] at pv
        obtain ⟨ks, o3, o4, o5, o6, s2, e2, hkl, htal, rfl⟩ := pv
        rw [List.length_map, ct_end] at htal
        show k _ _
        subst hk
        (walk_at "rd"; try simp only [rdz, reduceIte, reduceCtorEq, Nat.reduceAdd, Nat.reduceSub])
        exact q ks htal lw H2 s2 hlw0 e2
theorem ok_due (hB : ∀ x : Str, x ∈ BLs → mg x = none) (CZRun : Cal P w K mg base "_law_run" 2 ["_law_rows_here", "_law_number"] (spRun false)) (F : Fun K "_law_due" "_law_due" sZDue f fd) : FnOk P w K mg base CX0 3 f fd ["_law_rows_here", "_law_numbers"] spCtl := by
  refine F.okq scZDue (fun vs H Q E h => ?_) (fun cdv A outer s H vs Q E hr h => ?_)
  · obtain ⟨l, b, ok, cs, ns, rfl, _⟩ := h
    rfl
  · obtain ⟨l, b, ok, cs, ns, rfl, t, rows, eb, hns, q⟩ := h
    refine ⟨_, (qb_cons (qs_st nZDue_2 scZDue.nd (qe_op op_mulD (qe_lst (qa_cons qe_int qa_nil rfl)) (qe_cb call_len_D gZDue_len (hB "len" mB_len) PySem.boot_len bn_len (qa_cons (qe_nV nZDue_0) qa_nil rfl) rfl rfl)) rfl (.inl rfl))
      (qb_cons (qs_for PassesOwn.never rfl (qi_seqD (qe_nV nZDue_1)) (qg_nm nZDue_3 scZDue.nd (.inl rfl))
      (qb_cons (qs_asg (qe_cl CZRun (hr.mono (by decide)) gZDue_ZRun bnZRun (qa_cons (qe_nV nZDue_0) (qa_cons (qe_nV nZDue_3) qa_nil rfl) rfl) rfl rfl) (qg_tup (n := 2) rfl (qgs_cons (qg_nm nZDue_4 scZDue.nd (.inl rfl)) (qgs_cons (qg_nm nZDue_5 scZDue.nd (.inl rfl)) qgs_nil rfl) rfl) rfl rfl) rfl rfl rfl)
      (qb_cons (qs_if (qt_cmp op_isN (qe_nV nZDue_4) qe_non (nomark _)) (qb_one (qs_ret (qe_tup (qa_cons qe_str (qa_cons (qe_ix ix_D (qe_nV nZDue_5) (qe_un un_neg qe_int) (fun _ _ => rfl)) qa_nil rfl) rfl)))) qb_nil)
      (qb_one (qs_for PassesOwn.never rfl (qi_seqD (qe_nV nZDue_5)) (qg_nm nZDue_6 scZDue.nd (.inl rfl))
      (qb_one (qs_asg (qe_op op_addD (qe_ix ix_D (qe_nV nZDue_2) (qe_nV nZDue_6) (fun _ _ => rfl)) qe_int) (qg_subN (qe_nV nZDue_2) (qe_nV nZDue_6) set_D) rfl rfl rfl)) (fun _ => rfl))))) (fun _ => rfl))
      (qb_one (qs_ret (qe_nV nZDue_2))))), ?_⟩
    have t0 := t
    cases t with
    | lst o e z ts =>
      rename_i xs
      have hxl := ts.length
      rw [List.length_map] at hxl
      refine seq_k fun k hk => ?_
      (walk_at "rd"; try simp only [rdz, reduceIte, reduceCtorEq, Nat.reduceAdd, Nat.reduceSub, e])
      refine ⟨sl_le (by decide), fun l0 hl0 => ?_⟩
      have s0 := same_upd (o := HO.lst [V.int 0]) hl0
      have e0 : upd H l0 (HO.lst [V.int 0]) l0 = _ := upd_same
      have el0 := s0 _ _ e
      generalize upd H l0 (HO.lst [V.int 0]) = H0 at s0 e0 el0 ⊢
      (walk_at "rd"; try simp only [rdz, reduceIte, reduceCtorEq, Nat.reduceAdd, Nat.reduceSub, e0, el0])
      refine ⟨by omega, by omega, ?_, fun lw hlw => ?_⟩
      · show 1 * _ ≤ _
        exact sl_le (by omega)
      have hlw0 : H lw = none := s0.none hlw
      have s1 := s0.trans (same_upd (o := HO.lst (List.replicate (xs.length : Int).toNat [V.int 0]).flatten) hlw)
      have e1 : upd H0 lw (HO.lst (List.replicate (xs.length : Int).toNat [V.int 0]).flatten) lw = some (.lst ((List.replicate cs.length (0 : Int)).map V.int)) := by
        rw [upd_same, Int.toNat_natCast, hxl, zeros_flat]
      generalize upd H0 lw (HO.lst (List.replicate (xs.length : Int).toNat [V.int 0]).flatten) = H1 at s1 e1 ⊢
      subst hk
      refine seq_k fun k hk => ?_
      refine for_k fun R hR => ?_
      have eb1 := s1 _ _ eb
      (walk_at "rd"; try simp only [rdz, reduceIte, reduceCtorEq, Nat.reduceAdd, Nat.reduceSub, eb1])
      obtain ⟨Pv, hPv⟩ : ∃ Pv : Nat → L2.St → Hp → Prop, Pv = fun (i : Nat) σ H' => ∃ (ks : List Int) (o3 o4 o5 o6 : Option V), Same H H' ∧ H' lw = some (.lst (ks.map V.int)) ∧ ks.length = cs.length ∧ ctallyOf cs ns = ctally cs (ns.drop i) ks ∧ σ = [some (.ref l), some (.ref b), some (.ref lw), o3, o4, o5, o6] := ⟨_, rfl⟩
      refine for_l hR (xs := ns.map V.int) Pv (by rw [hPv]; exact ⟨_, _, _, _, _, s1, e1, by rw [List.length_replicate], rfl, rfl⟩) (fun i σ H' _ pv => ?_) ?_ ?_
      · rw [hPv] at pv
        obtain ⟨_, _, _, _, _, s', _⟩ := pv
        exact SqL.of (s' _ _ eb)
      · intro i x σ H2 hx pv
        rw [hPv] at pv
        obtain ⟨ks, o3, o4, o5, o6, s2, e2, hkl, htal, rfl⟩ := pv
        rw [List.getElem?_map] at hx
        obtain ⟨n, hn, rfl⟩ := Option.map_eq_some_iff.mp hx
        refine seq_k fun k2 hk2 => ?_
        (walk_at "rd"; try simp only [rdz, reduceIte, reduceCtorEq, Nat.reduceAdd, Nat.reduceSub])
        refine ⟨l, ok, cs, n, rfl, t0.same s2, rows, fun z => absurd z (by decide), fun t1 ld H3 s3 ht1 hld ntd et1 ed _ => ?_⟩
        (walk_at "rd"; try simp only [rdz, reduceIte, reduceCtorEq, Nat.reduceAdd, Nat.reduceSub, et1])
        subst hk2
        refine seq_k fun k2 hk2 => ?_
        (walk_at "rd"; try simp only [rdz, reduceIte, reduceCtorEq, Nat.reduceAdd, Nat.reduceSub])
        cases hlab : (runOf cs n).1 with
        | some lab =>
          unfold optV
          (walk_at "rd"; try simp only [rdz, reduceIte, reduceCtorEq, Nat.reduceAdd, Nat.reduceSub])
          subst hk2
          refine for_k fun R2 hR2 => ?_
          (walk_at "rd"; try simp only [rdz, reduceIte, reduceCtorEq, Nat.reduceAdd, Nat.reduceSub, ed])
          have nlw : lw ≠ ld := fun z => by rw [z, hld] at e2; cases e2
          obtain ⟨dn, hdn⟩ : ∃ dn, (runOf cs n).2 = dn := ⟨_, rfl⟩
          have hin := runOf_in (n := n) rows
          rw [hdn] at ed hin
          obtain ⟨Pw, hPw⟩ : ∃ Pv : Nat → L2.St → Hp → Prop, Pv = fun (j : Nat) σ H' => ∃ (o6 : Option V), Same H H' ∧ H' ld = some (.lst (dn.map V.int)) ∧ H' lw = some (.lst ((bumps ks (dn.take j)).map V.int)) ∧ σ = [some (.ref l), some (.ref b), some (.ref lw), some (V.int n), some (V.int lab), some (.ref ld), o6] := ⟨_, rfl⟩
          refine for_l hR2 (xs := dn.map V.int) Pw (by rw [hPw]; exact ⟨_, s2.trans s3, ed, s3 _ _ e2, rfl⟩) (fun j σ H' _ pv => ?_) ?_ ?_
          · rw [hPw] at pv
            obtain ⟨_, _, h', _⟩ := pv
            exact SqL.of h'
          · intro j x σ H4 hx pv
            rw [hPw] at pv
            obtain ⟨o6, s4, ed4, ew4, rfl⟩ := pv
            rw [List.getElem?_map] at hx
            obtain ⟨a, ha, rfl⟩ := Option.map_eq_some_iff.mp hx
            have hb := hin a (List.mem_of_getElem? ha)
            have hal : a.toNat < (bumps ks (dn.take j)).length := by rw [bumps_len, hkl]; omega
            obtain ⟨c, hc, hset⟩ := bump_map hal
            have hat := atI_nat hc
            rw [show ((a.toNat : Nat) : Int) = a by omega] at hat
            have hix : ixN ((bumps ks (dn.take j)).map V.int).length a = some a.toNat := by
              have := ixN_nat' (n := ((bumps ks (dn.take j)).map V.int).length) (j := a.toNat) (by rw [List.length_map]; exact hal)
              rw [show ((a.toNat : Nat) : Int) = a by omega] at this
              exact this
            (walk_at "rd"; try simp only [rdz, reduceIte, reduceCtorEq, Nat.reduceAdd, Nat.reduceSub, ew4, hat])
            refine ⟨a.toNat, hix, ?_⟩
            rw [hset, hPw]
            exact ⟨_, same_upd2 s4 hlw0, by rw [upd_ne nlw.symm]; exact ed4, by rw [upd_same, take_snoc ha, bumps_snoc], rfl⟩
          · intro σ H4 pv
            rw [hPw] at pv
            obtain ⟨o6, s4, ed4, ew4, rfl⟩ := pv
            rw [List.length_map, List.take_length] at ew4
            show Pv _ _ _
            rw [hPv]
            exact ⟨bumps ks dn, _, _, _, _, s4, ew4, by rw [bumps_len]; exact hkl, by rw [htal, ct_some hn hlab, hdn], rfl⟩
        | none =>
          unfold optV
          obtain ⟨pre, j, hj⟩ : ∃ pre j, (runOf cs n).2 = pre ++ [j] := by
            have hne : (runOf cs n).2 ≠ [] := run_ne _ _ _ _
            exact ⟨_, _, (List.dropLast_concat_getLast hne).symm⟩
          rw [hj] at ed
          have hlast : atI ((pre ++ [j]).map V.int) (-1) = some (V.int j) := last_snoc pre j
          (walk_at "rd"; try simp only [rdz, reduceIte, reduceCtorEq, Nat.reduceAdd, Nat.reduceSub, ed, hlast])
          refine ⟨sl_le (by decide), fun t2 ht2 => ?_⟩
          have s23 := s2.trans s3
          exact q t2 _ (s23.trans (same_upd ht2)) (s23.none ht2) (by rw [htal, ct_none hn hlab, hj, upd_same]; simp [ctO])
      · intro σ H2 pv
        rw [hPv] at pv
        obtain ⟨ks, o3, o4, o5, o6, s2, e2, hkl, htal, rfl⟩ := pv
        rw [List.length_map, ct_end] at htal
        show k _ _
        subst hk
        (walk_at "rd"; try simp only [rdz, reduceIte, reduceCtorEq, Nat.reduceAdd, Nat.reduceSub])
        exact q lw H2 s2 hlw0 (by rw [htal]; exact e2)
theorem ok_told (hB : ∀ x : Str, x ∈ BLs → mg x = none) (XC : XCls K aBeyond D N fI) (XD : XTop K D ND) (cgCaseError : mg "CaseError" = some (.ref D)) (CCounted : Cal1 P w K mg base "counted" 5 ["rows", "numbers"] (spCtd aBeyond)) (CZWord : Cal P w K mg base "_law_word" 1 ["_law_caught"] (spWordX aBeyond "beyond" "row"))
    (F : Fun K "_law_told" "_law_told" sZTold f fd) : FnOk P w K mg base CX0 6 f fd ["_law_rows_here", "_law_numbers"] spCtl := by
  refine F.okq scZTold (fun vs H Q E h => ?_) (fun cdv A outer s H vs Q E hr h => ?_)
  · obtain ⟨l, b, ok, cs, ns, rfl, _⟩ := h
    rfl
  · obtain ⟨l, b, ok, cs, ns, rfl, tr, rows, eb, hns, q⟩ := h
    refine ⟨_, (qb_cons (qs_asg (qe_tup (qa_cons qe_non (qa_cons qe_non qa_nil rfl) rfl)) (qg_tup (n := 2) rfl (qgs_cons (qg_nm nZTold_2 scZTold.nd (.inl rfl)) (qgs_cons (qg_nm nZTold_3 scZTold.nd (.inl rfl)) qgs_nil rfl) rfl) rfl rfl) rfl rfl rfl)
      (qb_cons (qs_try (i := 4) ⟨rfl, rfl⟩ scZTold.nd rfl rfl gZTold_CaseError cgCaseError XD XC (fun E1 xe pins hpass => (qb_one (qs_st nZTold_2 scZTold.nd (qe_cl1 CCounted (hr.mono (by decide)) gZTold_Counted bnCounted hpass (qa_cons (qe_nV nZTold_0) (qa_cons (qe_nV nZTold_1) qa_nil rfl) rfl) rfl rfl) rfl (.inl rfl)))) (fun x => (qb_one (qs_st nZTold_3 scZTold.nd (qe_nV nZTold_4) rfl (.inl rfl)))))
      (qb_one (qs_ret (qe_if (qt_cmp op_isN (qe_nV nZTold_3) qe_non (nomark _)) (qe_nV nZTold_2) (qe_cl CZWord (hr.mono (by decide)) gZTold_ZWord bnZWord (qa_cons (qe_nV nZTold_3) qa_nil rfl) rfl rfl)))))), ?_⟩
    refine seq_k fun k hk => ?_
    (walk_at "rd"; try simp only [rdz, reduceIte, reduceCtorEq, Nat.reduceAdd, Nat.reduceSub])
    subst hk
    refine ⟨sl_le (by decide), fun t0 ht0 => ?_⟩
    have s0 := same_upd (o := HO.tup [V.non, V.non]) ht0
    generalize upd H t0 (HO.tup [V.non, V.non]) = H0 at s0 ⊢
    refine seq_k fun k hk => ?_
    (walk_at "rd"; try simp only [rdz, reduceIte, reduceCtorEq, Nat.reduceAdd, Nat.reduceSub, tTry])
    refine ⟨l, b, ok, cs, ns, rfl, tr.same s0, rows, s0 _ _ eb, hns, fun ks hks p H1 s1 hp ep => ?_, fun i hi dx H1 s1 hdx => ⟨rfl, fun x σ' hlen hxn => ?_⟩⟩
    · subst hk
      (walk_at "rd"; try simp only [rdz, reduceIte, reduceCtorEq, Nat.reduceAdd, Nat.reduceSub])
      exact q p H1 (s0.trans s1) (s0.none hp) (by rw [hks]; exact ep)
    · replace s1 := s0.trans s1
      have sx := same_upd (o := XR x aBeyond (some dx)) hxn
      have ex : upd H1 x (XR x aBeyond (some dx)) x = _ := upd_same
      generalize upd H1 x (XR x aBeyond (some dx)) = H2 at sx ex ⊢
      obtain ⟨a0, a1, a2, a3, a4, rfl⟩ : ∃ a0 a1 a2 a3 a4, σ' = [a0, a1, a2, a3, a4] := ln5 hlen
      subst hk
      (walk_at "rd"; try simp only [rdz, reduceIte, reduceCtorEq, Nat.reduceAdd, Nat.reduceSub, endsTry])
      exact .inr ⟨x, dx, i, rfl, ex, sx _ _ hdx, fun t H' s' hn' et => q t H' ((s1.trans sx).trans s') ((s1.trans sx).none hn') (by rw [hi]; exact et)⟩
end
end K44
namespace K44
open PySem L2 PyProof.Rows
abbrev sZRows : Stmt := top 24
theorem scZRows : FnScope ["_law_tape_here", "_law_many", "_law_rows_here", "_law_at", "_law_goal", "_law_n", "_law_way", "_law_low", "_law_wide", "_law_bits"] ["_law_tape_here", "_law_many"] (defScope sZRows) := ⟨rfl, rfl, rfl, by decide +kernel, rfl, by decide +kernel, by decide +kernel⟩
theorem nZRows_0 : Nm ["_law_tape_here", "_law_many", "_law_rows_here", "_law_at", "_law_goal", "_law_n", "_law_way", "_law_low", "_law_wide", "_law_bits"] (defScope sZRows) 0 "_law_tape_here" := .of (by decide +kernel)
theorem nZRows_1 : Nm ["_law_tape_here", "_law_many", "_law_rows_here", "_law_at", "_law_goal", "_law_n", "_law_way", "_law_low", "_law_wide", "_law_bits"] (defScope sZRows) 1 "_law_many" := .of (by decide +kernel)
theorem nZRows_2 : Nm ["_law_tape_here", "_law_many", "_law_rows_here", "_law_at", "_law_goal", "_law_n", "_law_way", "_law_low", "_law_wide", "_law_bits"] (defScope sZRows) 2 "_law_rows_here" := .of (by decide +kernel)
theorem nZRows_3 : Nm ["_law_tape_here", "_law_many", "_law_rows_here", "_law_at", "_law_goal", "_law_n", "_law_way", "_law_low", "_law_wide", "_law_bits"] (defScope sZRows) 3 "_law_at" := .of (by decide +kernel)
theorem nZRows_4 : Nm ["_law_tape_here", "_law_many", "_law_rows_here", "_law_at", "_law_goal", "_law_n", "_law_way", "_law_low", "_law_wide", "_law_bits"] (defScope sZRows) 4 "_law_goal" := .of (by decide +kernel)
theorem nZRows_5 : Nm ["_law_tape_here", "_law_many", "_law_rows_here", "_law_at", "_law_goal", "_law_n", "_law_way", "_law_low", "_law_wide", "_law_bits"] (defScope sZRows) 5 "_law_n" := .of (by decide +kernel)
theorem nZRows_6 : Nm ["_law_tape_here", "_law_many", "_law_rows_here", "_law_at", "_law_goal", "_law_n", "_law_way", "_law_low", "_law_wide", "_law_bits"] (defScope sZRows) 6 "_law_way" := .of (by decide +kernel)
theorem nZRows_7 : Nm ["_law_tape_here", "_law_many", "_law_rows_here", "_law_at", "_law_goal", "_law_n", "_law_way", "_law_low", "_law_wide", "_law_bits"] (defScope sZRows) 7 "_law_low" := .of (by decide +kernel)
theorem nZRows_8 : Nm ["_law_tape_here", "_law_many", "_law_rows_here", "_law_at", "_law_goal", "_law_n", "_law_way", "_law_low", "_law_wide", "_law_bits"] (defScope sZRows) 8 "_law_wide" := .of (by decide +kernel)
theorem nZRows_9 : Nm ["_law_tape_here", "_law_many", "_law_rows_here", "_law_at", "_law_goal", "_law_n", "_law_way", "_law_low", "_law_wide", "_law_bits"] (defScope sZRows) 9 "_law_bits" := .of (by decide +kernel)
theorem gZRows_ZTake : (defScope sZRows).names.lookup ("_law_take" : Str) = some .globalImplicit := by decide +kernel
theorem gZRows_range : (defScope sZRows).names.lookup ("range" : Str) = some .globalImplicit := by decide +kernel
theorem gZRows_tuple : (defScope sZRows).names.lookup ("tuple" : Str) = some .globalImplicit := by decide +kernel
theorem bnZRows : Bn "_law_rows" := ⟨by decide +kernel, by decide +kernel⟩
section
variable {P : Program} {w : World} {K : PySem.W.Frag} {mg : Str → Option Value} {base : Heap} {f : Addr} {fd : FuncData} {bs : List Str}
theorem ok_rows (hB : ∀ x : Str, x ∈ BLs → mg x = none) (CZTake : Cal P w K mg base "_law_take" 2 ["_law_tape_here", "_law_many"] (spTake 2)) (F : Fun K "_law_rows" "_law_rows" sZRows f fd) : FnOk P w K mg base CX0 3 f fd ["_law_tape_here", "_law_many"] spRows := by
  refine F.okq scZRows (fun vs H Q E h => ?_) (fun cdv A outer s H vs Q E hr h => ?_)
  · obtain ⟨p, m, B, rfl, _⟩ := h
    rfl
  · obtain ⟨p, m, B, rfl, tp, hB0, hB1, hm1, hm2, q⟩ := h
    refine ⟨_, (qb_cons (qs_st nZRows_2 scZRows.nd (qe_lst qa_nil) rfl (.inl rfl))
      (qb_cons (qs_for PassesOwn.never rfl (qi_range1 gZRows_range (hB "range" mB_range) (qa_cons (qe_op op_sub (qe_nV nZRows_1) qe_int) qa_nil rfl) rfl) (qg_nm nZRows_3 scZRows.nd (.inl rfl))
      (qb_cons (qs_par (i := 4) (j := 5) rfl scZRows.nd rfl rfl (by decide) rfl rfl (qa_cons (qe_op op_addD (qe_op op_addD (qe_nV nZRows_3) qe_int) (qe_cl CZTake (hr.mono (by decide)) gZRows_ZTake bnZTake (qa_cons (qe_nV nZRows_0) (qa_cons (qe_op op_sub (qe_op op_sub (qe_nV nZRows_1) (qe_nV nZRows_3)) qe_int) qa_nil rfl) rfl) rfl rfl)) (qa_cons (qe_op op_sub (qe_cl CZTake (hr.mono (by decide)) gZRows_ZTake bnZTake (qa_cons (qe_nV nZRows_0) (qa_cons qe_int qa_nil rfl) rfl) rfl rfl) qe_int) qa_nil rfl) rfl) (by rfl))
      (qb_cons (qs_st nZRows_6 scZRows.nd (qe_cl CZTake (hr.mono (by decide)) gZRows_ZTake bnZTake (qa_cons (qe_nV nZRows_0) (qa_cons qe_int qa_nil rfl) rfl) rfl rfl) rfl (.inl rfl))
      (qb_one (qs_if (qt_cmp (op_eqD hr.units0) (qe_nV nZRows_6) qe_int (nomark _)) (qb_one (qs_expr (qe_appD (qe_nV nZRows_2) (qe_tup (qa_cons qe_str (qa_cons (qe_nV nZRows_5) (qa_cons (qe_nV nZRows_4) qa_nil rfl) rfl) rfl)) rfl rfl rfl rfl rfl) rfl)) (qb_one (qs_if (qt_cmp op_lt (qe_nV nZRows_6) qe_int (nomark _)) (qb_one (qs_expr (qe_appD (qe_nV nZRows_2) (qe_tup (qa_cons qe_str (qa_cons (qe_nV nZRows_5) (qa_cons (qe_op op_addD (qe_nV nZRows_5) (qe_cl CZTake (hr.mono (by decide)) gZRows_ZTake bnZTake (qa_cons (qe_nV nZRows_0) (qa_cons qe_int qa_nil rfl) rfl) rfl rfl)) (qa_cons (qe_nV nZRows_4) qa_nil rfl) rfl) rfl) rfl)) rfl rfl rfl rfl rfl) rfl)) (qb_one (qs_if (qt_cmp op_lt (qe_nV nZRows_6) qe_int (nomark _)) (qb_one (qs_expr (qe_appD (qe_nV nZRows_2) (qe_tup (qa_cons qe_str (qa_cons (qe_nV nZRows_5) (qa_cons (qe_nV nZRows_4) qa_nil rfl) rfl) rfl)) rfl rfl rfl rfl rfl) rfl)) (qb_one (qs_if (qt_cmp op_lt (qe_nV nZRows_6) qe_int (nomark _)) (qb_cons (qs_asg (qe_ix ix_D (qe_lst (qa_cons (qe_tup (qa_cons (qe_op op_sub (qe_nV nZRows_5) qe_int) (qa_cons (qe_op op_addD qe_int (qe_cl CZTake (hr.mono (by decide)) gZRows_ZTake bnZTake (qa_cons (qe_nV nZRows_0) (qa_cons qe_int qa_nil rfl) rfl) rfl rfl)) qa_nil rfl) rfl)) (qa_cons (qe_tup (qa_cons (qe_un un_neg qe_int) (qa_cons qe_int qa_nil rfl) rfl)) qa_nil rfl) rfl)) (qe_op op_fdivL (qe_cl CZTake (hr.mono (by decide)) gZRows_ZTake bnZTake (qa_cons (qe_nV nZRows_0) (qa_cons qe_int qa_nil rfl) rfl) rfl rfl) qe_int) (fun _ _ => rfl)) (qg_tup (n := 2) rfl (qgs_cons (qg_nm nZRows_7 scZRows.nd (.inl rfl)) (qgs_cons (qg_nm nZRows_8 scZRows.nd (.inl rfl)) qgs_nil rfl) rfl) rfl rfl) rfl rfl rfl)
      (qb_cons (qs_st nZRows_9 scZRows.nd (qe_cl CZTake (hr.mono (by decide)) gZRows_ZTake bnZTake (qa_cons (qe_nV nZRows_0) (qa_cons (qe_op op_shl qe_int (qe_nV nZRows_8)) qa_nil rfl) rfl) rfl rfl) rfl (.inl rfl))
      (qb_one (qs_expr (qe_appD (qe_nV nZRows_2) (qe_tup (qa_cons qe_str (qa_cons (qe_nV nZRows_7) (qa_cons (qe_nV nZRows_8) (qa_cons (qe_nV nZRows_9) (qa_cons (qe_nV nZRows_4) qa_nil rfl) rfl) rfl) rfl) rfl)) rfl rfl rfl rfl rfl) rfl)))) (qb_one (qs_if (qt_cmp (op_eqD hr.units0) (qe_nV nZRows_6) qe_int (nomark _)) (qb_cons (qs_asg (qe_ix ix_D (qe_lst (qa_cons (qe_tup (qa_cons (qe_op op_sub (qe_nV nZRows_5) qe_int) (qa_cons (qe_op op_addD qe_int (qe_cl CZTake (hr.mono (by decide)) gZRows_ZTake bnZTake (qa_cons (qe_nV nZRows_0) (qa_cons qe_int qa_nil rfl) rfl) rfl rfl)) qa_nil rfl) rfl)) (qa_cons (qe_tup (qa_cons (qe_un un_neg qe_int) (qa_cons qe_int qa_nil rfl) rfl)) (qa_cons (qe_tup (qa_cons (qe_un un_neg qe_int) (qa_cons qe_int qa_nil rfl) rfl)) qa_nil rfl) rfl) rfl)) (qe_op op_fdivL (qe_cl CZTake (hr.mono (by decide)) gZRows_ZTake bnZTake (qa_cons (qe_nV nZRows_0) (qa_cons qe_int qa_nil rfl) rfl) rfl rfl) qe_int) (fun _ _ => rfl)) (qg_tup (n := 2) rfl (qgs_cons (qg_nm nZRows_7 scZRows.nd (.inl rfl)) (qgs_cons (qg_nm nZRows_8 scZRows.nd (.inl rfl)) qgs_nil rfl) rfl) rfl rfl) rfl rfl rfl)
      (qb_one (qs_expr (qe_appD (qe_nV nZRows_2) (qe_tup (qa_cons qe_str (qa_cons (qe_nV nZRows_7) (qa_cons (qe_ct call_tuple_of gZRows_tuple (hB "tuple" mB_tuple) boot_tuple bn_tuple (qa_cons (qe_comp (NX := ["_law_tape_here", "_law_many", "_law_rows_here", "_law_at", "_law_goal", "_law_n", "_law_way", "_law_low", "_law_wide", "_law_bits"]) (kX := (defScope sZRows).names) ["_law_k", "_law_at", "_law_tape_here", "_law_many"] [none, some 3, some 0, some 1] rfl rfl ⟨rfl, by decide +kernel, by decide +kernel, by decide +kernel, by decide +kernel⟩ rfl (qi_range1 gZRows_range (hB "range" mB_range) (qa_cons (qe_nV nZRows_8) qa_nil rfl) rfl) (fun _ _ _ _ _ => (qg_name 0 (show List.Nodup (["_law_k", "_law_at", "_law_tape_here", "_law_many"] : List Str) from by decide +kernel) rfl (Or.inl rfl))) (fun _ _ _ _ _ => qc_nil) (fun _ _ _ _ _ => (qe_op op_addD (qe_op op_addD (qe_vV 1) qe_int) (qe_cl CZTake (hr.mono (by decide)) rfl bnZTake (qa_cons (qe_vV 2) (qa_cons (qe_op op_sub (qe_op op_sub (qe_vV 3) (qe_vV 1)) qe_int) qa_nil rfl) rfl) rfl rfl)))) qa_nil rfl) rfl rfl) qa_nil rfl) rfl) rfl)) rfl rfl rfl rfl rfl) rfl))) (qb_one (qs_expr (qe_appD (qe_nV nZRows_2) (qe_tup (qa_cons qe_str (qa_cons (qe_cl CZTake (hr.mono (by decide)) gZRows_ZTake bnZTake (qa_cons (qe_nV nZRows_0) (qa_cons qe_int qa_nil rfl) rfl) rfl rfl) qa_nil rfl) rfl)) rfl rfl rfl rfl rfl) rfl)))))))))))))) (fun _ => rfl))
      (qb_one (qs_ret (qe_op op_addD (qe_nV nZRows_2) (qe_lst (qa_cons (qe_tup (qa_cons qe_str (qa_cons (qe_cl CZTake (hr.mono (by decide)) gZRows_ZTake bnZTake (qa_cons (qe_nV nZRows_0) (qa_cons qe_int qa_nil rfl) rfl) rfl rfl) qa_nil rfl) rfl)) qa_nil rfl))))))), ?_⟩
    refine seq_k fun k hk => ?_
    (walk_at "rd"; try simp only [rdz, reduceIte, reduceCtorEq, Nat.reduceAdd, Nat.reduceSub])
    refine ⟨sl_le (by decide), fun l hl => ?_⟩
    have hlp : l ≠ p := tp.ne hl
    have s6 := same_upd (o := HO.lst []) hl
    have tp6 := tp.same s6
    have e6 : upd H l (HO.lst []) l = _ := upd_same
    generalize upd H l (HO.lst []) = H6 at s6 tp6 e6 ⊢
    subst hk
    obtain ⟨OD, hOD⟩ : ∃ OD : Addr → Prop, OD = fun a => a ≠ p ∧ a ≠ l := ⟨_, rfl⟩
    have kd : ∀ {H H' : Hp}, SameX p H H' → ∀ a o, OD a → H a = some o → OD a ∧ H' a = some o := fun {H H'} sx a o h e => by
      refine ⟨h, sx a o ?_ e⟩
      rw [hOD] at h
      exact h.1
    refine seq_k fun k hk => ?_
    refine for_k fun R hR => ?_
    (walk_at "rd"; try simp only [rdz, reduceIte, reduceCtorEq, Nat.reduceAdd, Nat.reduceSub, iRng1])
    refine ⟨by omega, by omega, ?_⟩
    obtain ⟨Pv, hPv⟩ : ∃ Pv : Nat → L2.St → Hp → Prop, Pv = fun (i : Nat) σ H' => ∃ (xs : List V) (rs : List RowI) (o3 o4 o5 o6 o7 o8 o9 : Option V), SameX p H H' ∧ TapeAt H' p (B + 2 + 500 * (i : Int)) ∧ H' l = some (.lst xs) ∧ TreesAt OD H' xs (rs.map rowD) ∧ rs.length = i ∧ (∀ (j : Nat) r, rs[j]? = some r → RowOk m j r) ∧
      σ = [some (.ref p), some (.int m), some (.ref l), o3, o4, o5, o6, o7, o8, o9] := ⟨_, rfl⟩
    refine for_r hR Pv (by rw [hPv]; exact ⟨[], [], _, _, _, _, _, _, _, s6.x, tp6.le (by show B ≤ B + 2 + 500 * ((0 : Nat) : Int); omega), e6, .nil, rfl, fun j r h => (by cases h), rfl⟩) ?_ ?_
    · intro i σ H7 hi pv
      rw [hPv] at pv
      obtain ⟨xs, rs, o3, o4, o5, o6, o7, o8, o9, sx7, tp7, e7, ts7, hrl, rok, rfl⟩ := pv
      have hi20 : (i : Int) < m - 1 := by omega
      have hx : B + 2 + 500 * (i : Int) ≤ 1000000 := by omega
      refine seq_k fun k2 hk2 => ?_
      (walk_at "rd"; try simp only [rdz, reduceIte, reduceCtorEq, Nat.reduceAdd, Nat.reduceSub])
      refine ⟨p, m - (0 + (i : Int)) - 1, B + 2 + 500 * (i : Int), rfl, tp7, tk1 hx, by omega, by omega, by decide, fun z => absurd z (by omega), fun g8 H8 g80 g81 s8 tp8 => ?_⟩
      (walk_at "rd"; try simp only [rdz, reduceIte, reduceCtorEq, Nat.reduceAdd, Nat.reduceSub])
      refine ⟨p, 24, B + 2 + 500 * (i : Int) + 2, rfl, tp8, tk2 hx, by decide, by decide, by decide, fun z => absurd z (by decide), fun n9 H9 n90 n91 s9 tp9 => ?_⟩
      (walk_at "rd"; try simp only [rdz, reduceIte, reduceCtorEq, Nat.reduceAdd, Nat.reduceSub])
      subst hk2
      refine seq_k fun k2 hk2 => ?_
      (walk_at "rd"; try simp only [rdz, reduceIte, reduceCtorEq, Nat.reduceAdd, Nat.reduceSub])
      refine ⟨p, 9, B + 2 + 500 * (i : Int) + 2 + 2, rfl, tp9, tk3 hx, by decide, by decide, by decide, fun z => absurd z (by decide), fun way H10 way0 way1 s10 tp10 => ?_⟩
      (walk_at "rd"; try simp only [rdz, reduceIte, reduceCtorEq, Nat.reduceAdd, Nat.reduceSub])
      have s710 := (s8.trans s9).trans s10
      have e10 := s710 _ _ hlp e7
      have ts10 := ts7.keep (kd s710)
      have sx10 := sx7.trans s710
      have hgoal : btw (i : Int) m (0 + (i : Int) + 1 + g8) = true := by rw [Int.zero_add]; exact btw_goal g80 (by omega)
      have bgoal : (0 + (i : Int) + 1 + g8).natAbs ≤ 2 ^ 64 := by omega
      generalize 0 + (i : Int) + 1 + g8 = goal at hgoal bgoal ⊢
      have bn : -4 ≤ n9 - 4 ∧ n9 - 4 < 20 := by omega
      generalize n9 - 4 = n at bn ⊢
      have fin : ∀ (t : Addr) (r : RowI) (H16 : Hp) (o7 o8 o9 : Option V), SameX p H H16 → H16 l = some (.lst xs) → TreesAt OD H16 xs (rs.map rowD) → TreeAt OD H16 (.ref t) (rowD r) → TapeAt H16 p (B + 2 + 500 * (i : Int) + 490) → RowOk m i r →
          apq (H16 l) l (.ref t) H16 fun _ H1 => Pv (i + 1) [some (.ref p), some (.int m), some (.ref l), some (.int (0 + (i : Int))), some (.int goal), some (.int n), some (.int way), o7, o8, o9] H1 := by
        intro t r H16 o7 o8 o9 sx16 e16 ts16 tt tp16 rk
        have hxl := ts16.length
        rw [List.length_map] at hxl
        rw [e16, apq_lst]
        refine ⟨Nat.lt_of_lt_of_le (show xs.length < 1000 by omega) (sl_le (by decide)), ?_⟩
        have sx18 : SameX p H (upd H16 l (HO.lst (xs ++ [V.ref t]))) := samex_upd sx16 hl
        have tp18 : TapeAt (upd H16 l (HO.lst (xs ++ [V.ref t]))) p (B + 2 + 500 * (i : Int) + 490) := tp16.upd hlp
        have e18 : upd H16 l (HO.lst (xs ++ [V.ref t])) l = _ := upd_same
        have kk : ∀ a o, OD a → H16 a = some o → OD a ∧ upd H16 l (HO.lst (xs ++ [V.ref t])) a = some o := fun a o h e => by
          refine ⟨h, ?_⟩
          rw [hOD] at h
          rw [upd_ne h.2]
          exact e
        have ts18 := (ts16.keep kk).append (.cons (tt.keep kk) .nil)
        rw [hPv]
        exact ⟨_, rs ++ [r], _, _, _, _, _, _, _, sx18, tp18.le (le490 _ i), e18, by rw [List.map_append]; exact ts18, by rw [List.length_append, List.length_singleton, hrl], rows_snoc rok (by rw [hrl]; exact rk), rfl⟩
      have new : ∀ {H16 : Hp} {t : Addr} {B' : Int}, TapeAt H16 p B' → H16 l = some (.lst xs) → H16 t = none → OD t := fun tp e ht => by
        rw [hOD]
        exact ⟨tp.ne ht, (ne_of_none e ht).symm⟩
      subst hk2
      refine ifs_k fun kt ke hkt hke => ?_
      (walk_at "rd"; try simp only [rdz, reduceIte, reduceCtorEq, Nat.reduceAdd, Nat.reduceSub])
      by_cases c0 : way = 0
      · rw [if_pos c0]
        subst hkt
        (walk_at "rd"; try simp only [rdz, reduceIte, reduceCtorEq, Nat.reduceAdd, Nat.reduceSub, e10])
        refine ⟨sl_le (by decide), fun t ht => ?_⟩
        have s11 := same_upd (o := HO.tup [V.str "is", V.int n, V.int goal]) ht
        exact fin t (.ins "is" [n, goal]) _ _ _ _ (sx10.trans s11.x) (s11 _ _ e10) (ts10.same s11) (.tup (new tp10 e10 ht) upd_same (by show 3 ≤ 9000; decide) (.cons (.str _) (.cons (.int _) (.cons (.int _) .nil)))) ((tp10.same s11).le tu3) (ok_is (by omega) bgoal hgoal).1
      rw [if_neg c0]
      subst hke
      refine ifs_k fun kt ke hkt hke => ?_
      (walk_at "rd"; try simp only [rdz, reduceIte, reduceCtorEq, Nat.reduceAdd, Nat.reduceSub])
      by_cases c1 : way < 3
      · rw [if_pos c1]
        subst hkt
        (walk_at "rd"; try simp only [rdz, reduceIte, reduceCtorEq, Nat.reduceAdd, Nat.reduceSub, e10])
        refine ⟨p, 8, B + 2 + 500 * (i : Int) + 2 + 2 + 2, rfl, tp10, tk4 hx, by decide, by decide, by decide, fun z => absurd z (by decide), fun u H11 u0 u1 s11 tp11 => ?_⟩
        (walk_at "rd"; try simp only [rdz, reduceIte, reduceCtorEq, Nat.reduceAdd, Nat.reduceSub])
        refine ⟨sl_le (by decide), fun t ht => ?_⟩
        have e11 := s11 _ _ hlp e10
        have ts11 := ts10.keep (kd s11)
        have s12 := same_upd (o := HO.tup [V.str "within", V.int n, V.int (n + u), V.int goal]) ht
        exact fin t (.ins "within" [n, n + u, goal]) _ _ _ _ ((sx10.trans s11).trans s12.x) (s12 _ _ e11) (ts11.same s12) (.tup (new tp11 e11 ht) upd_same (by show 4 ≤ 9000; decide) (.cons (.str _) (.cons (.int _) (.cons (.int _) (.cons (.int _) .nil))))) ((tp11.same s12).le tu4) (ok_within (by omega) (by omega) (by omega) bgoal hgoal)
      rw [if_neg c1]
      subst hke
      refine ifs_k fun kt ke hkt hke => ?_
      (walk_at "rd"; try simp only [rdz, reduceIte, reduceCtorEq, Nat.reduceAdd, Nat.reduceSub])
      by_cases c2 : way < 5
      · rw [if_pos c2]
        subst hkt
        (walk_at "rd"; try simp only [rdz, reduceIte, reduceCtorEq, Nat.reduceAdd, Nat.reduceSub, e10])
        refine ⟨sl_le (by decide), fun t ht => ?_⟩
        have s11 := same_upd (o := HO.tup [V.str "below", V.int n, V.int goal]) ht
        exact fin t (.ins "below" [n, goal]) _ _ _ _ (sx10.trans s11.x) (s11 _ _ e10) (ts10.same s11) (.tup (new tp10 e10 ht) upd_same (by show 3 ≤ 9000; decide) (.cons (.str _) (.cons (.int _) (.cons (.int _) .nil)))) ((tp10.same s11).le tu3) (ok_is (by omega) bgoal hgoal).2
      rw [if_neg c2]
      subst hke
      refine ifs_k fun kt ke hkt hke => ?_
      (walk_at "rd"; try simp only [rdz, reduceIte, reduceCtorEq, Nat.reduceAdd, Nat.reduceSub])
      by_cases c3 : way < 7
      · rw [if_pos c3]
        subst hkt
        (walk_at "rd"; try simp only [rdz, reduceIte, reduceCtorEq, Nat.reduceAdd, Nat.reduceSub])
        refine ⟨p, 12, B + 2 + 500 * (i : Int) + 2 + 2 + 2, rfl, tp10, tk4 hx, by decide, by decide, by decide, fun z => absurd z (by decide), fun u H11 u0 u1 s11 tp11 => ?_⟩
        (walk_at "rd"; try simp only [rdz, reduceIte, reduceCtorEq, Nat.reduceAdd, Nat.reduceSub])
        refine ⟨sl_le (by decide), fun t1 ht1 => ⟨sl_le (by decide), fun t2 ht2 => ⟨sl_le (by decide), fun t3 ht3 => ?_⟩⟩⟩
        have e11 := s11 _ _ hlp e10
        have ts11 := ts10.keep (kd s11)
        have v1 := same_upd (o := HO.tup [V.int (n - 3), V.int (1 + u)]) ht1
        have v2 := same_upd (o := HO.tup [V.int (-20), V.int 64]) ht2
        have v3 := same_upd (o := HO.lst [V.ref t1, V.ref t2]) ht3
        have f1 := (v2.trans v3) _ _ (show upd H11 t1 (HO.tup [V.int (n - 3), V.int (1 + u)]) t1 = _ from upd_same)
        have f2 := v3 _ _ (show upd (upd H11 t1 (HO.tup [V.int (n - 3), V.int (1 + u)])) t2 (HO.tup [V.int (-20), V.int 64]) t2 = _ from upd_same)
        have f3 : upd (upd (upd H11 t1 (HO.tup [V.int (n - 3), V.int (1 + u)])) t2 (HO.tup [V.int (-20), V.int 64])) t3 (HO.lst [V.ref t1, V.ref t2]) t3 = _ := upd_same
        have v := (v1.trans v2).trans v3
        have n1 := tp11.ne ht1
        have n2 := (tp11.same v1).ne ht2
        have n3 := (tp11.same (v1.trans v2)).ne ht3
        have tp12 := tp11.same v
        have e12 := v _ _ e11
        have ts12 := ts11.same v
        generalize upd (upd (upd H11 t1 (HO.tup [V.int (n - 3), V.int (1 + u)])) t2 (HO.tup [V.int (-20), V.int 64])) t3 (HO.lst [V.ref t1, V.ref t2]) = H12 at v3 f1 f2 f3 v tp12 e12 ts12 ⊢
        refine ⟨p, 4, B + 2 + 500 * (i : Int) + 2 + 2 + 2 + 2, rfl, tp12, tk5 hx, by decide, by decide, by decide, fun z => absurd z (by decide), fun u4 H13 u40 u41 s13 tp13 => ?_⟩
        have f1 := s13 _ _ n1 f1
        have f2 := s13 _ _ n2 f2
        have f3 := s13 _ _ n3 f3
        have e13 := s13 _ _ hlp e12
        have ts13 := ts12.keep (kd s13)
        have sx13 := ((sx10.trans s11).trans v.x).trans s13
        obtain ⟨tk, lo, wd, hat, etk, blo, bwd⟩ : ∃ (tk : Addr) (lo wd : Int), atI [V.ref t1, V.ref t2] (u4 / 2) = some (V.ref tk) ∧ H13 tk = some (.tup [V.int lo, V.int wd]) ∧ lo.natAbs ≤ 100 ∧ (1 ≤ wd ∧ wd ≤ 64) := by
          have : u4 / 2 = 0 ∨ u4 / 2 = 1 := by omega
          rcases this with z | z
          · rw [z]; exact ⟨t1, n - 3, 1 + u, rfl, f1, by omega, by omega⟩
          · rw [z]; exact ⟨t2, -20, 64, rfl, f2, by decide, by decide⟩
        (walk_at "rd"; try simp only [rdz, reduceIte, reduceCtorEq, Nat.reduceAdd, Nat.reduceSub, f3, hat, etk, Int.one_mul])
        have pw1 := two_pow_pos wd.toNat
        have pw2 := pow_le_64 (k := wd.toNat) (by omega)
        refine ⟨⟨by decide, by decide⟩, ⟨by omega, by omega, by decide⟩, p, 2 ^ wd.toNat, B + 2 + 500 * (i : Int) + 2 + 2 + 2 + 2 + 2, rfl, tp13, tk6 hx, pw1, by omega, by decide, fun _ => by decide, fun bits H14 bits0 bits1 s14 tp14 => ?_⟩
        have e14 := s14 _ _ hlp e13
        have ts14 := ts13.keep (kd s14)
        (walk_at "rd"; try simp only [rdz, reduceIte, reduceCtorEq, Nat.reduceAdd, Nat.reduceSub, e14])
        refine ⟨sl_le (by decide), fun t ht => ?_⟩
        have s15 := same_upd (o := HO.tup [V.str "mask", V.int lo, V.int wd, V.int bits, V.int goal]) ht
        exact fin t (.ins "mask" [lo, wd, bits, goal]) _ _ _ _ ((sx13.trans s14).trans s15.x) (s15 _ _ e14) (ts14.same s15) (.tup (new tp14 e14 ht) upd_same (by show 5 ≤ 9000; decide) (.cons (.str _) (.cons (.int _) (.cons (.int _) (.cons (.int _) (.cons (.int _) .nil)))))) ((tp14.same s15).le tu6) (ok_mask bwd ⟨bits0, bits1⟩ (by omega) bgoal hgoal)
      rw [if_neg c3]
      subst hke
      refine ifs_k fun kt ke hkt hke => ?_
      (walk_at "rd"; try simp only [rdz, reduceIte, reduceCtorEq, Nat.reduceAdd, Nat.reduceSub])
      by_cases c4 : way = 7
      · rw [if_pos c4]
        subst hkt
        (walk_at "rd"; try simp only [rdz, reduceIte, reduceCtorEq, Nat.reduceAdd, Nat.reduceSub])
        refine ⟨p, 12, B + 2 + 500 * (i : Int) + 2 + 2 + 2, rfl, tp10, tk4 hx, by decide, by decide, by decide, fun z => absurd z (by decide), fun u H11 u0 u1 s11 tp11 => ?_⟩
        (walk_at "rd"; try simp only [rdz, reduceIte, reduceCtorEq, Nat.reduceAdd, Nat.reduceSub])
        refine ⟨sl_le (by decide), fun t1 ht1 => ⟨sl_le (by decide), fun t2 ht2 => ⟨sl_le (by decide), fun t4 ht4 => ⟨sl_le (by decide), fun t3 ht3 => ?_⟩⟩⟩⟩
        have e11 := s11 _ _ hlp e10
        have ts11 := ts10.keep (kd s11)
        have v1 := same_upd (o := HO.tup [V.int (n - 3), V.int (1 + u)]) ht1
        have v2 := same_upd (o := HO.tup [V.int (-20), V.int 64]) ht2
        have v4 := same_upd (o := HO.tup [V.int (-100), V.int 200]) ht4
        have v3 := same_upd (o := HO.lst [V.ref t1, V.ref t2, V.ref t4]) ht3
        have f1 := ((v2.trans v4).trans v3) _ _ (show upd H11 t1 (HO.tup [V.int (n - 3), V.int (1 + u)]) t1 = _ from upd_same)
        have f2 := (v4.trans v3) _ _ (show upd (upd H11 t1 (HO.tup [V.int (n - 3), V.int (1 + u)])) t2 (HO.tup [V.int (-20), V.int 64]) t2 = _ from upd_same)
        have f4 := v3 _ _ (show upd (upd (upd H11 t1 (HO.tup [V.int (n - 3), V.int (1 + u)])) t2 (HO.tup [V.int (-20), V.int 64])) t4 (HO.tup [V.int (-100), V.int 200]) t4 = _ from upd_same)
        have f3 : upd (upd (upd (upd H11 t1 (HO.tup [V.int (n - 3), V.int (1 + u)])) t2 (HO.tup [V.int (-20), V.int 64])) t4 (HO.tup [V.int (-100), V.int 200])) t3 (HO.lst [V.ref t1, V.ref t2, V.ref t4]) t3 = _ := upd_same
        have v := ((v1.trans v2).trans v4).trans v3
        have n1 := tp11.ne ht1
        have n2 := (tp11.same v1).ne ht2
        have n4 := (tp11.same (v1.trans v2)).ne ht4
        have n3 := (tp11.same ((v1.trans v2).trans v4)).ne ht3
        have tp12 := tp11.same v
        have e12 := v _ _ e11
        have ts12 := ts11.same v
        generalize upd (upd (upd (upd H11 t1 (HO.tup [V.int (n - 3), V.int (1 + u)])) t2 (HO.tup [V.int (-20), V.int 64])) t4 (HO.tup [V.int (-100), V.int 200])) t3 (HO.lst [V.ref t1, V.ref t2, V.ref t4]) = H12 at v3 f1 f2 f4 f3 v tp12 e12 ts12 ⊢
        refine ⟨p, 6, B + 2 + 500 * (i : Int) + 2 + 2 + 2 + 2, rfl, tp12, tk5 hx, by decide, by decide, by decide, fun z => absurd z (by decide), fun u4 H13 u40 u41 s13 tp13 => ?_⟩
        have f1 := s13 _ _ n1 f1
        have f2 := s13 _ _ n2 f2
        have f4 := s13 _ _ n4 f4
        have f3 := s13 _ _ n3 f3
        have e13 := s13 _ _ hlp e12
        have ts13 := ts12.keep (kd s13)
        have sx13 := ((sx10.trans s11).trans v.x).trans s13
        obtain ⟨tk, lo, wd, hat, etk, blo, bwd⟩ : ∃ (tk : Addr) (lo wd : Int), atI [V.ref t1, V.ref t2, V.ref t4] (u4 / 2) = some (V.ref tk) ∧ H13 tk = some (.tup [V.int lo, V.int wd]) ∧ lo.natAbs ≤ 100 ∧ (1 ≤ wd ∧ wd ≤ 200) := by
          have : u4 / 2 = 0 ∨ u4 / 2 = 1 ∨ u4 / 2 = 2 := by omega
          rcases this with z | z | z
          · rw [z]; exact ⟨t1, n - 3, 1 + u, rfl, f1, by omega, by omega⟩
          · rw [z]; exact ⟨t2, -20, 64, rfl, f2, by decide, by decide⟩
          · rw [z]; exact ⟨t4, -100, 200, rfl, f4, by decide, by decide⟩
        (walk_at "rd"; try simp only [rdz, reduceIte, reduceCtorEq, Nat.reduceAdd, Nat.reduceSub, f3, hat, etk, e13])
        refine ⟨⟨by decide, by decide⟩, ?_⟩
        refine comp_k fun R2 hR2 => ?_
        (walk_at "rd"; try simp only [rdz, reduceIte, reduceCtorEq, Nat.reduceAdd, Nat.reduceSub, iRng1])
        refine ⟨by omega, by omega, ?_⟩
        obtain ⟨Pc, hPc⟩ : ∃ Pv : Nat → List V → L2.St → Hp → Prop, Pv = fun (j : Nat) acc τ H' => ∃ (gs : List Int) (o0 : Option V), SameX p H13 H' ∧ TapeAt H' p (B + 2 + 500 * (i : Int) + 10 + 2 * (j : Int)) ∧ acc = gs.map V.int ∧ gs.length = j ∧ gs.all (btw (i : Int) m) = true ∧ τ = [o0, some (V.int (0 + (i : Int))), some (V.ref p), some (V.int m)] := ⟨_, rfl⟩
        refine comp_r hR2 (sl_le (by omega)) Pc (by rw [hPc]; exact ⟨[], _, SameX.refl _ _, tp13.le (le10 _), rfl, rfl, rfl, rfl⟩) ?_ ?_ ?_
        · intro j acc τ H14 pc
          rw [hPc] at pc
          obtain ⟨gs, _, _, _, rfl, hg, _⟩ := pc
          rw [List.length_map]
          omega
        · intro j acc τ H14 hj pc
          rw [hPc] at pc
          obtain ⟨gs, o0, s14, tp14, rfl, hgl, hga, rfl⟩ := pc
          (walk_at "rd"; try simp only [rdz, reduceIte, reduceCtorEq, Nat.reduceAdd, Nat.reduceSub])
          refine ⟨p, m - (0 + (i : Int)) - 1, B + 2 + 500 * (i : Int) + 10 + 2 * (j : Int), rfl, tp14, by show B + 2 + 500 * (i : Int) + 10 + 2 * (j : Int) + 2 ≤ 1000100; omega, by omega, by omega, by decide, fun z => absurd z (by omega), fun g H15 g0 g1 s15 tp15 => ?_⟩
          (walk_at "rd"; try simp only [rdz, reduceIte, reduceCtorEq, Nat.reduceAdd, Nat.reduceSub])
          rw [hPc]
          have hb : btw (i : Int) m (0 + (i : Int) + 1 + g) = true := by rw [Int.zero_add]; exact btw_goal g0 (by omega)
          refine ⟨gs ++ [0 + (i : Int) + 1 + g], _, s14.trans s15, tp15.le (le2s _ j), by rw [List.map_append]; rfl, by rw [List.length_append, List.length_singleton, hgl], by rw [List.all_append, hga, List.all_cons, hb]; rfl, rfl⟩
        · intro acc τ H14 d14 pc hd14
          rw [hPc] at pc
          obtain ⟨gs, o0, s14, tp14, rfl, hgl, hga, rfl⟩ := pc
          have s15 := same_upd (o := HO.lst (gs.map V.int)) hd14
          have e15 : upd H14 d14 (HO.lst (gs.map V.int)) d14 = _ := upd_same
          have el := s15 _ _ (s14 _ _ hlp e13)
          have ts15 := (ts13.keep (kd s14)).same s15
          have tp15 := tp14.same s15
          have sx15 := (sx13.trans s14).trans s15.x
          generalize upd H14 d14 (HO.lst (gs.map V.int)) = H15 at s15 e15 el ts15 tp15 sx15 ⊢
          (walk_at "rd"; try simp only [rdz, reduceIte, reduceCtorEq, Nat.reduceAdd, Nat.reduceSub, e15])
          refine ⟨gs.map V.int, .inl ⟨SqL.of e15, fun lt hlt => ⟨sl_le (by decide), fun t ht => ?_⟩⟩⟩
          have w1 := same_upd (o := HO.tup (gs.map V.int)) hlt
          have w2 := same_upd (o := HO.tup [V.str "table", V.int lo, V.ref lt]) ht
          have g1 := w2 _ _ (show upd H15 lt (HO.tup (gs.map V.int)) lt = _ from upd_same)
          have w := w1.trans w2
          have okl : OD lt := new tp15 el hlt
          have okt : OD t := new (tp15.same w1) (w1 _ _ el) ht
          have glen : gs.length ≤ 200 := by omega
          refine fin t (.tab lo gs) _ _ _ _ (sx15.trans w.x) (w _ _ el) (ts15.same w) (.tup okt upd_same (by show 3 ≤ 9000; decide) (.cons (.str _) (.cons (.int _) (.cons (.tup okl g1 (by rw [List.length_map]; omega) (treesInts gs)) .nil)))) ((tp15.same w).le (by omega)) ⟨fun z => ?_, glen, hga, by omega⟩
          rw [z] at hgl
          simp at hgl
          omega
      rw [if_neg c4]
      subst hke
      (walk_at "rd"; try simp only [rdz, reduceIte, reduceCtorEq, Nat.reduceAdd, Nat.reduceSub, e10])
      refine ⟨p, 5, B + 2 + 500 * (i : Int) + 2 + 2 + 2, rfl, tp10, tk4 hx, by decide, by decide, by decide, fun z => absurd z (by decide), fun u H11 u0 u1 s11 tp11 => ?_⟩
      (walk_at "rd"; try simp only [rdz, reduceIte, reduceCtorEq, Nat.reduceAdd, Nat.reduceSub])
      refine ⟨sl_le (by decide), fun t ht => ?_⟩
      have e11 := s11 _ _ hlp e10
      have ts11 := ts10.keep (kd s11)
      have s12 := same_upd (o := HO.tup [V.str "pick", V.int u]) ht
      exact fin t (.ins "pick" [u]) _ _ _ _ ((sx10.trans s11).trans s12.x) (s12 _ _ e11) (ts11.same s12) (.tup (new tp11 e11 ht) upd_same (by show 2 ≤ 9000; decide) (.cons (.str _) (.cons (.int _) .nil))) ((tp11.same s12).le tu4) (ok_pick u0 (by omega))
    · intro σ H7 pv
      rw [hPv] at pv
      obtain ⟨xs, rs, o3, o4, o5, o6, o7, o8, o9, sx7, tp7, e7, ts7, hrl, rok, rfl⟩ := pv
      show k _ _
      subst hk
      have hxl := ts7.length
      rw [List.length_map] at hxl
      (walk_at "rd"; try simp only [rdz, reduceIte, reduceCtorEq, Nat.reduceAdd, Nat.reduceSub])
      refine ⟨p, 5, B + 2 + 500 * (((m - 1).toNat : Nat) : Int), rfl, tp7, by show B + 2 + 500 * (((m - 1).toNat : Nat) : Int) + 2 ≤ 1000100; omega, by decide, by decide, by decide, fun z => absurd z (by decide), fun u H8 u0 u1 s8 tp8 => ?_⟩
      have e8 := s8 _ _ hlp e7
      have ts8 := ts7.keep (kd s8)
      (walk_at "rd"; try simp only [rdz, reduceIte, reduceCtorEq, Nat.reduceAdd, Nat.reduceSub])
      refine ⟨sl_le (by decide), fun t ht => ⟨sl_le (by decide), fun l9 hl9 => ?_⟩⟩
      have v1 := same_upd (o := HO.tup [V.str "pick", V.int u]) ht
      have v2 := same_upd (o := HO.lst [V.ref t]) hl9
      have f1 := v2 _ _ (show upd H8 t (HO.tup [V.str "pick", V.int u]) t = _ from upd_same)
      have v := v1.trans v2
      have e9 := v _ _ e8
      have ts9 := ts8.same v
      have tp9 := tp8.same v
      have sx9 := (sx7.trans s8).trans v.x
      have okt : OD t := by
        rw [hOD]
        exact ⟨tp8.ne ht, (ne_of_none e8 ht).symm⟩
      (walk_at "rd"; try simp only [rdz, reduceIte, reduceCtorEq, Nat.reduceAdd, Nat.reduceSub, e9])
      generalize upd (upd H8 t (HO.tup [V.str "pick", V.int u])) l9 (HO.lst [V.ref t]) = H9 at v2 f1 v e9 ts9 tp9 sx9 ⊢
      refine ⟨sl_le (by omega), fun l10 hl10 => ?_⟩
      have v3 := same_upd (o := HO.lst (xs ++ [V.ref t])) hl10
      have tall : TreesAt OD H9 (xs ++ [V.ref t]) ((rs ++ [RowI.ins "pick" [u]]).map rowD) := by
        rw [List.map_append]
        exact ts9.append (.cons (.tup okt f1 (by show 2 ≤ 9000; decide) (.cons (.str _) (.cons (.int _) .nil))) .nil)
      refine q l10 (rs ++ [RowI.ins "pick" [u]]) _ (sx9.trans v3.x) ((tp9.same v3).le (by omega)) (.lst (tp9.ne hl10) upd_same (by rw [List.length_append, List.length_singleton]; omega) ((tall.same v3).keep fun a o h e => ?_)) (by rw [List.length_append, List.length_singleton]; omega) (rows_snoc rok (ok_pick u0 (by omega)))
      rw [hOD] at h
      exact ⟨h.1, e⟩
end
end K44
namespace K44
open PySem L2 PyProof.Rows
theorem bnTests : Bn "TESTS" := ⟨by decide +kernel, by decide +kernel⟩
abbrev sZPrices : Stmt := top 21
theorem scZPrices : FnScope ["_law_tape_here", "_law_many", "_law_most"] ["_law_tape_here", "_law_many"] (defScope sZPrices) := ⟨rfl, rfl, rfl, by decide +kernel, rfl, by decide +kernel, by decide +kernel⟩
theorem nZPrices_0 : Nm ["_law_tape_here", "_law_many", "_law_most"] (defScope sZPrices) 0 "_law_tape_here" := .of (by decide +kernel)
theorem nZPrices_1 : Nm ["_law_tape_here", "_law_many", "_law_most"] (defScope sZPrices) 1 "_law_many" := .of (by decide +kernel)
theorem nZPrices_2 : Nm ["_law_tape_here", "_law_many", "_law_most"] (defScope sZPrices) 2 "_law_most" := .of (by decide +kernel)
theorem gZPrices_ZTake : (defScope sZPrices).names.lookup ("_law_take" : Str) = some .globalImplicit := by decide +kernel
theorem gZPrices_range : (defScope sZPrices).names.lookup ("range" : Str) = some .globalImplicit := by decide +kernel
theorem gZPrices_tuple : (defScope sZPrices).names.lookup ("tuple" : Str) = some .globalImplicit := by decide +kernel
theorem bnZPrices : Bn "_law_prices" := ⟨by decide +kernel, by decide +kernel⟩
abbrev sWeighed : Stmt := top 16
theorem scWeighed : FnScope ["rows", "counts", "prices", "price_of"] ["rows", "counts", "prices"] (defScope sWeighed) := ⟨rfl, rfl, rfl, by decide +kernel, rfl, by decide +kernel, by decide +kernel⟩
theorem nWeighed_0 : Nm ["rows", "counts", "prices", "price_of"] (defScope sWeighed) 0 "rows" := .of (by decide +kernel)
theorem nWeighed_1 : Nm ["rows", "counts", "prices", "price_of"] (defScope sWeighed) 1 "counts" := .of (by decide +kernel)
theorem nWeighed_2 : Nm ["rows", "counts", "prices", "price_of"] (defScope sWeighed) 2 "prices" := .of (by decide +kernel)
theorem nWeighed_3 : Nm ["rows", "counts", "prices", "price_of"] (defScope sWeighed) 3 "price_of" := .of (by decide +kernel)
theorem gWeighed_Tests : (defScope sWeighed).names.lookup ("TESTS" : Str) = some .globalImplicit := by decide +kernel
theorem gWeighed_dict : (defScope sWeighed).names.lookup ("dict" : Str) = some .globalImplicit := by decide +kernel
theorem gWeighed_sum : (defScope sWeighed).names.lookup ("sum" : Str) = some .globalImplicit := by decide +kernel
theorem gWeighed_zip : (defScope sWeighed).names.lookup ("zip" : Str) = some .globalImplicit := by decide +kernel
theorem bnWeighed : Bn "weighed" := ⟨by decide +kernel, by decide +kernel⟩
section
variable {P : Program} {w : World} {K : PySem.W.Frag} {mg : Str → Option Value} {base : Heap} {f : Addr} {fd : FuncData} {bs : List Str}
theorem ok_prices (hB : ∀ x : Str, x ∈ BLs → mg x = none) (CZTake : Cal P w K mg base "_law_take" 2 ["_law_tape_here", "_law_many"] (spTake 2)) (F : Fun K "_law_prices" "_law_prices" sZPrices f fd) : FnOk P w K mg base CX0 3 f fd ["_law_tape_here", "_law_many"] spPrices5 := by
  refine F.okq scZPrices (fun vs H Q E h => ?_) (fun cdv A outer s H vs Q E hr h => ?_)
  · obtain ⟨p, B, rfl, _⟩ := h
    rfl
  · obtain ⟨p, B, rfl, tp, hB0, hB1, q⟩ := h
    refine ⟨_, (qb_cons (qs_st nZPrices_2 scZPrices.nd (qe_ix ix_D (qe_lst (qa_cons qe_int (qa_cons qe_int (qa_cons qe_int qa_nil rfl) rfl) rfl)) (qe_cl CZTake (hr.mono (by decide)) gZPrices_ZTake bnZTake (qa_cons (qe_nV nZPrices_0) (qa_cons qe_int qa_nil rfl) rfl) rfl rfl) (fun _ _ => rfl)) rfl (.inl rfl))
      (qb_one (qs_ret (qe_ct call_tuple_of gZPrices_tuple (hB "tuple" mB_tuple) boot_tuple bn_tuple (qa_cons (qe_comp (NX := ["_law_tape_here", "_law_many", "_law_most"]) (kX := (defScope sZPrices).names) ["_law_k", "_law_tape_here", "_law_most"] [none, some 0, some 2] rfl rfl ⟨rfl, by decide +kernel, by decide +kernel, by decide +kernel, by decide +kernel⟩ rfl (qi_range1 gZPrices_range (hB "range" mB_range) (qa_cons (qe_nV nZPrices_1) qa_nil rfl) rfl) (fun _ _ _ _ _ => (qg_name 0 (show List.Nodup (["_law_k", "_law_tape_here", "_law_most"] : List Str) from by decide +kernel) rfl (Or.inl rfl))) (fun _ _ _ _ _ => qc_nil) (fun _ _ _ _ _ => (qe_op op_addD qe_int (qe_cl CZTake (hr.mono (by decide)) rfl bnZTake (qa_cons (qe_vV 1) (qa_cons (qe_vV 2) qa_nil rfl) rfl) rfl rfl)))) qa_nil rfl) rfl rfl)))), ?_⟩
    refine seq_k fun k hk => ?_
    (walk_at "rd"; try simp only [rdz, reduceIte, reduceCtorEq, Nat.reduceAdd, Nat.reduceSub])
    refine ⟨sl_le (by decide), fun l0 hl0 => ?_⟩
    have s3 := same_upd (o := HO.lst [V.int 1, V.int 5, V.int 99]) hl0
    have tp3 := tp.same s3
    have n3 := tp.ne hl0
    have e3 : upd H l0 (HO.lst [V.int 1, V.int 5, V.int 99]) l0 = _ := upd_same
    generalize upd H l0 (HO.lst [V.int 1, V.int 5, V.int 99]) = H3 at s3 tp3 e3 ⊢
    refine ⟨p, 3, B, rfl, tp3, by show B + 2 ≤ 1000100; omega, by decide, by decide, by decide, fun z => absurd z (by decide), fun r4 H4 r40 r41 s4 tp4 => ?_⟩
    obtain ⟨mo, hmo, emo⟩ := pick_int (is := [1, 5, 99]) r40 r41
    replace emo : atI [V.int 1, V.int 5, V.int 99] r4 = some (.int mo) := emo
    have e4 := s4 _ _ n3 e3
    have bmo : 1 ≤ mo ∧ mo ≤ 99 := by
      simp only [List.mem_cons, List.not_mem_nil, or_false] at hmo
      omega
    (walk_at "rd"; try simp only [rdz, reduceIte, reduceCtorEq, Nat.reduceAdd, Nat.reduceSub, e4, emo])
    subst hk
    (walk_at "rd"; try simp only [rdz, reduceIte, reduceCtorEq, Nat.reduceAdd, Nat.reduceSub])
    refine comp_k fun R hR => ?_
    (walk_at "rd"; try simp only [rdz, reduceIte, reduceCtorEq, Nat.reduceAdd, Nat.reduceSub, iRng1])
    refine ⟨by decide, by decide, ?_⟩
    obtain ⟨Pc, hPc⟩ : ∃ Pv : Nat → List V → L2.St → Hp → Prop, Pv = fun (i : Nat) acc τ H' => ∃ (o0 : Option V) (zs : List Int), SameX p H4 H' ∧ TapeAt H' p (B + 2 + 2 * (i : Int)) ∧ acc = zs.map V.int ∧ zs.length = i ∧ (∀ z ∈ zs, 1 ≤ z ∧ z ≤ 99) ∧ τ = [o0, some (.ref p), some (.int mo)] := ⟨_, rfl⟩
    refine comp_r hR (sl_le (by decide)) Pc (by rw [hPc]; exact ⟨none, [], SameX.refl _ _, tp4.le (le00 _), rfl, rfl, fun z hz => absurd hz List.not_mem_nil, rfl⟩) ?_ ?_ ?_
    · intro i acc τ H5 pc
      rw [hPc] at pc
      obtain ⟨_, zs, _, _, rfl, h1, _⟩ := pc
      rw [List.length_map]
      omega
    · intro i acc τ H5 hi pc
      rw [hPc] at pc
      obtain ⟨o0, zs, s5, tp5, rfl, hl5, hb5, rfl⟩ := pc
      (walk_at "rd"; try simp only [rdz, reduceIte, reduceCtorEq, Nat.reduceAdd, Nat.reduceSub])
      refine ⟨p, mo, _, rfl, tp5, by show B + 2 + 2 * (i : Int) + 2 ≤ 1000100; omega, by omega, by omega, by decide, fun z => absurd z (by omega), fun r6 H6 r60 r61 s6 tp6 => ?_⟩
      (walk_at "rd"; try simp only [rdz, reduceIte, reduceCtorEq, Nat.reduceAdd, Nat.reduceSub])
      rw [hPc]
      refine ⟨_, zs ++ [1 + r6], s5.trans s6, tp6.le (le2s _ i), by rw [List.map_append]; rfl, by rw [List.length_append, hl5]; rfl, fun z hz => ?_, rfl⟩
      rcases List.mem_append.mp hz with hz | hz
      · exact hb5 z hz
      · rw [List.mem_singleton.mp hz]
        omega
    · intro acc τ H5 d pc hd
      rw [hPc] at pc
      obtain ⟨o0, zs, s5, tp5, rfl, hl5, hb5, rfl⟩ := pc
      have s6 := same_upd (o := HO.lst (zs.map V.int)) hd
      have tp6 := tp5.same s6
      have sx6 : SameX p H (upd H5 d (.lst (zs.map V.int))) := ((s3.x.trans s4).trans s5).trans s6.x
      refine ⟨d, rfl, _, .inl ⟨SqL.of upd_same, fun t ht => ?_⟩⟩
      have s7 := same_upd (o := HO.tup (zs.map V.int)) ht
      obtain ⟨n7, h7⟩ := fresh_of sx6 tp6 ht
      exact q _ zs _ (sx6.trans s7.x) ((tp6.same s7).le (by show B + 2 + 2 * (5 : Int) ≤ B + 20; omega)) n7 h7 upd_same hl5 hb5
theorem ok_weighed (hB : ∀ x : Str, x ∈ BLs → mg x = none) {aTests : Addr} (cgTests : mg "TESTS" = some (.ref aTests)) (ktTests : KTup K aTests ([("is" : Str), ("within" : Str), ("below" : Str), ("mask" : Str), ("table" : Str)].map V.str)) (F : Fun K "weighed" "weighed" sWeighed f fd) : FnOk P w K mg base CX0 1 f fd ["rows", "counts", "prices"] spWgh := by
  refine F.okq scWeighed (fun vs H Q E h => ?_) (fun cdv A outer s H vs Q E hr h => ?_)
  · obtain ⟨l, b, z, ok, cs, ks, zs, rfl, _⟩ := h
    rfl
  · obtain ⟨l, b, z, ok, cs, ks, zs, rfl, t, eb, hkl, ez, h5, few, q⟩ := h
    refine ⟨_, (qb_cons (qs_st nWeighed_3 scWeighed.nd (qe_dz rfl gWeighed_dict (hB "dict" mB_dict) gWeighed_zip (hB "zip" mB_zip) (qa_cons (qe_glob (v := V.ref aTests) gWeighed_Tests cgTests rfl bnTests) (qa_cons (qe_nV nWeighed_2) qa_nil rfl) rfl)) rfl (.inl rfl))
      (qb_one (qs_ret (qe_cb (call_sumD rfl) gWeighed_sum (hB "sum" mB_sum) boot_sum bn_sum (qa_cons (qe_comp (NX := ["rows", "counts", "prices", "price_of"]) (kX := (defScope sWeighed).names) ["row", "count", "price_of"] [none, none, some 3] rfl rfl ⟨rfl, by decide +kernel, by decide +kernel, by decide +kernel, by decide +kernel⟩ rfl (qi_zipD gWeighed_zip (hB "zip" mB_zip) (qa_cons (qe_nV nWeighed_0) (qa_cons (qe_nV nWeighed_1) qa_nil rfl) rfl) rfl rfl) (fun _ _ _ _ _ => (qg_tup (n := 2) rfl (qgs_cons (qg_name 0 (show List.Nodup (["row", "count", "price_of"] : List Str) from by decide +kernel) rfl (Or.inl rfl)) (qgs_cons (qg_name 1 (show List.Nodup (["row", "count", "price_of"] : List Str) from by decide +kernel) rfl (Or.inl rfl)) qgs_nil rfl) rfl) rfl rfl)) (fun _ _ _ _ _ => qc_nil) (fun _ _ _ _ _ => (qe_op op_mulD (qe_vV 1) (qe_dget2 hr.units1 (qe_vV 2) (qe_ix ix_D (qe_vV 0) qe_int (fun _ _ => rfl)) qe_int ⟨rfl, rfl, rfl, rfl⟩)))) qa_nil rfl) rfl rfl)))), ?_⟩
    cases t with
    | lst o el zl ts =>
      rename_i xs
      have hxl := ts.length
      rw [List.length_map] at hxl
      refine seq_k fun k hk => ?_
      (walk_at "rd"; try simp only [rdz, reduceIte, reduceCtorEq, Nat.reduceAdd, Nat.reduceSub, rdA])
      refine ⟨aTests, z, fiveKv zs, zs.map V.int, rfl, .inl ktTests.sq, SqT.of ez, five_take (by omega), by show 0 < 5; decide, by show 5 ≤ 15; decide, fun d hd => ?_⟩
      have s1 := same_upd (o := HO.dK (mergeK [] (fiveKv zs))) hd
      have ed : upd H d (HO.dK (mergeK [] (fiveKv zs))) d = _ := upd_same
      generalize upd H d (HO.dK (mergeK [] (fiveKv zs))) = H1 at s1 ed ⊢
      have el1 := s1 _ _ el
      have eb1 := s1 _ _ eb
      subst hk
      (walk_at "rd"; try simp only [rdz, reduceIte, reduceCtorEq, Nat.reduceAdd, Nat.reduceSub])
      refine comp_k fun R hR => ?_
      (walk_at "rd"; try simp only [rdz, reduceIte, reduceCtorEq, Nat.reduceAdd, Nat.reduceSub, el1, eb1])
      obtain ⟨Pc, hPc⟩ : ∃ Pv : Nat → List V → L2.St → Hp → Prop, Pv = fun (i : Nat) acc τ H' => ∃ (o0 o1 : Option V), Same H1 H' ∧ acc = (wghL zs (cs.take i) (ks.take i)).map V.int ∧ τ = [o0, o1, some (V.ref d)] := ⟨_, rfl⟩
      refine comp_zl hR (xs := xs) (ys := ks.map V.int) (sl_le zl) (by rw [List.length_map]; omega) Pc (by rw [hPc]; exact ⟨_, _, Same.refl _, rfl, rfl⟩) ?_ ?_ ?_ ?_
      · intro i acc τ H2 pc
        rw [hPc] at pc
        obtain ⟨_, _, _, rfl, _⟩ := pc
        rw [List.length_map]
        unfold wghL
        rw [List.length_zipWith, List.length_take]
        exact Nat.le_trans (Nat.min_le_left _ _) (Nat.min_le_left _ _)
      · intro i acc τ H2 pc
        rw [hPc] at pc
        obtain ⟨_, _, s2, _, _⟩ := pc
        exact ⟨s2 _ _ el1, s2 _ _ eb1⟩
      · intro i x y acc τ H2 p hx hy pc hp
        rw [hPc] at pc
        obtain ⟨o0, o1, s2, rfl, rfl⟩ := pc
        rw [List.getElem?_map] at hy
        obtain ⟨n, hn, rfl⟩ := Option.map_eq_some_iff.mp hy
        have s3 := same_upd (o := HO.tup [x, V.int n]) hp
        have e3 : upd H2 p (HO.tup [x, V.int n]) p = _ := upd_same
        have s23 := s2.trans s3
        generalize upd H2 p (HO.tup [x, V.int n]) = H3 at s3 e3 s23 ⊢
        have hi : i < cs.length := by have := (List.getElem?_eq_some_iff.mp hx).1; omega
        have hc : cs[i]? = some cs[i] := List.getElem?_eq_getElem hi
        obtain ⟨x', hx', rx⟩ := ((ts.same s1).same s23).row hc
        rw [hx] at hx'
        cases hx'
        obtain ⟨a, g, rfl, e, eg⟩ := rx
        have hw := row_word cs[i] g
        have ed3 := s23 _ _ ed
        (walk_at "rd"; try simp only [rdz, reduceIte, reduceCtorEq, Nat.reduceAdd, Nat.reduceSub, e3, e, hw])
        refine ⟨.inl ⟨_, .inl ed3⟩, _, DGet.k (k := Sum.inr (wordC cs[i])) ed3, ?_⟩
        rw [five_get]
        have hf := pr_few few cs[i]
        (walk_at "rd"; try simp only [rdz, reduceIte, reduceCtorEq, Nat.reduceAdd, Nat.reduceSub])
        refine ⟨.inr ⟨by omega, by omega⟩, ?_⟩
        rw [hPc]
        exact ⟨_, _, s23, by rw [wgh_snoc hc hn, List.map_append]; rfl, rfl⟩
      · intro acc τ H2 d2 pc hd2
        rw [hPc] at pc
        obtain ⟨o0, o1, s2, rfl, rfl⟩ := pc
        rw [hxl, List.take_length, ← hkl, List.take_length]
        have e3 : upd H2 d2 (HO.lst ((wghL zs cs ks).map V.int)) d2 = _ := upd_same
        have s3 := same_upd (o := HO.lst ((wghL zs cs ks).map V.int)) hd2
        (walk_at "rd"; try simp only [rdz, reduceIte, reduceCtorEq, Nat.reduceAdd, Nat.reduceSub, e3])
        refine ⟨_, rfl, ?_⟩
        exact q _ ((s1.trans s2).trans s3)
end
end K44
namespace K44
open PySem L2 PyProof.Rows
abbrev sLaw : Stmt := top 29
theorem scLaw : FnScope ["_law_script", "_law_k", "_law_tape_here", "_law_rows_here", "_law_prices_here", "_law_numbers", "_law_some", "_law_many", "_law_chain", "_law_kept", "_law_due_here", "_law_turn", "_law_found", "_law_counts", "_law_price", "_law_total"] ["_law_script"] (defScope sLaw) := ⟨rfl, rfl, rfl, by decide +kernel, rfl, by decide +kernel, by decide +kernel⟩
theorem nLaw_0 : Nm ["_law_script", "_law_k", "_law_tape_here", "_law_rows_here", "_law_prices_here", "_law_numbers", "_law_some", "_law_many", "_law_chain", "_law_kept", "_law_due_here", "_law_turn", "_law_found", "_law_counts", "_law_price", "_law_total"] (defScope sLaw) 0 "_law_script" := .of (by decide +kernel)
theorem nLaw_1 : Nm ["_law_script", "_law_k", "_law_tape_here", "_law_rows_here", "_law_prices_here", "_law_numbers", "_law_some", "_law_many", "_law_chain", "_law_kept", "_law_due_here", "_law_turn", "_law_found", "_law_counts", "_law_price", "_law_total"] (defScope sLaw) 1 "_law_k" := .of (by decide +kernel)
theorem nLaw_2 : Nm ["_law_script", "_law_k", "_law_tape_here", "_law_rows_here", "_law_prices_here", "_law_numbers", "_law_some", "_law_many", "_law_chain", "_law_kept", "_law_due_here", "_law_turn", "_law_found", "_law_counts", "_law_price", "_law_total"] (defScope sLaw) 2 "_law_tape_here" := .of (by decide +kernel)
theorem nLaw_3 : Nm ["_law_script", "_law_k", "_law_tape_here", "_law_rows_here", "_law_prices_here", "_law_numbers", "_law_some", "_law_many", "_law_chain", "_law_kept", "_law_due_here", "_law_turn", "_law_found", "_law_counts", "_law_price", "_law_total"] (defScope sLaw) 3 "_law_rows_here" := .of (by decide +kernel)
theorem nLaw_4 : Nm ["_law_script", "_law_k", "_law_tape_here", "_law_rows_here", "_law_prices_here", "_law_numbers", "_law_some", "_law_many", "_law_chain", "_law_kept", "_law_due_here", "_law_turn", "_law_found", "_law_counts", "_law_price", "_law_total"] (defScope sLaw) 4 "_law_prices_here" := .of (by decide +kernel)
theorem nLaw_5 : Nm ["_law_script", "_law_k", "_law_tape_here", "_law_rows_here", "_law_prices_here", "_law_numbers", "_law_some", "_law_many", "_law_chain", "_law_kept", "_law_due_here", "_law_turn", "_law_found", "_law_counts", "_law_price", "_law_total"] (defScope sLaw) 5 "_law_numbers" := .of (by decide +kernel)
theorem nLaw_6 : Nm ["_law_script", "_law_k", "_law_tape_here", "_law_rows_here", "_law_prices_here", "_law_numbers", "_law_some", "_law_many", "_law_chain", "_law_kept", "_law_due_here", "_law_turn", "_law_found", "_law_counts", "_law_price", "_law_total"] (defScope sLaw) 6 "_law_some" := .of (by decide +kernel)
theorem nLaw_7 : Nm ["_law_script", "_law_k", "_law_tape_here", "_law_rows_here", "_law_prices_here", "_law_numbers", "_law_some", "_law_many", "_law_chain", "_law_kept", "_law_due_here", "_law_turn", "_law_found", "_law_counts", "_law_price", "_law_total"] (defScope sLaw) 7 "_law_many" := .of (by decide +kernel)
theorem nLaw_8 : Nm ["_law_script", "_law_k", "_law_tape_here", "_law_rows_here", "_law_prices_here", "_law_numbers", "_law_some", "_law_many", "_law_chain", "_law_kept", "_law_due_here", "_law_turn", "_law_found", "_law_counts", "_law_price", "_law_total"] (defScope sLaw) 8 "_law_chain" := .of (by decide +kernel)
theorem nLaw_9 : Nm ["_law_script", "_law_k", "_law_tape_here", "_law_rows_here", "_law_prices_here", "_law_numbers", "_law_some", "_law_many", "_law_chain", "_law_kept", "_law_due_here", "_law_turn", "_law_found", "_law_counts", "_law_price", "_law_total"] (defScope sLaw) 9 "_law_kept" := .of (by decide +kernel)
theorem nLaw_10 : Nm ["_law_script", "_law_k", "_law_tape_here", "_law_rows_here", "_law_prices_here", "_law_numbers", "_law_some", "_law_many", "_law_chain", "_law_kept", "_law_due_here", "_law_turn", "_law_found", "_law_counts", "_law_price", "_law_total"] (defScope sLaw) 10 "_law_due_here" := .of (by decide +kernel)
theorem nLaw_11 : Nm ["_law_script", "_law_k", "_law_tape_here", "_law_rows_here", "_law_prices_here", "_law_numbers", "_law_some", "_law_many", "_law_chain", "_law_kept", "_law_due_here", "_law_turn", "_law_found", "_law_counts", "_law_price", "_law_total"] (defScope sLaw) 11 "_law_turn" := .of (by decide +kernel)
theorem nLaw_12 : Nm ["_law_script", "_law_k", "_law_tape_here", "_law_rows_here", "_law_prices_here", "_law_numbers", "_law_some", "_law_many", "_law_chain", "_law_kept", "_law_due_here", "_law_turn", "_law_found", "_law_counts", "_law_price", "_law_total"] (defScope sLaw) 12 "_law_found" := .of (by decide +kernel)
theorem nLaw_13 : Nm ["_law_script", "_law_k", "_law_tape_here", "_law_rows_here", "_law_prices_here", "_law_numbers", "_law_some", "_law_many", "_law_chain", "_law_kept", "_law_due_here", "_law_turn", "_law_found", "_law_counts", "_law_price", "_law_total"] (defScope sLaw) 13 "_law_counts" := .of (by decide +kernel)
theorem nLaw_14 : Nm ["_law_script", "_law_k", "_law_tape_here", "_law_rows_here", "_law_prices_here", "_law_numbers", "_law_some", "_law_many", "_law_chain", "_law_kept", "_law_due_here", "_law_turn", "_law_found", "_law_counts", "_law_price", "_law_total"] (defScope sLaw) 14 "_law_price" := .of (by decide +kernel)
theorem nLaw_15 : Nm ["_law_script", "_law_k", "_law_tape_here", "_law_rows_here", "_law_prices_here", "_law_numbers", "_law_some", "_law_many", "_law_chain", "_law_kept", "_law_due_here", "_law_turn", "_law_found", "_law_counts", "_law_price", "_law_total"] (defScope sLaw) 15 "_law_total" := .of (by decide +kernel)
theorem gLaw_ZDue : (defScope sLaw).names.lookup ("_law_due" : Str) = some .globalImplicit := by decide +kernel
theorem gLaw_ZPrices : (defScope sLaw).names.lookup ("_law_prices" : Str) = some .globalImplicit := by decide +kernel
theorem gLaw_ZRows : (defScope sLaw).names.lookup ("_law_rows" : Str) = some .globalImplicit := by decide +kernel
theorem gLaw_ZSame : (defScope sLaw).names.lookup ("_law_same" : Str) = some .globalImplicit := by decide +kernel
theorem gLaw_ZTake : (defScope sLaw).names.lookup ("_law_take" : Str) = some .globalImplicit := by decide +kernel
theorem gLaw_ZTape : (defScope sLaw).names.lookup ("_law_tape" : Str) = some .globalImplicit := by decide +kernel
theorem gLaw_ZTold : (defScope sLaw).names.lookup ("_law_told" : Str) = some .globalImplicit := by decide +kernel
theorem gLaw_Counted : (defScope sLaw).names.lookup ("counted" : Str) = some .globalImplicit := by decide +kernel
theorem gLaw_dict : (defScope sLaw).names.lookup ("dict" : Str) = some .globalImplicit := by decide +kernel
theorem gLaw_isinstance : (defScope sLaw).names.lookup ("isinstance" : Str) = some .globalImplicit := by decide +kernel
theorem gLaw_len : (defScope sLaw).names.lookup ("len" : Str) = some .globalImplicit := by decide +kernel
theorem gLaw_list : (defScope sLaw).names.lookup ("list" : Str) = some .globalImplicit := by decide +kernel
theorem gLaw_min : (defScope sLaw).names.lookup ("min" : Str) = some .globalImplicit := by decide +kernel
theorem gLaw_range : (defScope sLaw).names.lookup ("range" : Str) = some .globalImplicit := by decide +kernel
theorem gLaw_repr : (defScope sLaw).names.lookup ("repr" : Str) = some .globalImplicit := by decide +kernel
theorem gLaw_sum : (defScope sLaw).names.lookup ("sum" : Str) = some .globalImplicit := by decide +kernel
theorem gLaw_Weighed : (defScope sLaw).names.lookup ("weighed" : Str) = some .globalImplicit := by decide +kernel
theorem gLaw_zip : (defScope sLaw).names.lookup ("zip" : Str) = some .globalImplicit := by decide +kernel
section
variable {P : Program} {w : World} {K : PySem.W.Frag} {mg : Str → Option Value} {base : Heap} {f : Addr} {fd : FuncData} {bs : List Str} {C : Addr}
def spLaw (K : PySem.W.Frag) : Sp := fun vs H Q _ => ∃ (a : Addr) (ns : List Int), vs = [.ref a] ∧ SqL K H a (ns.map V.int) ∧ ns.length ≤ 63 ∧ ∀ H', Q (.bl true) H'
theorem ok_law (hB : ∀ x : Str, x ∈ BLs → mg x = none) (CZTape : Cal P w K mg base "_law_tape" 2 ["_law_script", "_law_k"] (spTape K)) (CZTake : Cal P w K mg base "_law_take" 2 ["_law_tape_here", "_law_many"] (spTake 2)) (CZRows : Cal P w K mg base "_law_rows" 3 ["_law_tape_here", "_law_many"] spRows) (CZPrices : Cal P w K mg base "_law_prices" 3 ["_law_tape_here", "_law_many"] spPrices5) (CZRun : Cal P w K mg base "_law_run" 2 ["_law_rows_here", "_law_number"] (spRun false)) (CZSame : Cal P w K mg base "_law_same" 3 ["_law_found", "_law_due_here"] (spSameT 3))
    (CZTold : Cal P w K mg base "_law_told" 6 ["_law_rows_here", "_law_numbers"] spCtl) (CZDue : Cal P w K mg base "_law_due" 3 ["_law_rows_here", "_law_numbers"] spCtl) (C0Counted : Cal P w K mg base "counted" 5 ["rows", "numbers"] (fun vs H Q _ => spCtd C vs H Q fun _ _ _ => False)) (CWeighed : Cal P w K mg base "weighed" 1 ["rows", "counts", "prices"] spWgh)
    (F : Fun K "law" "law" sLaw f fd) : FnOk P w K mg base CX0 7 f fd ["_law_script"] (spLaw K) := by
  refine F.okq scLaw (fun vs H Q E h => ?_) (fun cdv A outer s H vs Q E hr h => ?_)
  · obtain ⟨a, ns, rfl, _⟩ := h
    rfl
  · obtain ⟨a, sc, rfl, hS, h63, q⟩ := h
    refine ⟨_, (qb_cons (qs_for PassesOwn.never rfl (qi_range1 gLaw_range (hB "range" mB_range) (qa_cons (qe_op op_addD qe_int (qe_cb (call_minD rfl) gLaw_min (hB "min" mB_min) boot_min bn_min (qa_cons qe_int (qa_cons (qe_cb call_len_seq gLaw_len (hB "len" mB_len) PySem.boot_len bn_len (qa_cons (qe_nV nLaw_0) qa_nil rfl) rfl rfl) qa_nil rfl) rfl) rfl rfl)) qa_nil rfl) rfl) (qg_nm nLaw_1 scLaw.nd (.inl rfl))
      (qb_cons (qs_st nLaw_2 scLaw.nd (qe_cl CZTape (hr.mono (by decide)) gLaw_ZTape bnZTape (qa_cons (qe_nV nLaw_0) (qa_cons (qe_nV nLaw_1) qa_nil rfl) rfl) rfl rfl) rfl (.inl rfl))
      (qb_cons (qs_asg (qe_tup (qa_cons (qe_cl CZRows (hr.mono (by decide)) gLaw_ZRows bnZRows (qa_cons (qe_nV nLaw_2) (qa_cons (qe_op op_addD qe_int (qe_cl CZTake (hr.mono (by decide)) gLaw_ZTake bnZTake (qa_cons (qe_nV nLaw_2) (qa_cons qe_int qa_nil rfl) rfl) rfl rfl)) qa_nil rfl) rfl) rfl rfl) (qa_cons (qe_cl CZPrices (hr.mono (by decide)) gLaw_ZPrices bnZPrices (qa_cons (qe_nV nLaw_2) (qa_cons qe_int qa_nil rfl) rfl) rfl rfl) qa_nil rfl) rfl)) (qg_tup (n := 2) rfl (qgs_cons (qg_nm nLaw_3 scLaw.nd (.inl rfl)) (qgs_cons (qg_nm nLaw_4 scLaw.nd (.inl rfl)) qgs_nil rfl) rfl) rfl rfl) rfl rfl rfl)
      (qb_cons (qs_setC (NX := ["_law_script", "_law_k", "_law_tape_here", "_law_rows_here", "_law_prices_here", "_law_numbers", "_law_some", "_law_many", "_law_chain", "_law_kept", "_law_due_here", "_law_turn", "_law_found", "_law_counts", "_law_price", "_law_total"]) (kX := (defScope sLaw).names) ["_law_turn", "_law_tape_here"] [none, some 2] nLaw_5 scLaw.nd rfl rfl ⟨rfl, by decide +kernel, by decide +kernel, by decide +kernel, by decide +kernel⟩ rfl (qi_range1 gLaw_range (hB "range" mB_range) (qa_cons (qe_cl CZTake (hr.mono (by decide)) gLaw_ZTake bnZTake (qa_cons (qe_nV nLaw_2) (qa_cons qe_int qa_nil rfl) rfl) rfl rfl) qa_nil rfl) rfl) (fun _ _ _ _ _ => (qg_name 0 (show List.Nodup (["_law_turn", "_law_tape_here"] : List Str) from by decide +kernel) rfl (Or.inl rfl))) (fun _ _ _ _ _ => qc_nil) (fun _ _ _ _ _ => (qe_op op_sub (qe_cl CZTake (hr.mono (by decide)) rfl bnZTake (qa_cons (qe_vV 1) (qa_cons qe_int qa_nil rfl) rfl) rfl rfl) qe_int)))
      (qb_cons (qs_if (qt_cmp (op_eqD hr.units0) (qe_cl CZTake (hr.mono (by decide)) gLaw_ZTake bnZTake (qa_cons (qe_nV nLaw_2) (qa_cons qe_int qa_nil rfl) rfl) rfl rfl) qe_int (nomark _)) (qb_one (qs_setC (NX := ["_law_script", "_law_k", "_law_tape_here", "_law_rows_here", "_law_prices_here", "_law_numbers", "_law_some", "_law_many", "_law_chain", "_law_kept", "_law_due_here", "_law_turn", "_law_found", "_law_counts", "_law_price", "_law_total"]) (kX := (defScope sLaw).names) ["_law_number", "_law_rows_here"] [none, some 3] nLaw_5 scLaw.nd rfl rfl ⟨rfl, by decide +kernel, by decide +kernel, by decide +kernel, by decide +kernel⟩ rfl (qi_seqD (qe_nV nLaw_5)) (fun _ _ _ _ _ => (qg_name 0 (show List.Nodup (["_law_number", "_law_rows_here"] : List Str) from by decide +kernel) rfl (Or.inl rfl))) (fun _ _ _ _ _ => (qc_one (qt_cmp op_notN (qe_ix ix_D (qe_cl CZRun (hr.mono (by decide)) rfl bnZRun (qa_cons (qe_vV 1) (qa_cons (qe_vV 0) qa_nil rfl) rfl) rfl rfl) qe_int (fun _ _ => rfl)) qe_non (nomark _)))) (fun _ _ _ _ _ => (qe_vV 0)))) qb_nil)
      (qb_cons (qs_for PassesOwn.never rfl (qi_seqD (qe_tup (qa_cons (qe_ev (qe_nV nLaw_5)) (qa_cons (qe_slice sl_D (qe_nV nLaw_5) qo_none (qo_some qe_int)) (qa_cons (qe_lst qa_nil) qa_nil rfl) rfl) rfl))) (qg_nm nLaw_6 scLaw.nd (.inl rfl))
      (qb_one (qs_if (qt_not (qt_val (qe_cl CZSame (hr.mono (by decide)) gLaw_ZSame bnZSame (qa_cons (qe_cl CZTold (hr.mono (by decide)) gLaw_ZTold bnZTold (qa_cons (qe_nV nLaw_3) (qa_cons (qe_nV nLaw_6) qa_nil rfl) rfl) rfl rfl) (qa_cons (qe_cl CZDue (hr.mono (by decide)) gLaw_ZDue bnZDue (qa_cons (qe_nV nLaw_3) (qa_cons (qe_nV nLaw_6) qa_nil rfl) rfl) rfl rfl) qa_nil rfl) rfl) rfl rfl) (fun _ => rfl))) (qb_one (qs_ret qe_bl)) qb_nil)) (fun _ => rfl))
      (qb_cons (qs_if (qt_cmp (op_eqD hr.units0) (qe_cl CZTake (hr.mono (by decide)) gLaw_ZTake bnZTake (qa_cons (qe_nV nLaw_2) (qa_cons qe_int qa_nil rfl) rfl) rfl rfl) qe_int (nomark _)) (qb_cons (qs_st nLaw_7 scLaw.nd (qe_op op_addD qe_int (qe_cl CZTake (hr.mono (by decide)) gLaw_ZTake bnZTake (qa_cons (qe_nV nLaw_2) (qa_cons qe_int qa_nil rfl) rfl) rfl rfl)) rfl (.inl rfl))
      (qb_cons (qs_st nLaw_8 scLaw.nd (qe_op op_addD (qe_comp (NX := ["_law_script", "_law_k", "_law_tape_here", "_law_rows_here", "_law_prices_here", "_law_numbers", "_law_some", "_law_many", "_law_chain", "_law_kept", "_law_due_here", "_law_turn", "_law_found", "_law_counts", "_law_price", "_law_total"]) (kX := (defScope sLaw).names) ["_law_at", "_law_many"] [none, some 7] rfl rfl ⟨rfl, by decide +kernel, by decide +kernel, by decide +kernel, by decide +kernel⟩ rfl (qi_range1 gLaw_range (hB "range" mB_range) (qa_cons (qe_nV nLaw_7) qa_nil rfl) rfl) (fun _ _ _ _ _ => (qg_name 0 (show List.Nodup (["_law_at", "_law_many"] : List Str) from by decide +kernel) rfl (Or.inl rfl))) (fun _ _ _ _ _ => qc_nil) (fun _ _ _ _ _ => (qe_tup (qa_cons qe_str (qa_cons (qe_vV 0) (qa_cons (qe_vV 1) qa_nil rfl) rfl) rfl)))) (qe_lst (qa_cons (qe_tup (qa_cons qe_str (qa_cons qe_int qa_nil rfl) rfl)) qa_nil rfl))) rfl (.inl rfl))
      (qb_one (qs_if (qt_not (qt_val (qe_cl CZSame (hr.mono (by decide)) gLaw_ZSame bnZSame (qa_cons (qe_cl C0Counted (hr.mono (by decide)) gLaw_Counted bnCounted (qa_cons (qe_nV nLaw_8) (qa_cons (qe_lst (qa_cons (qe_nV nLaw_7) (qa_cons qe_int qa_nil rfl) rfl)) qa_nil rfl) rfl) rfl rfl) (qa_cons (qe_cl CZDue (hr.mono (by decide)) gLaw_ZDue bnZDue (qa_cons (qe_nV nLaw_8) (qa_cons (qe_lst (qa_cons (qe_nV nLaw_7) (qa_cons qe_int qa_nil rfl) rfl)) qa_nil rfl) rfl) rfl rfl) qa_nil rfl) rfl) rfl rfl) (fun _ => rfl))) (qb_one (qs_ret qe_bl)) qb_nil)))) qb_nil)
      (qb_cons (qs_par (i := 9) (j := 10) rfl scLaw.nd rfl rfl (by decide) rfl rfl (qa_cons (qe_cb (call_reprS hr.gd hr.un200) gLaw_repr (hB "repr" mB_repr) boot_repr bn_repr (qa_cons (qe_lst (qa_cons (qe_nV nLaw_3) (qa_cons (qe_nV nLaw_5) (qa_cons (qe_nV nLaw_4) qa_nil rfl) rfl) rfl)) qa_nil rfl) rfl rfl) (qa_cons (qe_cl CZDue (hr.mono (by decide)) gLaw_ZDue bnZDue (qa_cons (qe_nV nLaw_3) (qa_cons (qe_nV nLaw_5) qa_nil rfl) rfl) rfl rfl) qa_nil rfl) rfl) (by rfl))
      (qb_one (qs_for PassesOwn.never rfl (qi_range1 gLaw_range (hB "range" mB_range) (qa_cons qe_int qa_nil rfl) rfl) (qg_nm nLaw_11 scLaw.nd (.inl rfl))
      (qb_cons (qs_st nLaw_12 scLaw.nd (qe_cl CZTold (hr.mono (by decide)) gLaw_ZTold bnZTold (qa_cons (qe_nV nLaw_3) (qa_cons (qe_nV nLaw_5) qa_nil rfl) rfl) rfl rfl) rfl (.inl rfl))
      (qb_cons (qs_if (qt_w (qw_or (qt_not (qt_val (qe_cl CZSame (hr.mono (by decide)) gLaw_ZSame bnZSame (qa_cons (qe_nV nLaw_12) (qa_cons (qe_nV nLaw_10) qa_nil rfl) rfl) rfl rfl) (fun _ => rfl))) (qw_or1 (qt_cmp (op_neD hr.units0) (qe_cb (call_reprS hr.gd hr.un200) gLaw_repr (hB "repr" mB_repr) boot_repr bn_repr (qa_cons (qe_lst (qa_cons (qe_nV nLaw_3) (qa_cons (qe_nV nLaw_5) (qa_cons (qe_nV nLaw_4) qa_nil rfl) rfl) rfl)) qa_nil rfl) rfl rfl) (qe_nV nLaw_9) (nomark _))))) (qb_one (qs_ret qe_bl)) qb_nil)
      (qb_cons (qs_st nLaw_13 scLaw.nd (qe_if (qt_w (qw_and (qt_val (qe_cb call_isiA gLaw_isinstance (hB "isinstance" mB_isinstance) boot_isinstance bn_isinstance (qa_cons (qe_nV nLaw_10) (qa_cons (qe_bt "list" gLaw_list (hB "list" mB_list) boot_list bn_list) qa_nil rfl) rfl) rfl rfl) (fun _ => rfl)) (qw_and1 (qt_cmp (op_eqD hr.units0) (qe_nV nLaw_11) qe_int (nomark _))))) (qe_nV nLaw_10) (qe_comp (NX := ["_law_script", "_law_k", "_law_tape_here", "_law_rows_here", "_law_prices_here", "_law_numbers", "_law_some", "_law_many", "_law_chain", "_law_kept", "_law_due_here", "_law_turn", "_law_found", "_law_counts", "_law_price", "_law_total"]) (kX := (defScope sLaw).names) ["_law_row", "_law_tape_here"] [none, some 2] rfl rfl ⟨rfl, by decide +kernel, by decide +kernel, by decide +kernel, by decide +kernel⟩ rfl (qi_seqD (qe_nV nLaw_3)) (fun _ _ _ _ _ => (qg_name 0 (show List.Nodup (["_law_row", "_law_tape_here"] : List Str) from by decide +kernel) rfl (Or.inl rfl))) (fun _ _ _ _ _ => qc_nil) (fun _ _ _ _ _ => (qe_cl CZTake (hr.mono (by decide)) rfl bnZTake (qa_cons (qe_vV 1) (qa_cons qe_int qa_nil rfl) rfl) rfl rfl)))) rfl (.inl rfl))
      (qb_cons (qs_st nLaw_14 scLaw.nd (qe_dz rfl gLaw_dict (hB "dict" mB_dict) gLaw_zip (hB "zip" mB_zip) (qa_cons (qe_lst (qa_cons qe_str (qa_cons qe_str (qa_cons qe_str (qa_cons qe_str (qa_cons qe_str (qa_cons qe_str qa_nil rfl) rfl) rfl) rfl) rfl) rfl)) (qa_cons (qe_op op_catA (qe_nV nLaw_4) (qe_tup (qa_cons qe_int qa_nil rfl))) qa_nil rfl) rfl)) rfl (.inl rfl))
      (qb_cons (qs_st nLaw_15 scLaw.nd (qe_cb (call_sumD rfl) gLaw_sum (hB "sum" mB_sum) boot_sum bn_sum (qa_cons (qe_comp (NX := ["_law_script", "_law_k", "_law_tape_here", "_law_rows_here", "_law_prices_here", "_law_numbers", "_law_some", "_law_many", "_law_chain", "_law_kept", "_law_due_here", "_law_turn", "_law_found", "_law_counts", "_law_price", "_law_total"]) (kX := (defScope sLaw).names) ["_law_row", "_law_count", "_law_price"] [none, none, some 14] rfl rfl ⟨rfl, by decide +kernel, by decide +kernel, by decide +kernel, by decide +kernel⟩ rfl (qi_zipD gLaw_zip (hB "zip" mB_zip) (qa_cons (qe_nV nLaw_3) (qa_cons (qe_nV nLaw_13) qa_nil rfl) rfl) rfl rfl) (fun _ _ _ _ _ => (qg_tup (n := 2) rfl (qgs_cons (qg_name 0 (show List.Nodup (["_law_row", "_law_count", "_law_price"] : List Str) from by decide +kernel) rfl (Or.inl rfl)) (qgs_cons (qg_name 1 (show List.Nodup (["_law_row", "_law_count", "_law_price"] : List Str) from by decide +kernel) rfl (Or.inl rfl)) qgs_nil rfl) rfl) rfl rfl)) (fun _ _ _ _ _ => qc_nil) (fun _ _ _ _ _ => (qe_op op_mulD (qe_vV 1) (qe_dg hr.units1 (qe_vV 2) (qe_ix ix_D (qe_vV 0) qe_int (fun _ _ => rfl)) (fun _ _ => rfl))))) qa_nil rfl) rfl rfl) rfl (.inl rfl))
      (qb_cons (qs_if (qt_not (qt_val (qe_cl CZSame (hr.mono (by decide)) gLaw_ZSame bnZSame (qa_cons (qe_cl CWeighed (hr.mono (by decide)) gLaw_Weighed bnWeighed (qa_cons (qe_nV nLaw_3) (qa_cons (qe_nV nLaw_13) (qa_cons (qe_nV nLaw_4) qa_nil rfl) rfl) rfl) rfl rfl) (qa_cons (qe_nV nLaw_15) qa_nil rfl) rfl) rfl rfl) (fun _ => rfl))) (qb_one (qs_ret qe_bl)) qb_nil)
      (qb_one (qs_if (qt_val (qe_cb call_isiA gLaw_isinstance (hB "isinstance" mB_isinstance) boot_isinstance bn_isinstance (qa_cons (qe_nV nLaw_12) (qa_cons (qe_bt "list" gLaw_list (hB "list" mB_list) boot_list bn_list) qa_nil rfl) rfl) rfl rfl) (fun _ => rfl)) (qb_one (qs_expr (qe_appD (qe_nV nLaw_12) qe_int rfl rfl rfl rfl rfl) rfl)) qb_nil)))))))) (fun _ => rfl)))))))))) (fun _ => rfl))
      (qb_one (qs_ret qe_bl))), ?_⟩
    refine seq_k fun k hk => ?_
    refine for_k fun R hR => ?_
    (walk_at "rd"; try simp only [rdz, reduceIte, reduceCtorEq, Nat.reduceAdd, Nat.reduceSub, iRng1])
    refine ⟨_, .inl hS, ?_⟩
    rw [List.length_map]
    have m6 : (0 : Int) ≤ 1 + (if (sc.length : Int) < 5 then (sc.length : Int) else 5) ∧ 1 + (if (sc.length : Int) < 5 then (sc.length : Int) else 5) ≤ 6 := by
      split <;> omega
    refine ⟨by omega, by omega, ?_⟩
    obtain ⟨Pv, hPv⟩ : ∃ Pv : Nat → L2.St → Hp → Prop, Pv = fun (i : Nat) σ H' => SqL K H' a (sc.map V.int) ∧ ∃ o1 o2 o3 o4 o5 o6 o7 o8 o9 o10 o11 o12 o13 o14 o15, σ = [some (.ref a), o1, o2, o3, o4, o5, o6, o7, o8, o9, o10, o11, o12, o13, o14, o15] := ⟨_, rfl⟩
    refine for_r hR Pv (by rw [hPv]; exact ⟨hS, _, _, _, _, _, _, _, _, _, _, _, _, _, _, _, rfl⟩) ?_ ?_
    · intro i σ H1 hi pv
      rw [hPv] at pv
      obtain ⟨hS1, o1, o2, o3, o4, o5, o6, o7, o8, o9, o10, o11, o12, o13, o14, o15, rfl⟩ := pv
      refine seq_k fun k2 hk2 => ?_
      (walk_at "rd"; try simp only [rdz, reduceIte, reduceCtorEq, Nat.reduceAdd, Nat.reduceSub])
      refine ⟨a, sc, (0 : Int) + (i : Int), rfl, hS1, by omega, by omega, fun p H2 hp s2 tp2 => ?_⟩
      (walk_at "rd"; try simp only [rdz, reduceIte, reduceCtorEq, Nat.reduceAdd, Nat.reduceSub])
      have hp0 : H1 p = none := hp
      have sx2 : SameX p H1 H2 := s2.x
      subst hk2
      refine seq_k fun k2 hk2 => ?_
      (walk_at "rd"; try simp only [rdz, reduceIte, reduceCtorEq, Nat.reduceAdd, Nat.reduceSub])
      refine ⟨p, 16, 0, rfl, tp2, by decide, by decide, by decide, by decide, fun z => absurd z (by decide), fun r4 H4 r40 r41 s4 tp4 => ?_⟩
      (walk_at "rd"; try simp only [rdz, reduceIte, reduceCtorEq, Nat.reduceAdd, Nat.reduceSub])
      refine ⟨p, 1 + r4, 0 + 2, rfl, tp4, by decide, by decide, by omega, by omega, fun l rs H5 s5 tp5 tr5 hrl rok => ?_⟩
      (walk_at "rd"; try simp only [rdz, reduceIte, reduceCtorEq, Nat.reduceAdd, Nat.reduceSub])
      refine ⟨p, 0 + 2 + 20000, rfl, tp5, by decide, by decide, fun z zs H6 s6 tp6 nzp _ ez hzl few => ?_⟩
      (walk_at "rd"; try simp only [rdz, reduceIte, reduceCtorEq, Nat.reduceAdd, Nat.reduceSub])
      have sx6 := ((sx2.trans s4).trans s5).trans s6
      have tr6 := tr5.samex s6
      obtain ⟨cs, ecs, hcl, cok⟩ := rowsC_of (m := 1 + r4) (rs := rs) 0 fun j r hr => by rw [Nat.zero_add]; exact rok j r hr
      have rows : RowsC cs := ⟨by omega, fun j c hc => by
        have := cok j c hc
        rw [Nat.zero_add, show 1 + r4 = (cs.length : Int) by omega] at this
        exact this⟩
      rw [ecs] at tr6
      have hc40 : cs.length ≤ 40 := by omega
      subst hk2
      refine ⟨sl_le (by decide), fun t7 ht7 => ?_⟩
      have s7 := same_upd (o := HO.tup [V.ref l, V.ref z]) ht7
      replace sx6 := sx6.trans s7.x
      replace tr6 := tr6.same s7
      replace tp6 := tp6.same s7
      replace ez := s7 _ _ ez
      generalize upd H6 t7 (HO.tup [V.ref l, V.ref z]) = H6 at sx6 tr6 tp6 ez ⊢
      refine seq_k fun k2 hk2 => ?_
      (walk_at "rd"; try simp only [rdz, reduceIte, reduceCtorEq, Nat.reduceAdd, Nat.reduceSub])
      refine comp_k fun R2 hR2 => ?_
      (walk_at "rd"; try simp only [rdz, reduceIte, reduceCtorEq, Nat.reduceAdd, Nat.reduceSub, iRng1])
      refine ⟨p, 41, 0 + 2 + 20000 + 20, rfl, tp6, by decide, by decide, by decide, by decide, fun z => absurd z (by decide), fun r9 H9 r90 r91 s9 tp9 => ?_⟩
      (walk_at "rd"; try simp only [rdz, reduceIte, reduceCtorEq, Nat.reduceAdd, Nat.reduceSub])
      refine ⟨by omega, by omega, ?_⟩
      have sx9 := sx6.trans s9
      have tr9 := tr6.samex s9
      have ez9 := s9 _ _ nzp ez
      obtain ⟨Pc, hPc⟩ : ∃ Pv : Nat → List V → L2.St → Hp → Prop, Pv = fun (j : Nat) acc τ H' => ∃ (ns : List Int) (o0 : Option V), SameX p H9 H' ∧ TapeAt H' p (30000 + 2 * (j : Int)) ∧ acc = ns.map V.int ∧ ns.length = j ∧ (∀ n ∈ ns, n.natAbs ≤ 10 ^ 20) ∧ τ = [o0, some (V.ref p)] := ⟨_, rfl⟩
      refine comp_r hR2 (sl_le (by omega)) Pc (by rw [hPc]; exact ⟨[], _, SameX.refl _ _, tp9.le (by decide), rfl, rfl, fun n h => absurd h List.not_mem_nil, rfl⟩) ?_ ?_ ?_
      · intro j acc τ H10 pc
        rw [hPc] at pc
        obtain ⟨ns, _, _, _, rfl, hg, _⟩ := pc
        rw [List.length_map]
        omega
      · intro j acc τ H10 hj pc
        rw [hPc] at pc
        obtain ⟨ns, o0, s10, tp10, rfl, hnl, hnb, rfl⟩ := pc
        (walk_at "rd"; try simp only [rdz, reduceIte, reduceCtorEq, Nat.reduceAdd, Nat.reduceSub])
        refine ⟨p, 77, 30000 + 2 * (j : Int), rfl, tp10, by show 30000 + 2 * (j : Int) + 2 ≤ 1000100; omega, by decide, by decide, by decide, fun z => absurd z (by decide), fun r11 H11 r110 r111 s11 tp11 => ?_⟩
        (walk_at "rd"; try simp only [rdz, reduceIte, reduceCtorEq, Nat.reduceAdd, Nat.reduceSub])
        rw [hPc]
        refine ⟨ns ++ [r11 - 26], _, s10.trans s11, tp11.le (le2s _ j), by rw [List.map_append]; rfl, by rw [List.length_append, List.length_singleton, hnl], fun m hm => ?_, rfl⟩
        rcases List.mem_append.mp hm with z | z
        · exact hnb m z
        · rw [List.mem_singleton.mp z]; omega
      intro acc τ H10 b0 pc hb0
      rw [hPc] at pc
      obtain ⟨ns0, o0, s10, tp10, rfl, hnl, hnb, rfl⟩ := pc
      have tp10 := tp10.le (show 30000 + 2 * ((r9.toNat : Nat) : Int) ≤ 30100 by omega)
      have s11 := same_upd (o := HO.lst (ns0.map V.int)) hb0
      have e11 : upd H10 b0 (HO.lst (ns0.map V.int)) b0 = _ := upd_same
      have tp11 := tp10.same s11
      have tr11 := (tr9.samex s10).same s11
      have sx11 := (sx9.trans s10).trans s11.x
      have ez11 := s11 _ _ (s10 _ _ nzp ez9)
      have nb0 := tp10.ne hb0
      generalize upd H10 b0 (HO.lst (ns0.map V.int)) = H11 at s11 e11 tp11 tr11 sx11 ez11 ⊢
      clear hR2 hPc
      subst hk2
      refine seq_k fun k2 hk2 => ?_
      have rest : ∀ (b : Addr) (ns : List Int) (H12 : Hp), b ≠ p → ns.length ≤ 41 → (∀ n ∈ ns, n.natAbs ≤ 10 ^ 20) → H12 b = some (.lst (ns.map V.int)) → SameX p H11 H12 → TapeAt H12 p 30110 → k2 [some (V.ref a), some (V.int (0 + (i : Int))), some (V.ref p), some (V.ref l), some (V.ref z), some (V.ref b), o6, o7, o8, o9, o10, o11, o12, o13, o14, o15] H12 := by
        intro b ns H12 nbp hnl hnb eb s12 tp12
        have tr12 := tr11.samex s12
        have ez12 := s12 _ _ nzp ez11
        have sx12 := sx11.trans s12
        subst hk2
        refine seq_k fun k2 hk2 => ?_
        refine for_k fun R3 hR3 => ?_
        (walk_at "rd"; try simp only [rdz, reduceIte, reduceCtorEq, Nat.reduceAdd, Nat.reduceSub, rdB, eb])
        intro c1 hc1
        obtain ⟨me, hme, hmel⟩ := ev_int ns
        rw [hme]
        have s16 := same_upd (o := HO.lst (me.map V.int)) hc1
        have ec1 : upd H12 c1 (HO.lst (me.map V.int)) c1 = _ := upd_same
        have eb16 := s16 _ _ eb
        generalize upd H12 c1 (HO.lst (me.map V.int)) = H16 at s16 ec1 eb16 ⊢
        (walk_at "rd"; try simp only [rdz, reduceIte, reduceCtorEq, Nat.reduceAdd, Nat.reduceSub, eb16])
        intro c2 hc2
        obtain ⟨m1, hm1, hm1l, _⟩ := cut_int ns none (some 1)
        rw [hm1]
        refine ⟨sl_le (by decide), fun c3 hc3 => ⟨sl_le (by decide), fun c4 hc4 => ?_⟩⟩
        have v2 := same_upd (o := HO.lst (m1.map V.int)) hc2
        have v3 := same_upd (o := HO.lst []) hc3
        have v4 := same_upd (o := HO.tup [V.ref c1, V.ref c2, V.ref c3]) hc4
        have f1 := v4 _ _ (v3 _ _ (v2 _ _ ec1))
        have f2 := v4 _ _ (v3 _ _ (show upd H16 c2 (HO.lst (m1.map V.int)) c2 = some (.lst (m1.map V.int)) from upd_same))
        have f3 := v4 _ _ (show upd (upd H16 c2 (HO.lst (m1.map V.int))) c3 (HO.lst []) c3 = some (.lst (([] : List Int).map V.int)) from upd_same)
        have f4 : upd (upd (upd H16 c2 (HO.lst (m1.map V.int))) c3 (HO.lst [])) c4 (HO.tup [V.ref c1, V.ref c2, V.ref c3]) c4 = _ := upd_same
        have v := ((s16.trans v2).trans v3).trans v4
        generalize upd (upd (upd H16 c2 (HO.lst (m1.map V.int))) c3 (HO.lst [])) c4 (HO.tup [V.ref c1, V.ref c2, V.ref c3]) = H19 at v4 f1 f2 f3 f4 v ⊢
        obtain ⟨Pt, hPt⟩ : ∃ Pv : Nat → L2.St → Hp → Prop, Pv = fun (j : Nat) σ H' => ∃ (o6 : Option V), Same H19 H' ∧ σ = [some (V.ref a), some (V.int (0 + (i : Int))), some (V.ref p), some (V.ref l), some (V.ref z), some (V.ref b), o6, o7, o8, o9, o10, o11, o12, o13, o14, o15] := ⟨_, rfl⟩
        refine for_t hR3 (xs := [V.ref c1, V.ref c2, V.ref c3]) Pt (by rw [hPt]; exact ⟨_, Same.refl _, rfl⟩) ?_ ?_ ?_
        · intro j σ H' pv
          rw [hPt] at pv
          obtain ⟨_, s', _⟩ := pv
          exact s' _ _ f4
        · intro j x σ H20 hx pv
          rw [hPt] at pv
          obtain ⟨o6, s20, rfl⟩ := pv
          obtain ⟨c, mm, rfl, fc, hmm⟩ : ∃ (c : Addr) (mm : List Int), x = V.ref c ∧ H19 c = some (.lst (mm.map V.int)) ∧ mm.length ≤ 150 := by
            have hx' := List.mem_of_getElem? hx
            simp only [List.mem_cons, List.not_mem_nil, or_false] at hx'
            rcases hx' with rfl | rfl | rfl
            · exact ⟨c1, me, rfl, f1, by omega⟩
            · exact ⟨c2, m1, rfl, f2, by omega⟩
            · exact ⟨c3, [], rfl, f3, by decide⟩
          have trv := (tr12.same v).same s20
          (walk_at "rd"; try simp only [rdz, reduceIte, reduceCtorEq, Nat.reduceAdd, Nat.reduceSub])
          refine ⟨l, c, _, cs, mm, rfl, trv, rows, s20 _ _ fc, Nat.le_trans hmm (by decide), fun t1 G1 g1 ht1 et1 => ?_⟩
          (walk_at "rd"; try simp only [rdz, reduceIte, reduceCtorEq, Nat.reduceAdd, Nat.reduceSub])
          refine ⟨l, c, _, cs, mm, rfl, trv.same g1, rows, g1 _ _ (s20 _ _ fc), Nat.le_trans hmm (by decide), fun t2 G2 g2 ht2 et2 => ?_⟩
          (walk_at "rd"; try simp only [rdz, reduceIte, reduceCtorEq, Nat.reduceAdd, Nat.reduceSub])
          have hlen : ∀ c', ctallyOf cs mm = .inl c' → c'.length ≤ 9000 := fun c' hc' => by
            have := ct_fit mm _ c' hc'
            rw [List.length_replicate] at this
            omega
          refine ⟨_, _, fun _ => True, ctD (ctallyOf cs mm), rfl, ctT (g2 _ _ et1) hlen, ctT et2 hlen, ct_deep _, fun G3 g3 => ⟨true, rfl, ?_⟩⟩
          rw [if_neg (by decide), hPt]
          exact ⟨_, ((s20.trans g1).trans g2).trans g3, rfl⟩
        · intro σ H20 pv
          rw [hPt] at pv
          obtain ⟨o6, s20, rfl⟩ := pv
          show k2 _ _
          clear hR3 hPt
          subst hk2
          have s15 := v.trans s20
          have tr20 := tr12.same s15
          have eb20 := s15 _ _ eb
          have ez20 := s15 _ _ ez12
          have tp20 := tp12.same s15
          have sx20 := sx12.trans s15.x
          generalize H20 = Ha at s20 s15 tr20 eb20 ez20 tp20 sx20 ⊢
          refine seq_k fun k2 hk2 => ?_
          have rest2 : ∀ (o7 o8 : Option V) (Hb : Hp), SameX p Ha Hb → TapeAt Hb p 30120 → k2 [some (V.ref a), some (V.int (0 + (i : Int))), some (V.ref p), some (V.ref l), some (V.ref z), some (V.ref b), o6, o7, o8, o9, o10, o11, o12, o13, o14, o15] Hb := by
            intro o7 o8 Hb sb tpb
            subst hk2
            have trb := tr20.samex sb
            have ebb := sb _ _ nbp eb20
            have ezb := sb _ _ nzp ez20
            have sxb := sx20.trans sb
            refine seq_k fun k2 hk2 => ?_
            (walk_at "rd"; try simp only [rdz, reduceIte, reduceCtorEq, Nat.reduceAdd, Nat.reduceSub])
            have shp := shw_rows3 rok (by omega) (by omega) (Nat.le_trans hnl (by decide)) hnb (by rw [hzl]; decide) (fun x hx => by have := few x hx; omega)
            rw [ecs] at shp
            have shown : ∀ (G : Hp) (t : Addr), SameX p Hb G → G t = none → TreeAt (fun _ => True) (upd G t (HO.lst [V.ref l, V.ref b, V.ref z])) (.ref t) (.list [.list (cs.map rowCD), .list (ns.map .int), .tuple (zs.map .int)]) := fun G t g ht => by
              have s' := same_upd (o := HO.lst [V.ref l, V.ref b, V.ref z]) ht
              refine .lst trivial upd_same (by show 3 ≤ 9000; decide) (.cons (((trb.samex g).same s').keep fun x o _ e => ⟨trivial, e⟩) (.cons (.lst trivial (s' _ _ (g _ _ nbp ebb)) (by rw [List.length_map]; exact Nat.le_trans hnl (by decide)) (trees_int _)) (.cons (.tup trivial (s' _ _ (g _ _ nzp ezb)) (by rw [List.length_map, hzl]; decide) (trees_int _)) .nil)))
            refine ⟨sl_le (by decide), fun t1 ht1 => ⟨_, _, _, rfl, shown Hb t1 (SameX.refl _ _) ht1, shp, ?_⟩⟩
            obtain ⟨shn, hsh⟩ : ∃ shn, (PyData.list [.list (cs.map rowCD), .list (ns.map .int), .tuple (zs.map .int)]).shown = shn := ⟨_, rfl⟩
            rw [hsh]
            have g1 := same_upd (o := HO.lst [V.ref l, V.ref b, V.ref z]) ht1
            generalize upd Hb t1 (HO.lst [V.ref l, V.ref b, V.ref z]) = G1 at g1 ⊢
            refine ⟨l, b, _, cs, ns, rfl, trb.same g1, rows, g1 _ _ ebb, Nat.le_trans hnl (by decide), fun d G2 g2 hd ed => ?_⟩
            have sa2 := g1.trans g2
            have tp2' := tpb.same sa2
            have nd : d ≠ p := (tpb.same g1).ne hd
            subst hk2
            refine for_k fun R4 hR4 => ?_
            (walk_at "rd"; try simp only [rdz, reduceIte, reduceCtorEq, Nat.reduceAdd, Nat.reduceSub, iRng1])
            have hlen : ∀ c', ctallyOf cs ns = .inl c' → c'.length = cs.length := fun c' hc' => by
              have := ct_fit ns _ c' hc'
              rw [List.length_replicate] at this
              omega
            have hlen9 : ∀ c', ctallyOf cs ns = .inl c' → c'.length ≤ 9000 := fun c' hc' => by rw [hlen c' hc']; exact Nat.le_trans hc40 (by decide)
            obtain ⟨Pl, hPl⟩ : ∃ Pv : Nat → L2.St → Hp → Prop, Pv = fun (j : Nat) σ H' => ∃ (o11 o12 o13 o14 o15 : Option V), SameX p G2 H' ∧ TapeAt H' p (30120 + 100 * (j : Int)) ∧ σ = [some (V.ref a), some (V.int (0 + (i : Int))), some (V.ref p), some (V.ref l), some (V.ref z), some (V.ref b), o6, o7, o8, some (V.str shn), some (V.ref d), o11, o12, o13, o14, o15] := ⟨_, rfl⟩
            refine ⟨by decide, by decide, ?_⟩
            refine for_r hR4 Pl (by rw [hPl]; exact ⟨_, _, _, _, _, SameX.refl _ _, tp2', rfl⟩) ?_ ?_
            · intro j σ G3 hj pv
              rw [hPl] at pv
              obtain ⟨o11, o12, o13, o14, o15, g3, tp3, rfl⟩ := pv
              have sa3 := sa2.x.trans g3
              have tr3 := trb.samex sa3
              have eb3 := sa3 _ _ nbp ebb
              have ez3 := sa3 _ _ nzp ezb
              refine seq_k fun k3 hk3 => ?_
              (walk_at "rd"; try simp only [rdz, reduceIte, reduceCtorEq, Nat.reduceAdd, Nat.reduceSub])
              refine ⟨l, b, _, cs, ns, rfl, tr3, rows, eb3, Nat.le_trans hnl (by decide), fun t G4 g4 ht et => ?_⟩
              (walk_at "rd"; try simp only [rdz, reduceIte, reduceCtorEq, Nat.reduceAdd, Nat.reduceSub])
              subst hk3
              refine seq_k fun k3 hk3 => ?_
              (walk_at "rd"; try simp only [rdz, reduceIte, reduceCtorEq, Nat.reduceAdd, Nat.reduceSub])
              refine ⟨_, _, fun _ => True, ctD (ctallyOf cs ns), rfl, ctT et hlen9, ctT (g4 _ _ (g3 _ _ nd ed)) hlen9, ct_deep _, fun G5 g5 => ?_⟩
              have sa5 := (sa3.trans g4.x).trans g5.x
              (walk_at "rd"; try simp only [rdz, reduceIte, reduceCtorEq, Nat.reduceAdd, Nat.reduceSub])
              refine ⟨sl_le (by decide), fun t6 ht6 => ⟨_, _, _, rfl, shown G5 t6 sa5 ht6, shp, ?_⟩⟩
              rw [hsh]
              have g6 := same_upd (o := HO.lst [V.ref l, V.ref b, V.ref z]) ht6
              have et6 := g6 _ _ (g5 _ _ et)
              have tp6' := ((tp3.same g4).same g5).same g6
              have tr6' := ((tr3.same g4).same g5).same g6
              have ez6 := g6 _ _ (g5 _ _ (g4 _ _ ez3))
              have ed6 := g6 _ _ (g5 _ _ (g4 _ _ (g3 _ _ nd ed)))
              have nt : t ≠ p := tp3.ne ht
              have htG : G2 t = none := by
                cases e : G2 t with
                | none => rfl
                | some o => have := g3 t o nt e; rw [ht] at this; cases this
              have g26 := ((g3.trans g4.x).trans g5.x).trans g6.x
              generalize upd G5 t6 (HO.lst [V.ref l, V.ref b, V.ref z]) = G6 at g6 et6 tp6' tr6' ez6 ed6 g26 ⊢
              (walk_at "rd"; try simp only [rdz, reduceIte, reduceCtorEq, Nat.reduceAdd, Nat.reduceSub])
              subst hk3
              refine seq_k fun k3 hk3 => ?_
              have rest3 : ∀ (cb : Addr) (kk : List Int) (G7 : Hp), SameX p G6 G7 → TapeAt G7 p (30120 + 100 * (j : Int) + 60) → G7 cb = some (.lst (kk.map V.int)) → kk.length = cs.length → k3 [some (V.ref a), some (V.int (0 + (i : Int))), some (V.ref p), some (V.ref l), some (V.ref z), some (V.ref b), o6, o7, o8, some (V.str shn), some (V.ref d), some (V.int (0 + (j : Int))), some (V.ref t), some (V.ref cb), o14, o15] G7 := by
                intro cb kk G7 g7 tp7 ecb hkk
                have tr7 := tr6'.samex g7
                have ez7 := g7 _ _ nzp ez6
                have et7 := g7 _ _ nt et6
                have g27 := g26.trans g7
                subst hk3
                refine seq_k fun k3 hk3 => ?_
                (walk_at "rd"; try simp only [rdz, reduceIte, reduceCtorEq, Nat.reduceAdd, Nat.reduceSub, rdA])
                refine ⟨sl_le (by decide), fun q1 hq1 => ⟨sl_le (by decide), fun q2 hq2 => ?_⟩⟩
                have w1 := same_upd (o := HO.lst [V.str "is", V.str "within", V.str "below", V.str "mask", V.str "table", V.str "pick"]) hq1
                have w2 := same_upd (o := HO.tup [V.int 0]) hq2
                have h1 := w2 _ _ (show upd G7 q1 (HO.lst [V.str "is", V.str "within", V.str "below", V.str "mask", V.str "table", V.str "pick"]) q1 = _ from upd_same)
                have h2 : upd (upd G7 q1 (HO.lst [V.str "is", V.str "within", V.str "below", V.str "mask", V.str "table", V.str "pick"])) q2 (HO.tup [V.int 0]) q2 = _ := upd_same
                have w12 := w1.trans w2
                generalize upd (upd G7 q1 (HO.lst [V.str "is", V.str "within", V.str "below", V.str "mask", V.str "table", V.str "pick"])) q2 (HO.tup [V.int 0]) = G8 at w2 h1 h2 w12 ⊢
                have ez8 := w12 _ _ ez7
                (walk_at "rd"; try simp only [rdz, reduceIte, reduceCtorEq, Nat.reduceAdd, Nat.reduceSub, rCatA_r, ez8, h2, caq_tt])
                refine ⟨sl_le (by rw [List.length_map, hzl]; decide), fun q3 G9 g9 e9 => ?_⟩
                refine ⟨q1, q3, sixKv zs, zs.map V.int ++ [V.int 0], rfl, .inr (SqL.of (g9 _ _ h1)), SqT.of e9, six_take hzl, by show 0 < 6; decide, by show 6 ≤ 15; decide, fun dk hdk => ?_⟩
                have g10 := same_upd (o := HO.dK (mergeK [] (sixKv zs))) hdk
                have edk : upd G9 dk (HO.dK (mergeK [] (sixKv zs))) dk = _ := upd_same
                generalize upd G9 dk (HO.dK (mergeK [] (sixKv zs))) = G10 at g10 edk ⊢
                have g710 := (w12.trans g9).trans g10
                have tr10' := tr7.same g710
                have ecb10 := g710 _ _ ecb
                have ez10 := g710 _ _ ez7
                have et10 := g710 _ _ et7
                have g210 := g27.trans g710.x
                have tp10' := tp7.same g710
                subst hk3
                refine seq_k fun k3 hk3 => ?_
                (walk_at "rd"; try simp only [rdz, reduceIte, reduceCtorEq, Nat.reduceAdd, Nat.reduceSub])
                refine comp_k fun R7 hR7 => ?_
                have tr10'' := tr10'
                cases tr10'' with
                | lst ok10 el10 zl10 ts10 =>
                  rename_i xs
                  have hxl := ts10.length
                  rw [List.length_map] at hxl
                  (walk_at "rd"; try simp only [rdz, reduceIte, reduceCtorEq, Nat.reduceAdd, Nat.reduceSub, el10, ecb10])
                  obtain ⟨Pc, hPc⟩ : ∃ Pv : Nat → List V → L2.St → Hp → Prop, Pv = fun (jj : Nat) acc τ H' => ∃ (o0 o1 : Option V), Same G10 H' ∧ acc = (wghL zs (cs.take jj) (kk.take jj)).map V.int ∧ τ = [o0, o1, some (V.ref dk)] := ⟨_, rfl⟩
                  refine comp_zl hR7 (xs := xs) (ys := kk.map V.int) (sl_le zl10) (by rw [List.length_map]; omega) Pc (by rw [hPc]; exact ⟨_, _, Same.refl _, rfl, rfl⟩) ?_ ?_ ?_ ?_
                  · intro jj acc τ G11 pc
                    rw [hPc] at pc
                    obtain ⟨_, _, _, rfl, _⟩ := pc
                    rw [List.length_map]
                    unfold wghL
                    rw [List.length_zipWith, List.length_take]
                    exact Nat.le_trans (Nat.min_le_left _ _) (Nat.min_le_left _ _)
                  · intro jj acc τ G11 pc
                    rw [hPc] at pc
                    obtain ⟨_, _, g11, _, _⟩ := pc
                    exact ⟨g11 _ _ el10, g11 _ _ ecb10⟩
                  · intro jj x y acc τ G11 pp hx hy pc hpp
                    rw [hPc] at pc
                    obtain ⟨o0, o1, g11, rfl, rfl⟩ := pc
                    rw [List.getElem?_map] at hy
                    obtain ⟨n, hn, rfl⟩ := Option.map_eq_some_iff.mp hy
                    have g12 := same_upd (o := HO.tup [x, V.int n]) hpp
                    have e12' : upd G11 pp (HO.tup [x, V.int n]) pp = _ := upd_same
                    have g112 := g11.trans g12
                    generalize upd G11 pp (HO.tup [x, V.int n]) = G12 at g12 e12' g112 ⊢
                    have hi' : jj < cs.length := by have := (List.getElem?_eq_some_iff.mp hx).1; omega
                    have hc : cs[jj]? = some cs[jj] := List.getElem?_eq_getElem hi'
                    obtain ⟨x', hx', rx⟩ := (ts10.same g112).row hc
                    rw [hx] at hx'
                    cases hx'
                    obtain ⟨a', g, rfl, e', eg⟩ := rx
                    have hw := row_word cs[jj] g
                    have edk12 := g112 _ _ edk
                    (walk_at "rd"; try simp only [rdz, reduceIte, reduceCtorEq, Nat.reduceAdd, Nat.reduceSub, rdA, e12', e', hw])
                    refine ⟨dk, _, rfl, DGet.k' (k := Sum.inr (wordC cs[jj])) edk12 (six_val zs cs[jj]), ?_⟩
                    have hf := pr_few few cs[jj]
                    (walk_at "rd"; try simp only [rdz, reduceIte, reduceCtorEq, Nat.reduceAdd, Nat.reduceSub])
                    refine ⟨.inr ⟨by omega, by omega⟩, ?_⟩
                    rw [hPc]
                    exact ⟨_, _, g112, by rw [wgh_snoc hc hn, List.map_append]; rfl, rfl⟩
                  · intro acc τ G11 d2 pc hd2
                    rw [hPc] at pc
                    obtain ⟨o0, o1, g11, rfl, rfl⟩ := pc
                    rw [hxl, List.take_length, ← hkk, List.take_length]
                    have e12' : upd G11 d2 (HO.lst ((wghL zs cs kk).map V.int)) d2 = _ := upd_same
                    have g12 := same_upd (o := HO.lst ((wghL zs cs kk).map V.int)) hd2
                    have g1012 := g11.trans g12
                    generalize upd G11 d2 (HO.lst ((wghL zs cs kk).map V.int)) = G12 at g12 e12' g1012 ⊢
                    clear hR7 hPc
                    (walk_at "rd"; try simp only [rdz, reduceIte, reduceCtorEq, Nat.reduceAdd, Nat.reduceSub, e12'])
                    refine ⟨_, rfl, ?_⟩
                    subst hk3
                    refine seq_k fun k3 hk3 => ?_
                    (walk_at "rd"; try simp only [rdz, reduceIte, reduceCtorEq, Nat.reduceAdd, Nat.reduceSub])
                    refine ⟨l, cb, z, _, cs, kk, zs, rfl, tr10'.same g1012, g1012 _ _ ecb10, hkk, g1012 _ _ ez10, hzl, few, fun G13 g13 => ?_⟩
                    (walk_at "rd"; try simp only [rdz, reduceIte, reduceCtorEq, Nat.reduceAdd, Nat.reduceSub])
                    refine ⟨_, _, fun _ => True, .int _, rfl, .int _, .int _, by simp [PyData.depth], fun G14 g14 => ⟨true, rfl, ?_⟩⟩
                    rw [if_neg (by decide)]
                    subst hk3
                    have gEnd := (g1012.trans g13).trans g14
                    have et14 := gEnd _ _ et10
                    have g214 := g210.trans gEnd.x
                    have tp14 := (tp10'.same gEnd).le (le100 j)
                    cases htl : ctallyOf cs ns with
                    | inl c =>
                      rw [htl] at et14
                      replace et14 : G14 t = some (.lst (c.map V.int)) := et14
                      (walk_at "rd"; try simp only [rdz, reduceIte, reduceCtorEq, Nat.reduceAdd, Nat.reduceSub, et14])
                      have := hlen9 c htl
                      refine ⟨Nat.lt_of_le_of_lt (show (c.map V.int).length ≤ 9000 by rw [List.length_map]; exact this) (by decide), ?_⟩
                      rw [hPl]
                      exact ⟨_, _, _, _, _, samex_upd g214 htG, tp14.upd nt, rfl⟩
                    | inr jj =>
                      rw [htl] at et14
                      replace et14 : G14 t = some (.tup [.str "beyond", .int jj]) := et14
                      (walk_at "rd"; try simp only [rdz, reduceIte, reduceCtorEq, Nat.reduceAdd, Nat.reduceSub, et14])
                      rw [hPl]
                      exact ⟨_, _, _, _, _, g214, tp14, rfl⟩
              (walk_at "rd"; try simp only [rdz, reduceIte, reduceCtorEq, Nat.reduceAdd, Nat.reduceSub])
              obtain ⟨ty, hty, hlst⟩ : ∃ ty, tyO (G6 d) = some ty ∧ (subN ty "list" = true → ∃ kk : List Int, G6 d = some (.lst (kk.map V.int)) ∧ kk.length = cs.length) := by
                rw [ed6]
                cases htl : ctallyOf cs ns with
                | inl kk => exact ⟨_, rfl, fun _ => ⟨kk, rfl, hlen kk htl⟩⟩
                | inr jj => exact ⟨"tuple", rfl, fun h => absurd h (by decide)⟩
              refine ⟨ty, hty, ife3 (fun c1 c2 => ?_) ?_⟩
              · obtain ⟨kk, ekk, hkk⟩ := hlst c1
                exact rest3 d kk G6 (SameX.refl _ _) (tp6'.le (le60 _)) ekk hkk
              · refine comp_k fun R6 hR6 => ?_
                have tr6'' := tr6'
                cases tr6'' with
                | lst ok6 el6 zl6 ts6 =>
                  rename_i xs
                  have hxl := ts6.length
                  rw [List.length_map] at hxl
                  have nl : l ≠ p := ok6
                  (walk_at "rd"; try simp only [rdz, reduceIte, reduceCtorEq, Nat.reduceAdd, Nat.reduceSub, el6])
                  obtain ⟨Pc, hPc⟩ : ∃ Pv : Nat → List V → L2.St → Hp → Prop, Pv = fun (jj : Nat) acc τ H' => ∃ (kk : List Int) (o0 : Option V), SameX p G6 H' ∧ TapeAt H' p (30120 + 100 * (j : Int) + 2 * (jj : Int)) ∧ acc = kk.map V.int ∧ kk.length = jj ∧ τ = [o0, some (V.ref p)] := ⟨_, rfl⟩
                  refine comp_l hR6 (xs := xs) (sl_le zl6) Pc (by rw [hPc]; exact ⟨[], _, SameX.refl _ _, tp6'.le (le00 _), rfl, rfl, rfl⟩) ?_ ?_ ?_ ?_
                  · intro jj acc τ G8 pc
                    rw [hPc] at pc
                    obtain ⟨kk, _, _, _, rfl, hg, _⟩ := pc
                    rw [List.length_map]
                    omega
                  · intro jj acc τ G8 pc
                    rw [hPc] at pc
                    obtain ⟨_, _, g8, _⟩ := pc
                    exact SqL.of (g8 _ _ nl el6)
                  · intro jj x acc τ G8 hx pc
                    rw [hPc] at pc
                    obtain ⟨kk, o0, g8, tp8, rfl, hkk, rfl⟩ := pc
                    have hjx := (List.getElem?_eq_some_iff.mp hx).1
                    (walk_at "rd"; try simp only [rdz, reduceIte, reduceCtorEq, Nat.reduceAdd, Nat.reduceSub])
                    refine ⟨p, 1000, _, rfl, tp8, by show 30120 + 100 * (j : Int) + 2 * (jj : Int) + 2 ≤ 1000100; omega, by decide, by decide, by decide, fun z => absurd z (by decide), fun r9 G9 r90 r91 g9 tp9' => ?_⟩
                    (walk_at "rd"; try simp only [rdz, reduceIte, reduceCtorEq, Nat.reduceAdd, Nat.reduceSub])
                    rw [hPc]
                    exact ⟨kk ++ [r9], _, g8.trans g9, tp9'.le (le2s _ jj), by rw [List.map_append]; rfl, by rw [List.length_append, List.length_singleton, hkk], rfl⟩
                  · intro acc τ G8 cb pc hcb
                    rw [hPc] at pc
                    obtain ⟨kk, o0, g8, tp8, rfl, hkk, rfl⟩ := pc
                    have g9 := same_upd (o := HO.lst (kk.map V.int)) hcb
                    exact rest3 cb kk _ (g8.trans g9.x) ((tp8.same g9).le (by omega)) upd_same (by omega)
            · intro σ G3 pv
              rw [hPl] at pv
              obtain ⟨o11, o12, o13, o14, o15, g3, tp3, rfl⟩ := pv
              show Pv _ _ _
              rw [hPv]
              have sxe := (sxb.trans sa2.x).trans g3
              exact ⟨hS1.keep fun o e => sxe a o (fun z => by rw [z, hp0] at e; cases e) e, _, _, _, _, _, _, _, _, _, _, _, _, _, _, _, rfl⟩
          refine ifs_k fun kt ke hkt hke => ?_
          (walk_at "rd"; try simp only [rdz, reduceIte, reduceCtorEq, Nat.reduceAdd, Nat.reduceSub])
          refine ⟨p, 8, 30110, rfl, tp20, by decide, by decide, by decide, by decide, fun z => absurd z (by decide), fun r21 H21 r210 r211 s21 tp21 => ?_⟩
          (walk_at "rd"; try simp only [rdz, reduceIte, reduceCtorEq, Nat.reduceAdd, Nat.reduceSub])
          split
          · subst hkt
            refine seq_k fun k3 hk3 => ?_
            (walk_at "rd"; try simp only [rdz, reduceIte, reduceCtorEq, Nat.reduceAdd, Nat.reduceSub])
            refine ⟨p, 800, 30110 + 2, rfl, tp21, by decide, by decide, by decide, by decide, fun z => absurd z (by decide), fun r22 H22 r220 r221 s22 tp22 => ?_⟩
            (walk_at "rd"; try simp only [rdz, reduceIte, reduceCtorEq, Nat.reduceAdd, Nat.reduceSub])
            obtain ⟨m, hm⟩ : ∃ m : Nat, 1100 + r22 = (m : Int) := ⟨(1100 + r22).toNat, by omega⟩
            rw [hm]
            have hm2 : m ≤ 2000 := by omega
            subst hk3
            refine seq_k fun k3 hk3 => ?_
            (walk_at "rd"; try simp only [rdz, reduceIte, reduceCtorEq, Nat.reduceAdd, Nat.reduceSub])
            refine comp_k fun R5 hR5 => ?_
            (walk_at "rd"; try simp only [rdz, reduceIte, reduceCtorEq, Nat.reduceAdd, Nat.reduceSub, iRng1])
            refine ⟨by omega, by omega, ?_⟩
            obtain ⟨Pc, hPc⟩ : ∃ Pv : Nat → List V → L2.St → Hp → Prop, Pv = fun (j : Nat) acc τ H' => ∃ (o0 : Option V), Same H22 H' ∧ TreesAt (fun _ => True) H' acc ((onesM m j).map rowCD) ∧ τ = [o0, some (V.int (m : Int))] := ⟨_, rfl⟩
            refine comp_r hR5 (sl_le (by omega)) Pc (by rw [hPc]; exact ⟨_, Same.refl _, .nil, rfl⟩) ?_ ?_ ?_
            · intro j acc τ H23 pc
              rw [hPc] at pc
              obtain ⟨_, _, t23, _⟩ := pc
              have := t23.length
              rw [List.length_map, onesM_len] at this
              omega
            · intro j acc τ H23 hj pc
              rw [hPc] at pc
              obtain ⟨o0, s23, t23, rfl⟩ := pc
              (walk_at "rd"; try simp only [rdz, reduceIte, reduceCtorEq, Nat.reduceAdd, Nat.reduceSub])
              refine ⟨sl_le (by decide), fun t ht => ?_⟩
              rw [hPc]
              have s24 := same_upd (o := HO.tup [V.str "is", V.int (0 + (j : Int)), V.int (m : Int)]) ht
              refine ⟨_, s23.trans s24, ?_, rfl⟩
              rw [onesM_succ, List.map_append]
              refine (t23.same s24).append (.cons (.tup trivial (by rw [upd_same, Int.zero_add]) (by show 3 ≤ 9000; decide) (.cons (.str _) (.cons (.int _) (.cons (.int _) .nil)))) .nil)
            · intro acc τ H23 lg pc hlg
              rw [hPc] at pc
              obtain ⟨o0, s23, t23, rfl⟩ := pc
              rw [show (m : Int).toNat = m by omega] at t23
              have hal := t23.length
              rw [List.length_map, onesM_len] at hal
              have s24 := same_upd (o := HO.lst acc) hlg
              have e24 : upd H23 lg (HO.lst acc) lg = _ := upd_same
              have t24 := t23.same s24
              have s224 := s23.trans s24
              generalize upd H23 lg (HO.lst acc) = H24 at s24 e24 t24 s224 ⊢
              clear hR5 hPc
              (walk_at "rd"; try simp only [rdz, reduceIte, reduceCtorEq, Nat.reduceAdd, Nat.reduceSub])
              refine ⟨sl_le (by decide), fun p1 h1 => ⟨sl_le (by decide), fun p2 h2 => ?_⟩⟩
              have v1 := same_upd (o := HO.tup [V.str "pick", V.int 0]) h1
              have v2 := same_upd (o := HO.lst [V.ref p1]) h2
              have f5 := v2 _ _ (show upd H24 p1 (HO.tup [V.str "pick", V.int 0]) p1 = _ from upd_same)
              have v12 := v1.trans v2
              have e25 := v12 _ _ e24
              have t25 := t24.same v12
              have s225 := s224.trans v12
              (walk_at "rd"; try simp only [rdz, reduceIte, reduceCtorEq, Nat.reduceAdd, Nat.reduceSub, e25])
              generalize upd (upd H24 p1 (HO.tup [V.str "pick", V.int 0])) p2 (HO.lst [V.ref p1]) = H25 at v2 f5 v12 e25 t25 s225 ⊢
              refine ⟨sl_le (by show acc.length + 1 ≤ 9000; omega), fun lr hlr => ?_⟩
              have v6 := same_upd (o := HO.lst (acc ++ [V.ref p1])) hlr
              have tl : TreesAt (fun _ => True) H25 (acc ++ [V.ref p1]) ((chainM m).map rowCD) := by
                unfold chainM
                rw [List.map_append]
                exact t25.append (.cons (.tup trivial f5 (by show 2 ≤ 9000; decide) (.cons (.str _) (.cons (.int _) .nil))) .nil)
              have trc : TreeAt (fun _ => True) (upd H25 lr (HO.lst (acc ++ [V.ref p1]))) (.ref lr) (.list ((chainM m).map rowCD)) := .lst trivial upd_same (by rw [List.length_append]; show acc.length + 1 ≤ 9000; omega) (tl.same v6)
              have s226 := s225.trans v6
              generalize upd H25 lr (HO.lst (acc ++ [V.ref p1])) = H26 at v6 trc s226 ⊢
              subst hk3
              (walk_at "rd"; try simp only [rdz, reduceIte, reduceCtorEq, Nat.reduceAdd, Nat.reduceSub])
              refine ⟨sl_le (by decide), fun q1 hq1 => ?_⟩
              have v7 := same_upd (o := HO.lst [V.int (m : Int), V.int 3]) hq1
              have e27 : upd H26 q1 (HO.lst [V.int (m : Int), V.int 3]) q1 = some (.lst (([(m : Int), 3] : List Int).map V.int)) := upd_same
              generalize upd H26 q1 (HO.lst [V.int (m : Int), V.int 3]) = H27 at v7 e27 ⊢
              obtain ⟨ck, hck⟩ := ct_safe (cs := chainM m) [(m : Int), 3] (List.replicate (chainM m).length 0) fun n _ => chainM_safe m n
              have hck' : ctallyOf (chainM m) [(m : Int), 3] = .inl ck := hck
              have hckl := ct_fit _ _ ck hck
              rw [List.length_replicate, chainM_len] at hckl
              refine ⟨lr, q1, _, chainM m, [(m : Int), 3], rfl, trc.same v7, chainM_rows m, e27, by show 2 ≤ 300; decide, fun kk hkk w1 G1 g1 hw1 ew1 => ?_, fun j hj => by rw [hck'] at hj; cases hj⟩
              (walk_at "rd"; try simp only [rdz, reduceIte, reduceCtorEq, Nat.reduceAdd, Nat.reduceSub])
              refine ⟨sl_le (by decide), fun q2 hq2 => ?_⟩
              have v8 := same_upd (o := HO.lst [V.int (m : Int), V.int 3]) hq2
              have e28 : upd G1 q2 (HO.lst [V.int (m : Int), V.int 3]) q2 = some (.lst (([(m : Int), 3] : List Int).map V.int)) := upd_same
              generalize upd G1 q2 (HO.lst [V.int (m : Int), V.int 3]) = G2 at v8 e28 ⊢
              refine ⟨lr, q2, _, chainM m, [(m : Int), 3], rfl, ((trc.same v7).same g1).same v8, chainM_rows m, e28, by show 2 ≤ 300; decide, fun w2 G3 g3 hw2 ew2 => ?_⟩
              (walk_at "rd"; try simp only [rdz, reduceIte, reduceCtorEq, Nat.reduceAdd, Nat.reduceSub])
              rw [hck'] at hkk ew2
              cases hkk
              refine ⟨_, _, fun _ => True, ctD (.inl ck), rfl, ctT (r := .inl ck) (g3 _ _ (v8 _ _ ew1)) (fun c hc => by cases hc; rw [hckl]; exact Nat.le_trans (Nat.succ_le_succ hm2) (by decide)), ctT (r := .inl ck) ew2 (fun c hc => by cases hc; rw [hckl]; exact Nat.le_trans (Nat.succ_le_succ hm2) (by decide)), ct_deep _, fun G4 g4 => ⟨true, rfl, ?_⟩⟩
              rw [if_neg (by decide)]
              have sAll := ((((s226.trans v7).trans g1).trans v8).trans g3).trans g4
              exact rest2 _ _ G4 ((s21.trans s22).trans sAll.x) ((tp22.same sAll).le (by decide))
          · subst hke
            exact rest2 _ _ H21 s21 (tp21.le (by decide))
      refine ifs_k fun kt ke hkt hke => ?_
      (walk_at "rd"; try simp only [rdz, reduceIte, reduceCtorEq, Nat.reduceAdd, Nat.reduceSub])
      refine ⟨p, 2, 30100, rfl, tp11, by decide, by decide, by decide, by decide, fun z => absurd z (by decide), fun r12 H12 r120 r121 s12 tp12 => ?_⟩
      have e12 := s12 _ _ nb0 e11
      have tr12 := tr11.samex s12
      (walk_at "rd"; try simp only [rdz, reduceIte, reduceCtorEq, Nat.reduceAdd, Nat.reduceSub])
      split
      · subst hkt
        (walk_at "rd"; try simp only [rdz, reduceIte, reduceCtorEq, Nat.reduceAdd, Nat.reduceSub])
        refine comp_k fun R2 hR2 => ?_
        (walk_at "rd"; try simp only [rdz, reduceIte, reduceCtorEq, Nat.reduceAdd, Nat.reduceSub, e12])
        obtain ⟨Pc, hPc⟩ : ∃ Pv : Nat → List V → L2.St → Hp → Prop, Pv = fun (j : Nat) acc τ H' => ∃ (ns : List Int) (o0 : Option V), Same H12 H' ∧ acc = ns.map V.int ∧ ns.length ≤ j ∧ (∀ n ∈ ns, n ∈ ns0) ∧ τ = [o0, some (V.ref l)] := ⟨_, rfl⟩
        refine comp_l hR2 (xs := ns0.map V.int) (sl_le (by rw [List.length_map]; omega)) Pc (by rw [hPc]; exact ⟨[], _, Same.refl _, rfl, Nat.le_refl _, fun n h => absurd h List.not_mem_nil, rfl⟩) ?_ ?_ ?_ ?_
        · intro j acc τ H13 pc
          rw [hPc] at pc
          obtain ⟨ns, _, _, rfl, hg, _⟩ := pc
          rw [List.length_map]
          exact hg
        · intro j acc τ H13 pc
          rw [hPc] at pc
          obtain ⟨_, _, s13, _⟩ := pc
          exact SqL.of (s13 _ _ e12)
        · intro j x acc τ H13 hx pc
          rw [hPc] at pc
          obtain ⟨ns, o0, s13, rfl, hnl', hnm, rfl⟩ := pc
          rw [List.getElem?_map] at hx
          obtain ⟨n, hn, rfl⟩ := Option.map_eq_some_iff.mp hx
          (walk_at "rd"; try simp only [rdz, reduceIte, reduceCtorEq, Nat.reduceAdd, Nat.reduceSub])
          refine ⟨l, _, cs, n, rfl, tr12.same s13, rows, fun z => absurd z (by decide), fun t1 ld H14 s14 ht1 hld ntd et1 ed _ => ?_⟩
          (walk_at "rd"; try simp only [rdz, reduceIte, reduceCtorEq, Nat.reduceAdd, Nat.reduceSub, et1])
          cases hlab : (runOf cs n).1 with
          | none =>
            unfold optV
            (walk_at "rd"; try simp only [rdz, reduceIte, reduceCtorEq, Nat.reduceAdd, Nat.reduceSub])
            rw [hPc]
            exact ⟨ns, _, s13.trans s14, rfl, by omega, hnm, rfl⟩
          | some lab =>
            unfold optV
            (walk_at "rd"; try simp only [rdz, reduceIte, reduceCtorEq, Nat.reduceAdd, Nat.reduceSub])
            rw [hPc]
            refine ⟨ns ++ [n], _, s13.trans s14, by rw [List.map_append]; rfl, by rw [List.length_append, List.length_singleton]; omega, fun m hm => ?_, rfl⟩
            rcases List.mem_append.mp hm with z | z
            · exact hnm m z
            · rw [List.mem_singleton.mp z]; exact List.mem_of_getElem? hn
        · intro acc τ H13 b1 pc hb1
          rw [hPc] at pc
          obtain ⟨ns, o0, s13, rfl, hnl', hnm, rfl⟩ := pc
          rw [List.length_map] at hnl'
          have s14 := same_upd (o := HO.lst (ns.map V.int)) hb1
          exact rest b1 ns _ ((tp12.same s13).ne hb1) (by omega) (fun n hn => hnb n (hnm n hn)) upd_same ((s12.trans s13.x).trans s14.x) (((tp12.same s13).same s14).le (by decide))
      · subst hke
        exact rest b0 ns0 H12 nb0 (by omega) hnb e12 s12 (tp12.le (by decide))
    · intro σ H1 pv
      rw [hPv] at pv
      obtain ⟨_, o1, o2, o3, o4, o5, o6, o7, o8, o9, o10, o11, o12, o13, o14, o15, rfl⟩ := pv
      show k _ _
      subst hk
      exact q _
end
end K44
namespace K44
open PySem L2 PyProof.Rows
theorem all_mk {l : PySem.W.OpenLaw} {w : World} {K : PySem.W.Frag} {h : Heap} {mg : Str → Option Value} {fa : Addr} {f1 : Addr} {od1 an1 : Option Addr} {sl1 : Array (Option Value)} {oc1 kV1 dc1 pm1 cd1 ct1 : Value} {f2 : Addr} {od2 an2 : Option Addr} {sl2 : Array (Option Value)} {oc2 kV2 dc2 pm2 cd2 ct2 : Value} {f3 : Addr} {od3 an3 : Option Addr} {sl3 : Array (Option Value)} {oc3 kV3 dc3 pm3 cd3 ct3 : Value} {f4 : Addr} {od4 an4 : Option Addr} {sl4 : Array (Option Value)} {oc4 kV4 dc4 pm4 cd4 ct4 : Value} {f5 : Addr} {od5 an5 : Option Addr} {sl5 : Array (Option Value)} {oc5 kV5 dc5 pm5 cd5 ct5 : Value} {f6 : Addr} {od6 an6 : Option Addr} {sl6 : Array (Option Value)} {oc6 kV6 dc6 pm6 cd6 ct6 : Value} {f7 : Addr} {od7 an7 : Option Addr} {sl7 : Array (Option Value)} {oc7 kV7 dc7 pm7 cd7 ct7 : Value} {f8 : Addr} {od8 an8 : Option Addr} {sl8 : Array (Option Value)} {oc8 kV8 dc8 pm8 cd8 ct8 : Value} {f9 : Addr} {od9 an9 : Option Addr} {sl9 : Array (Option Value)} {oc9 kV9 dc9 pm9 cd9 ct9 : Value} {f10 : Addr} {od10 an10 : Option Addr} {sl10 : Array (Option Value)} {oc10 kV10 dc10 pm10 cd10 ct10 : Value} {f11 : Addr} {od11 an11 : Option Addr} {sl11 : Array (Option Value)} {oc11 kV11 dc11 pm11 cd11 ct11 : Value} {f12 : Addr} {od12 an12 : Option Addr} {sl12 : Array (Option Value)} {oc12 kV12 dc12 pm12 cd12 ct12 : Value} {f13 : Addr} {od13 an13 : Option Addr} {sl13 : Array (Option Value)} {oc13 kV13 dc13 pm13 cd13 ct13 : Value} {f14 : Addr} {od14 an14 : Option Addr} {sl14 : Array (Option Value)} {oc14 kV14 dc14 pm14 cd14 ct14 : Value} {f15 : Addr} {od15 an15 : Option Addr} {sl15 : Array (Option Value)} {oc15 kV15 dc15 pm15 cd15 ct15 : Value} {f16 : Addr} {od16 an16 : Option Addr} {sl16 : Array (Option Value)} {oc16 kV16 dc16 pm16 cd16 ct16 : Value} {f17 : Addr} {od17 an17 : Option Addr} {sl17 : Array (Option Value)} {oc17 kV17 dc17 pm17 cd17 ct17 : Value} {f18 : Addr} {od18 an18 : Option Addr} {sl18 : Array (Option Value)} {oc18 kV18 dc18 pm18 cd18 ct18 : Value} {aTests : Addr} {nTests : Nat} {slTests : Array (Option Value)} {kTests0 kTests1 kTests2 kTests3 kTests4 : Tok} {nmB qB : Str} {bsB : List Value} {snB : List Str} {subB : List Value} {abB : Bool} {colB : Option Bool} {ddB : Option Addr} {b0 b1 b2 b3 b5 : Option Value} {nmD qD : Str} {bsD : List Value} {hdD : Bool} {snD : List Str} {subD : List Value} {abD : Bool} {colD : Option Bool} {ddD : Option Addr} {e0 e1 e2 e3 e5 : Option Value} {nidD : String} {aTwice aBeyond aTooNarrow aNoStretch aBadText aCaseError NB ND fI : Addr} {odI anI : Option Addr} {slI : Array (Option Value)} {kVI dcI pmI cdI ctI : Value} (X : K.In h) (G : h.Ns mainGlobals mg) (hfa : mg "law" = some (.ref fa))
    (a1 : PySem.W.nsIn K mainGlobals "ends_of" = some (some (.ref f1))) (l1 : K.lookup f1 = some ⟨oc1, od1, .func (PySem.W.fnOf "ends_of" "ends_of" (defArgs sEndsOf) (defBody sEndsOf) (defScope sEndsOf) .none kV1 dc1 pm1 an1 cd1 ct1), sl1⟩) (c1 : PySem.W.codeIn K cd1 "ends_of" = true) (k1 : PySem.W.keepIn K (.ref f1) = true)
    (a2 : PySem.W.nsIn K mainGlobals "holds" = some (some (.ref f2))) (l2 : K.lookup f2 = some ⟨oc2, od2, .func (PySem.W.fnOf "holds" "holds" (defArgs sHolds) (defBody sHolds) (defScope sHolds) .none kV2 dc2 pm2 an2 cd2 ct2), sl2⟩) (c2 : PySem.W.codeIn K cd2 "holds" = true) (k2 : PySem.W.keepIn K (.ref f2) = true)
    (a3 : PySem.W.nsIn K mainGlobals "row_behind" = some (some (.ref f3))) (l3 : K.lookup f3 = some ⟨oc3, od3, .func (PySem.W.fnOf "row_behind" "row_behind" (defArgs sRowBehind) (defBody sRowBehind) (defScope sRowBehind) .none kV3 dc3 pm3 an3 cd3 ct3), sl3⟩) (c3 : PySem.W.codeIn K cd3 "row_behind" = true) (k3 : PySem.W.keepIn K (.ref f3) = true)
    (a4 : PySem.W.nsIn K mainGlobals "run" = some (some (.ref f4))) (l4 : K.lookup f4 = some ⟨oc4, od4, .func (PySem.W.fnOf "run" "run" (defArgs sRun) (defBody sRun) (defScope sRun) .none kV4 dc4 pm4 an4 cd4 ct4), sl4⟩) (c4 : PySem.W.codeIn K cd4 "run" = true) (k4 : PySem.W.keepIn K (.ref f4) = true)
    (a5 : PySem.W.nsIn K mainGlobals "counted" = some (some (.ref f5))) (l5 : K.lookup f5 = some ⟨oc5, od5, .func (PySem.W.fnOf "counted" "counted" (defArgs sCounted) (defBody sCounted) (defScope sCounted) .none kV5 dc5 pm5 an5 cd5 ct5), sl5⟩) (c5 : PySem.W.codeIn K cd5 "counted" = true) (k5 : PySem.W.keepIn K (.ref f5) = true)
    (a6 : PySem.W.nsIn K mainGlobals "weighed" = some (some (.ref f6))) (l6 : K.lookup f6 = some ⟨oc6, od6, .func (PySem.W.fnOf "weighed" "weighed" (defArgs sWeighed) (defBody sWeighed) (defScope sWeighed) .none kV6 dc6 pm6 an6 cd6 ct6), sl6⟩) (c6 : PySem.W.codeIn K cd6 "weighed" = true) (k6 : PySem.W.keepIn K (.ref f6) = true)
    (a7 : PySem.W.nsIn K mainGlobals "_law_cell_at" = some (some (.ref f7))) (l7 : K.lookup f7 = some ⟨oc7, od7, .func (PySem.W.fnOf "_law_cell_at" "_law_cell_at" (defArgs sZCellAt) (defBody sZCellAt) (defScope sZCellAt) .none kV7 dc7 pm7 an7 cd7 ct7), sl7⟩) (c7 : PySem.W.codeIn K cd7 "_law_cell_at" = true) (k7 : PySem.W.keepIn K (.ref f7) = true)
    (a8 : PySem.W.nsIn K mainGlobals "_law_tape" = some (some (.ref f8))) (l8 : K.lookup f8 = some ⟨oc8, od8, .func (PySem.W.fnOf "_law_tape" "_law_tape" (defArgs sZTape) (defBody sZTape) (defScope sZTape) .none kV8 dc8 pm8 an8 cd8 ct8), sl8⟩) (c8 : PySem.W.codeIn K cd8 "_law_tape" = true) (k8 : PySem.W.keepIn K (.ref f8) = true)
    (a9 : PySem.W.nsIn K mainGlobals "_law_take" = some (some (.ref f9))) (l9 : K.lookup f9 = some ⟨oc9, od9, .func (PySem.W.fnOf "_law_take" "_law_take" (defArgs sZTake) (defBody sZTake) (defScope sZTake) .none kV9 dc9 pm9 an9 cd9 ct9), sl9⟩) (c9 : PySem.W.codeIn K cd9 "_law_take" = true) (k9 : PySem.W.keepIn K (.ref f9) = true)
    (a10 : PySem.W.nsIn K mainGlobals "_law_prices" = some (some (.ref f10))) (l10 : K.lookup f10 = some ⟨oc10, od10, .func (PySem.W.fnOf "_law_prices" "_law_prices" (defArgs sZPrices) (defBody sZPrices) (defScope sZPrices) .none kV10 dc10 pm10 an10 cd10 ct10), sl10⟩) (c10 : PySem.W.codeIn K cd10 "_law_prices" = true) (k10 : PySem.W.keepIn K (.ref f10) = true)
    (a11 : PySem.W.nsIn K mainGlobals "_law_same" = some (some (.ref f11))) (l11 : K.lookup f11 = some ⟨oc11, od11, .func (PySem.W.fnOf "_law_same" "_law_same" (defArgs sZSame) (defBody sZSame) (defScope sZSame) .none kV11 dc11 pm11 an11 cd11 ct11), sl11⟩) (c11 : PySem.W.codeIn K cd11 "_law_same" = true) (k11 : PySem.W.keepIn K (.ref f11) = true)
    (a12 : PySem.W.nsIn K mainGlobals "_law_word" = some (some (.ref f12))) (l12 : K.lookup f12 = some ⟨oc12, od12, .func (PySem.W.fnOf "_law_word" "_law_word" (defArgs sZWord) (defBody sZWord) (defScope sZWord) .none kV12 dc12 pm12 an12 cd12 ct12), sl12⟩) (c12 : PySem.W.codeIn K cd12 "_law_word" = true) (k12 : PySem.W.keepIn K (.ref f12) = true)
    (a13 : PySem.W.nsIn K mainGlobals "_law_rows" = some (some (.ref f13))) (l13 : K.lookup f13 = some ⟨oc13, od13, .func (PySem.W.fnOf "_law_rows" "_law_rows" (defArgs sZRows) (defBody sZRows) (defScope sZRows) .none kV13 dc13 pm13 an13 cd13 ct13), sl13⟩) (c13 : PySem.W.codeIn K cd13 "_law_rows" = true) (k13 : PySem.W.keepIn K (.ref f13) = true)
    (a14 : PySem.W.nsIn K mainGlobals "_law_behind" = some (some (.ref f14))) (l14 : K.lookup f14 = some ⟨oc14, od14, .func (PySem.W.fnOf "_law_behind" "_law_behind" (defArgs sZBehind) (defBody sZBehind) (defScope sZBehind) .none kV14 dc14 pm14 an14 cd14 ct14), sl14⟩) (c14 : PySem.W.codeIn K cd14 "_law_behind" = true) (k14 : PySem.W.keepIn K (.ref f14) = true)
    (a15 : PySem.W.nsIn K mainGlobals "_law_run" = some (some (.ref f15))) (l15 : K.lookup f15 = some ⟨oc15, od15, .func (PySem.W.fnOf "_law_run" "_law_run" (defArgs sZRun) (defBody sZRun) (defScope sZRun) .none kV15 dc15 pm15 an15 cd15 ct15), sl15⟩) (c15 : PySem.W.codeIn K cd15 "_law_run" = true) (k15 : PySem.W.keepIn K (.ref f15) = true)
    (a16 : PySem.W.nsIn K mainGlobals "_law_told" = some (some (.ref f16))) (l16 : K.lookup f16 = some ⟨oc16, od16, .func (PySem.W.fnOf "_law_told" "_law_told" (defArgs sZTold) (defBody sZTold) (defScope sZTold) .none kV16 dc16 pm16 an16 cd16 ct16), sl16⟩) (c16 : PySem.W.codeIn K cd16 "_law_told" = true) (k16 : PySem.W.keepIn K (.ref f16) = true)
    (a17 : PySem.W.nsIn K mainGlobals "_law_due" = some (some (.ref f17))) (l17 : K.lookup f17 = some ⟨oc17, od17, .func (PySem.W.fnOf "_law_due" "_law_due" (defArgs sZDue) (defBody sZDue) (defScope sZDue) .none kV17 dc17 pm17 an17 cd17 ct17), sl17⟩) (c17 : PySem.W.codeIn K cd17 "_law_due" = true) (k17 : PySem.W.keepIn K (.ref f17) = true)
    (a18 : PySem.W.nsIn K mainGlobals "law" = some (some (.ref f18))) (l18 : K.lookup f18 = some ⟨oc18, od18, .func (PySem.W.fnOf "law" "law" (defArgs sLaw) (defBody sLaw) (defScope sLaw) .none kV18 dc18 pm18 an18 cd18 ct18), sl18⟩) (c18 : PySem.W.codeIn K cd18 "law" = true) (k18 : PySem.W.keepIn K (.ref f18) = true)
    (z1 : PySem.W.nsIn K mainGlobals "ValueError" = some none)
    (z2 : PySem.W.nsIn K mainGlobals "abs" = some none)
    (z3 : PySem.W.nsIn K mainGlobals "all" = some none)
    (z4 : PySem.W.nsIn K mainGlobals "bool" = some none)
    (z5 : PySem.W.nsIn K mainGlobals "dict" = some none)
    (z6 : PySem.W.nsIn K mainGlobals "int" = some none)
    (z7 : PySem.W.nsIn K mainGlobals "isinstance" = some none)
    (z8 : PySem.W.nsIn K mainGlobals "len" = some none)
    (z9 : PySem.W.nsIn K mainGlobals "list" = some none)
    (z10 : PySem.W.nsIn K mainGlobals "min" = some none)
    (z11 : PySem.W.nsIn K mainGlobals "range" = some none)
    (z12 : PySem.W.nsIn K mainGlobals "repr" = some none)
    (z13 : PySem.W.nsIn K mainGlobals "str" = some none)
    (z14 : PySem.W.nsIn K mainGlobals "sum" = some none)
    (z15 : PySem.W.nsIn K mainGlobals "tuple" = some none)
    (z16 : PySem.W.nsIn K mainGlobals "zip" = some none)
    (t1 : PySem.W.nsIn K mainGlobals "TESTS" = some (some (.ref aTests))) (u1 : K.lookup aTests = some ⟨.type "tuple", none, .seq #[.str "is" kTests0, .str "within" kTests1, .str "below" kTests2, .str "mask" kTests3, .str "table" kTests4] nTests, slTests⟩)
    (xTwice : PySem.W.nsIn K mainGlobals "Twice" = some (some (.ref aTwice)))
    (xBeyond : PySem.W.nsIn K mainGlobals "Beyond" = some (some (.ref aBeyond)))
    (xTooNarrow : PySem.W.nsIn K mainGlobals "TooNarrow" = some (some (.ref aTooNarrow)))
    (xNoStretch : PySem.W.nsIn K mainGlobals "NoStretch" = some (some (.ref aNoStretch)))
    (xBadText : PySem.W.nsIn K mainGlobals "BadText" = some (some (.ref aBadText)))
    (xCaseError : PySem.W.nsIn K mainGlobals "CaseError" = some (some (.ref aCaseError)))
    (y1 : K.lookup aBeyond = some (excClassObj nmB qB aBeyond NB bsB (.ref aCaseError :: vbm) true snB subB abB colB ddB b0 b1 b2 b3 b5 "ValueError.__new__"))
    (y2 : K.lookup aCaseError = some (excClassObj nmD qD aCaseError ND bsD vbm hdD snD subD abD colD ddD e0 e1 e2 e3 e5 nidD))
    (y3 : PySem.W.nsIn K NB "__init__" = some (some (.ref fI)))
    (y4 : K.lookup fI = some ⟨.type "function", odI, .func (PySem.W.fnOf "__init__" "Beyond.__init__" (defArgs sBInit) (defBody sBInit) (defScope sBInit) .none kVI dcI pmI anI cdI ctI), slI⟩)
    (y5 : PySem.W.codeIn K cdI "Beyond.__init__" = true)
    (y6 : PySem.W.keepIn K (.ref fI) = true)
    (y7 : PySem.W.findIn K (.ref aBeyond) "__setattr__" = some (some (.builtin "object.__setattr__")))
    (y8 : PySem.W.findIn K (.ref aBeyond) "__getattribute__" = some (some (.builtin "BaseException.__getattribute__")))
    (y9 : PySem.W.findIn K (.ref aBeyond) "__getattr__" = some none)
    (y10 : PySem.W.findIn K (.ref aBeyond) "row" = some none)
    (y11 : PySem.W.readsIn K aCaseError (.type "type") = true)
    (y12 : PySem.W.specialIn K (.ref aCaseError) "__getattribute__" = some (some (.builtin "type.__getattribute__")))
    (y13 : PySem.W.findCls K (.ref aCaseError) (.type "type") "__init__" = some (.val (.builtin "ValueError.__init__")))
    (y14 : PySem.W.nsOkIn K NB = true)
    (y15 : PySem.W.tailIn K vbm (.ref aCaseError :: vbm) = true)
    (y16 : PySem.W.findIn K (.ref aBeyond) "__class__" = some (some (.builtin "object.__class__")))
    (y17 : PySem.W.specialIn K (.builtin "object.__class__") "__get__" = some (some (.builtin "getset_descriptor.__get__")))
    (y18 : PySem.W.takesIn K (.builtin "object.__class__") = some true)
    (y19 : PySem.W.mroIn K aBeyond (.type "object") = some true)
    (y20 : PySem.W.mroIn K aBeyond (.type "BaseException") = some true)
    (y21 : (PySem.W.clsIn K aBeyond).isSome = true)
    (z_1 : PySem.W.kitOne K (.ref aBeyond) (.ref aTwice) = some false)
    (z_2 : PySem.W.kitOne K (.ref aBeyond) (.ref aBeyond) = some true)
    (z_3 : PySem.W.kitOne K (.ref aBeyond) (.ref aTooNarrow) = some false)
    (z_4 : PySem.W.kitOne K (.ref aBeyond) (.ref aNoStretch) = some false)
    (z_5 : PySem.W.kitOne K (.ref aBeyond) (.ref aBadText) = some false)
    (z_6 : PySem.W.kitOne K (.ref aBeyond) (.type "ValueError") = some true) :
    ∃ fd : FuncData, (∀ (s : Shared) (v : Value), BindsTo s fd ⟨[v], []⟩ [("_law_script", v)]) ∧ ∀ base : Heap, K.In base → base.Ns mainGlobals mg → FnOk l.prog w K mg base CX0 7 fa fd ["_law_script"] (spLaw K) := by
  have e := hfa.symm.trans (PySem.W.mg_of X G a18)
  cases e
  have DEndsOf : Def1 K mg "ends_of" sEndsOf ["row"] _ _ := ⟨fun_mk (st := sEndsOf) l1 c1 k1, (fun_mk (st := sEndsOf) l1 c1 k1).binds (ps := ["row"]) fun _ _ _ _ _ _ us hl => by obtain ⟨z0, rfl⟩ := ln1 hl; rfl, PySem.W.mg_of X G a1⟩
  have DHolds : Def1 K mg "holds" sHolds ["row", "number"] _ _ := ⟨fun_mk (st := sHolds) l2 c2 k2, (fun_mk (st := sHolds) l2 c2 k2).binds (ps := ["row", "number"]) fun _ _ _ _ _ _ us hl => by obtain ⟨z0, z1, rfl⟩ := ln2 hl; rfl, PySem.W.mg_of X G a2⟩
  have DRowBehind : Def1 K mg "row_behind" sRowBehind ["rows", "at", "number"] _ _ := ⟨fun_mk (st := sRowBehind) l3 c3 k3, (fun_mk (st := sRowBehind) l3 c3 k3).binds (ps := ["rows", "at", "number"]) fun _ _ _ _ _ _ us hl => by obtain ⟨z0, z1, z2, rfl⟩ := ln3 hl; rfl, PySem.W.mg_of X G a3⟩
  have DRun : Def1 K mg "run" sRun ["rows", "number"] _ _ := ⟨fun_mk (st := sRun) l4 c4 k4, (fun_mk (st := sRun) l4 c4 k4).binds (ps := ["rows", "number"]) fun _ _ _ _ _ _ us hl => by obtain ⟨z0, z1, rfl⟩ := ln2 hl; rfl, PySem.W.mg_of X G a4⟩
  have DCounted : Def1 K mg "counted" sCounted ["rows", "numbers"] _ _ := ⟨fun_mk (st := sCounted) l5 c5 k5, (fun_mk (st := sCounted) l5 c5 k5).binds (ps := ["rows", "numbers"]) fun _ _ _ _ _ _ us hl => by obtain ⟨z0, z1, rfl⟩ := ln2 hl; rfl, PySem.W.mg_of X G a5⟩
  have DWeighed : Def1 K mg "weighed" sWeighed ["rows", "counts", "prices"] _ _ := ⟨fun_mk (st := sWeighed) l6 c6 k6, (fun_mk (st := sWeighed) l6 c6 k6).binds (ps := ["rows", "counts", "prices"]) fun _ _ _ _ _ _ us hl => by obtain ⟨z0, z1, z2, rfl⟩ := ln3 hl; rfl, PySem.W.mg_of X G a6⟩
  have DZCellAt : Def1 K mg "_law_cell_at" sZCellAt ["_law_script", "_law_k"] _ _ := ⟨fun_mk (st := sZCellAt) l7 c7 k7, (fun_mk (st := sZCellAt) l7 c7 k7).binds (ps := ["_law_script", "_law_k"]) fun _ _ _ _ _ _ us hl => by obtain ⟨z0, z1, rfl⟩ := ln2 hl; rfl, PySem.W.mg_of X G a7⟩
  have DZTape : Def1 K mg "_law_tape" sZTape ["_law_script", "_law_k"] _ _ := ⟨fun_mk (st := sZTape) l8 c8 k8, (fun_mk (st := sZTape) l8 c8 k8).binds (ps := ["_law_script", "_law_k"]) fun _ _ _ _ _ _ us hl => by obtain ⟨z0, z1, rfl⟩ := ln2 hl; rfl, PySem.W.mg_of X G a8⟩
  have DZTake : Def1 K mg "_law_take" sZTake ["_law_tape_here", "_law_many"] _ _ := ⟨fun_mk (st := sZTake) l9 c9 k9, (fun_mk (st := sZTake) l9 c9 k9).binds (ps := ["_law_tape_here", "_law_many"]) fun _ _ _ _ _ _ us hl => by obtain ⟨z0, z1, rfl⟩ := ln2 hl; rfl, PySem.W.mg_of X G a9⟩
  have DZPrices : Def1 K mg "_law_prices" sZPrices ["_law_tape_here", "_law_many"] _ _ := ⟨fun_mk (st := sZPrices) l10 c10 k10, (fun_mk (st := sZPrices) l10 c10 k10).binds (ps := ["_law_tape_here", "_law_many"]) fun _ _ _ _ _ _ us hl => by obtain ⟨z0, z1, rfl⟩ := ln2 hl; rfl, PySem.W.mg_of X G a10⟩
  have DZSame : Def1 K mg "_law_same" sZSame ["_law_found", "_law_due_here"] _ _ := ⟨fun_mk (st := sZSame) l11 c11 k11, (fun_mk (st := sZSame) l11 c11 k11).binds (ps := ["_law_found", "_law_due_here"]) fun _ _ _ _ _ _ us hl => by obtain ⟨z0, z1, rfl⟩ := ln2 hl; rfl, PySem.W.mg_of X G a11⟩
  have DZWord : Def1 K mg "_law_word" sZWord ["_law_caught"] _ _ := ⟨fun_mk (st := sZWord) l12 c12 k12, (fun_mk (st := sZWord) l12 c12 k12).binds (ps := ["_law_caught"]) fun _ _ _ _ _ _ us hl => by obtain ⟨z0, rfl⟩ := ln1 hl; rfl, PySem.W.mg_of X G a12⟩
  have DZRows : Def1 K mg "_law_rows" sZRows ["_law_tape_here", "_law_many"] _ _ := ⟨fun_mk (st := sZRows) l13 c13 k13, (fun_mk (st := sZRows) l13 c13 k13).binds (ps := ["_law_tape_here", "_law_many"]) fun _ _ _ _ _ _ us hl => by obtain ⟨z0, z1, rfl⟩ := ln2 hl; rfl, PySem.W.mg_of X G a13⟩
  have DZBehind : Def1 K mg "_law_behind" sZBehind ["_law_rows_here", "_law_at", "_law_number"] _ _ := ⟨fun_mk (st := sZBehind) l14 c14 k14, (fun_mk (st := sZBehind) l14 c14 k14).binds (ps := ["_law_rows_here", "_law_at", "_law_number"]) fun _ _ _ _ _ _ us hl => by obtain ⟨z0, z1, z2, rfl⟩ := ln3 hl; rfl, PySem.W.mg_of X G a14⟩
  have DZRun : Def1 K mg "_law_run" sZRun ["_law_rows_here", "_law_number"] _ _ := ⟨fun_mk (st := sZRun) l15 c15 k15, (fun_mk (st := sZRun) l15 c15 k15).binds (ps := ["_law_rows_here", "_law_number"]) fun _ _ _ _ _ _ us hl => by obtain ⟨z0, z1, rfl⟩ := ln2 hl; rfl, PySem.W.mg_of X G a15⟩
  have DZTold : Def1 K mg "_law_told" sZTold ["_law_rows_here", "_law_numbers"] _ _ := ⟨fun_mk (st := sZTold) l16 c16 k16, (fun_mk (st := sZTold) l16 c16 k16).binds (ps := ["_law_rows_here", "_law_numbers"]) fun _ _ _ _ _ _ us hl => by obtain ⟨z0, z1, rfl⟩ := ln2 hl; rfl, PySem.W.mg_of X G a16⟩
  have DZDue : Def1 K mg "_law_due" sZDue ["_law_rows_here", "_law_numbers"] _ _ := ⟨fun_mk (st := sZDue) l17 c17 k17, (fun_mk (st := sZDue) l17 c17 k17).binds (ps := ["_law_rows_here", "_law_numbers"]) fun _ _ _ _ _ _ us hl => by obtain ⟨z0, z1, rfl⟩ := ln2 hl; rfl, PySem.W.mg_of X G a17⟩
  have DLaw : Def1 K mg "law" sLaw ["_law_script"] _ _ := ⟨fun_mk (st := sLaw) l18 c18 k18, (fun_mk (st := sLaw) l18 c18 k18).binds (ps := ["_law_script"]) fun _ _ _ _ _ _ us hl => by obtain ⟨z0, rfl⟩ := ln1 hl; rfl, PySem.W.mg_of X G a18⟩
  have cgTests : mg "TESTS" = some (.ref aTests) := PySem.W.mg_of X G t1
  have ktTests : KTup K aTests ([("is" : Str), ("within" : Str), ("below" : Str), ("mask" : Str), ("table" : Str)].map V.str) := ⟨_, _, _, u1, rfl, rfl, rfl, sl_le (show 5 ≤ 9000 by decide), (.cons ⟨_, rfl⟩ (.cons ⟨_, rfl⟩ (.cons ⟨_, rfl⟩ (.cons ⟨_, rfl⟩ (.cons ⟨_, rfl⟩ .nil)))))⟩
  have hB : ∀ x : Str, x ∈ BLs → mg x = none := by
    intro x hx
    replace hx : x ∈ (["ValueError", "abs", "all", "bool", "dict", "int", "isinstance", "len", "list", "min", "range", "repr", "str", "sum", "tuple", "zip"] : List Str) := hx
    simp only [List.mem_cons, List.not_mem_nil, or_false] at hx
    rcases hx with rfl | rfl | rfl | rfl | rfl | rfl | rfl | rfl | rfl | rfl | rfl | rfl | rfl | rfl | rfl | rfl
    · exact PySem.W.mg_none_of X G z1
    · exact PySem.W.mg_none_of X G z2
    · exact PySem.W.mg_none_of X G z3
    · exact PySem.W.mg_none_of X G z4
    · exact PySem.W.mg_none_of X G z5
    · exact PySem.W.mg_none_of X G z6
    · exact PySem.W.mg_none_of X G z7
    · exact PySem.W.mg_none_of X G z8
    · exact PySem.W.mg_none_of X G z9
    · exact PySem.W.mg_none_of X G z10
    · exact PySem.W.mg_none_of X G z11
    · exact PySem.W.mg_none_of X G z12
    · exact PySem.W.mg_none_of X G z13
    · exact PySem.W.mg_none_of X G z14
    · exact PySem.W.mg_none_of X G z15
    · exact PySem.W.mg_none_of X G z16
  refine ⟨PySem.W.fnOf "law" "law" (defArgs sLaw) (defBody sLaw) (defScope sLaw) .none kV18 dc18 pm18 an18 cd18 ct18, fun s v => .of_eq rfl, fun base kb nb => ?_⟩
  have CCell := DZCellAt.cal (ok_cell (P := l.prog) (w := w) (base := base) hB DZCellAt.fn)
  have CTape := DZTape.cal (ok_tape hB CCell DZTape.fn)
  have CTake0 := DZTake.cal (take_none (P := l.prog) (w := w) (mg := mg) (base := base))
  have CTake1 := DZTake.cal (ok_take (n := 0) hB (by decide) CTake0 DZTake.fn)
  have CTake2 := DZTake.cal (ok_take (n := 1) hB (by decide) CTake1 DZTake.fn)
  have CSame0 := DZSame.cal (same_none (P := l.prog) (w := w) (mg := mg) (base := base))
  have CSame1 := DZSame.cal (ok_same (n := 0) hB CSame0 DZSame.fn)
  have CSame2 := DZSame.cal (ok_same (n := 1) hB CSame1 DZSame.fn)
  have CSame := DZSame.cal (ok_same (n := 2) hB CSame2 DZSame.fn)
  have CEnds := DEndsOf.cal (ok_ends (P := l.prog) (w := w) (base := base) hB DEndsOf.fn)
  have CHolds := DHolds.cal (ok_holds (P := l.prog) (w := w) (base := base) hB DHolds.fn)
  have XC : XCls K aBeyond aCaseError NB fI := ⟨⟨_, _, _, _, _, _, _, _, _, _, _, _, _, y1⟩, y15, y14, y3, y7, y8, y9⟩
  have XD : XBase K aCaseError := ⟨y11, y12, y13⟩
  have XT : XTop K aCaseError ND := ⟨⟨_, _, _, _, _, _, _, _, _, _, _, _, _, _, _, y2⟩⟩
  have Z : XIs K aBeyond := ⟨y8, y9, y16, y17, y18, y19, y20, y21⟩
  have cD := PySem.W.mg_of X G xCaseError
  have FI := fun_mk (st := sBInit) y4 y5 y6
  have CInit := ok_binit (P := l.prog) (w := w) (base := base) XC XD cD y10 FI
  have XB : XCal l.prog w K mg base "Beyond" aBeyond aCaseError 1 ["self", "row"] (spXInit aBeyond "row") := ⟨NB, fI, _, XC, CInit, FI.binds (ps := ["self", "row"]) fun _ _ _ _ _ _ us hl => by obtain ⟨z0, z1, rfl⟩ := ln2 hl; rfl, ⟨_, y4, rfl⟩, PySem.W.mg_of X G xBeyond⟩
  have CBeh := DRowBehind.cal1 (ok_rbehind hB XB CEnds CHolds DRowBehind.fn)
  have CRun := DRun.cal1 (ok_run hB CBeh DRun.fn)
  have CLBeh := DZBehind.cal (ok_lbehind (P := l.prog) (w := w) (base := base) hB DZBehind.fn)
  have CLRun := DZRun.cal (ok_lrun hB CLBeh DZRun.fn)
  have CRows := DZRows.cal (ok_rows hB CTake2 DZRows.fn)
  have CWord := DZWord.cal (ok_word (P := l.prog) (w := w) (base := base) hB XC Z (PySem.W.mg_of X G xTwice) (PySem.W.mg_of X G xBeyond) (PySem.W.mg_of X G xTooNarrow) (PySem.W.mg_of X G xNoStretch) (PySem.W.mg_of X G xBadText) z_1 z_2 z_3 z_4 z_5 z_6 y10 DZWord.fn)
  have CCtd := DCounted.cal1 (ok_counted hB CRun DCounted.fn)
  have CTold := DZTold.cal (ok_told hB XC XT cD CCtd CWord DZTold.fn)
  have CDue := DZDue.cal (ok_due hB CLRun DZDue.fn)
  have CPr := DZPrices.cal (ok_prices hB CTake2 DZPrices.fn)
  have CWgh := DWeighed.cal (ok_weighed (P := l.prog) (w := w) (base := base) hB cgTests ktTests DWeighed.fn)
  exact ok_law hB CTape CTake2 CRows CPr CLRun CSame CTold CDue CCtd.cal0 CWgh DLaw.fn
theorem walk {l : PySem.W.OpenLaw} {q : Program} {loose : List Str} {XP : (Str → Option Value) → Heap → Prop} {YP : World → Heap → Prop} {d : DefRec} {K : Params → PySem.W.Frag} (hn : l.most = some 63) (hdf : d.params.defaults = [])
    (hY : ∀ (w : World) (h : Heap), YP w h → (K w.params).In h)
    (F : ∀ (w : World) (mg : Str → Option Value) (fa : Addr) (h : Heap), (K w.params).In h → h.Ns mainGlobals mg → mg d.name = some (.ref fa) →
      ∃ fd : FuncData, (∀ (s : Shared) (u : Value), BindsTo s fd ⟨[u], []⟩ [("_law_script", u)]) ∧ ∀ base : Heap, (K w.params).In base → base.Ns mainGlobals mg → FnOk l.prog w (K w.params) mg base CX0 7 fa fd ["_law_script"] (spLaw (K w.params))) :
    PySem.W.WalkO q loose XP YP l.row.toRowW d [] (fun f vs => PySem.call f vs) :=
  L2.walk_of (n := 63) (k := 7) (x := "_law_script") (CX := fun _ => CX0) (sp := fun w => spLaw (K w.params)) hn (by decide) hdf ⟨rfl, by decide, by decide, rfl⟩ hY F (fun _ _ a ns hl _ hS => ⟨a, ns, rfl, hS, hl, fun _ => rfl⟩) fun _ _ _ _ _ z => z
end K44
open PySem PySem.W PyProof.Rows
set_option maxRecDepth 100000 in
set_option maxHeartbeats 0 in
theorem PySem.Challenge.cw_caseways_k44_rows_counted_and_weighed_holds : PySem.Challenge.rw_caseways_k44_rows_counted_and_weighed.Holds := by
  w_on; o_law; k_head; (case hw => w_witness2)
  k_fill
  refine K44.walk (l := PySem.Challenge.rw_caseways_k44_rows_counted_and_weighed) rfl rfl (fun w h Y => PySem.W.kIn_of Y) ?F
  case F =>
    intro w mg fa h KX G hmg
    refine' K44.all_mk KX G hmg ?a1 ?l1 ?c1 ?k1 ?a2 ?l2 ?c2 ?k2 ?a3 ?l3 ?c3 ?k3 ?a4 ?l4 ?c4 ?k4 ?a5 ?l5 ?c5 ?k5 ?a6 ?l6 ?c6 ?k6 ?a7 ?l7 ?c7 ?k7 ?a8 ?l8 ?c8 ?k8 ?a9 ?l9 ?c9 ?k9 ?a10 ?l10 ?c10 ?k10 ?a11 ?l11 ?c11 ?k11 ?a12 ?l12 ?c12 ?k12 ?a13 ?l13 ?c13 ?k13 ?a14 ?l14 ?c14 ?k14 ?a15 ?l15 ?c15 ?k15 ?a16 ?l16 ?c16 ?k16 ?a17 ?l17 ?c17 ?k17 ?a18 ?l18 ?c18 ?k18 ?z1 ?z2 ?z3 ?z4 ?z5 ?z6 ?z7 ?z8 ?z9 ?z10 ?z11 ?z12 ?z13 ?z14 ?z15 ?z16 ?t1 ?u1 ?xTwice ?xBeyond ?xTooNarrow ?xNoStretch ?xBadText ?xCaseError ?y1 ?y2 ?y3 ?y4 ?y5 ?y6 ?y7 ?y8 ?y9 ?y10 ?y11 ?y12 ?y13 ?y14 ?y15 ?y16 ?y17 ?y18 ?y19 ?y20 ?y21 ?z_1 ?z_2 ?z_3 ?z_4 ?z_5 ?z_6
    (case a1 => k_is)
    (case l1 => k_is)
    (case c1 => k_is)
    (case k1 => k_is)
    (case a2 => k_is)
    (case l2 => k_is)
    (case c2 => k_is)
    (case k2 => k_is)
    (case a3 => k_is)
    (case l3 => k_is)
    (case c3 => k_is)
    (case k3 => k_is)
    (case a4 => k_is)
    (case l4 => k_is)
    (case c4 => k_is)
    (case k4 => k_is)
    (case a5 => k_is)
    (case l5 => k_is)
    (case c5 => k_is)
    (case k5 => k_is)
    (case a6 => k_is)
    (case l6 => k_is)
    (case c6 => k_is)
    (case k6 => k_is)
    (case a7 => k_is)
    (case l7 => k_is)
    (case c7 => k_is)
    (case k7 => k_is)
    (case a8 => k_is)
    (case l8 => k_is)
    (case c8 => k_is)
    (case k8 => k_is)
    (case a9 => k_is)
    (case l9 => k_is)
    (case c9 => k_is)
    (case k9 => k_is)
    (case a10 => k_is)
    (case l10 => k_is)
    (case c10 => k_is)
    (case k10 => k_is)
    (case a11 => k_is)
    (case l11 => k_is)
    (case c11 => k_is)
    (case k11 => k_is)
    (case a12 => k_is)
    (case l12 => k_is)
    (case c12 => k_is)
    (case k12 => k_is)
    (case a13 => k_is)
    (case l13 => k_is)
    (case c13 => k_is)
    (case k13 => k_is)
    (case a14 => k_is)
    (case l14 => k_is)
    (case c14 => k_is)
    (case k14 => k_is)
    (case a15 => k_is)
    (case l15 => k_is)
    (case c15 => k_is)
    (case k15 => k_is)
    (case a16 => k_is)
    (case l16 => k_is)
    (case c16 => k_is)
    (case k16 => k_is)
    (case a17 => k_is)
    (case l17 => k_is)
    (case c17 => k_is)
    (case k17 => k_is)
    (case a18 => k_is)
    (case l18 => k_is)
    (case c18 => k_is)
    (case k18 => k_is)
    (case z1 => k_is)
    (case z2 => k_is)
    (case z3 => k_is)
    (case z4 => k_is)
    (case z5 => k_is)
    (case z6 => k_is)
    (case z7 => k_is)
    (case z8 => k_is)
    (case z9 => k_is)
    (case z10 => k_is)
    (case z11 => k_is)
    (case z12 => k_is)
    (case z13 => k_is)
    (case z14 => k_is)
    (case z15 => k_is)
    (case z16 => k_is)
    (case t1 => k_is)
    (case u1 => k_is)
    (case xTwice => first | k_is | rfl | (with_unfolding_all rfl) | decide +kernel)
    (case xBeyond => first | k_is | rfl | (with_unfolding_all rfl) | decide +kernel)
    (case xTooNarrow => first | k_is | rfl | (with_unfolding_all rfl) | decide +kernel)
    (case xNoStretch => first | k_is | rfl | (with_unfolding_all rfl) | decide +kernel)
    (case xBadText => first | k_is | rfl | (with_unfolding_all rfl) | decide +kernel)
    (case xCaseError => first | k_is | rfl | (with_unfolding_all rfl) | decide +kernel)
    (case y1 => first | k_is | rfl | (with_unfolding_all rfl) | decide +kernel)
    (case y2 => first | k_is | rfl | (with_unfolding_all rfl) | decide +kernel)
    (case y3 => first | k_is | rfl | (with_unfolding_all rfl) | decide +kernel)
    (case y4 => first | k_is | rfl | (with_unfolding_all rfl) | decide +kernel)
    (case y5 => first | k_is | rfl | (with_unfolding_all rfl) | decide +kernel)
    (case y6 => first | k_is | rfl | (with_unfolding_all rfl) | decide +kernel)
    (case y7 => first | k_is | rfl | (with_unfolding_all rfl) | decide +kernel)
    (case y8 => first | k_is | rfl | (with_unfolding_all rfl) | decide +kernel)
    (case y9 => first | k_is | rfl | (with_unfolding_all rfl) | decide +kernel)
    (case y10 => first | k_is | rfl | (with_unfolding_all rfl) | decide +kernel)
    (case y11 => first | k_is | rfl | (with_unfolding_all rfl) | decide +kernel)
    (case y12 => first | k_is | rfl | (with_unfolding_all rfl) | decide +kernel)
    (case y13 => first | k_is | rfl | (with_unfolding_all rfl) | decide +kernel)
    (case y14 => first | k_is | rfl | (with_unfolding_all rfl) | decide +kernel)
    (case y15 => first | k_is | rfl | (with_unfolding_all rfl) | decide +kernel)
    (case y16 => first | k_is | rfl | (with_unfolding_all rfl) | decide +kernel)
    (case y17 => first | k_is | rfl | (with_unfolding_all rfl) | decide +kernel)
    (case y18 => first | k_is | rfl | (with_unfolding_all rfl) | decide +kernel)
    (case y19 => first | k_is | rfl | (with_unfolding_all rfl) | decide +kernel)
    (case y20 => first | k_is | rfl | (with_unfolding_all rfl) | decide +kernel)
    (case y21 => first | k_is | rfl | (with_unfolding_all rfl) | decide +kernel)
    (case z_1 => first | k_is | rfl | (with_unfolding_all rfl) | decide +kernel)
    (case z_2 => first | k_is | rfl | (with_unfolding_all rfl) | decide +kernel)
    (case z_3 => first | k_is | rfl | (with_unfolding_all rfl) | decide +kernel)
    (case z_4 => first | k_is | rfl | (with_unfolding_all rfl) | decide +kernel)
    (case z_5 => first | k_is | rfl | (with_unfolding_all rfl) | decide +kernel)
    (case z_6 => first | k_is | rfl | (with_unfolding_all rfl) | decide +kernel)
#print axioms PySem.Challenge.cw_caseways_k44_rows_counted_and_weighed_holds
