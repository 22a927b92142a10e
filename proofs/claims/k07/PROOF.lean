import PyProof.Rows.All
import Wide.All
import OpenK.AllK
import Wide.FinOn
import Lean
import PyProof.EqAt
import PyProof.EqKinds
import PyProof.TupleCall
import PyProof.NeData
import PySem.Challenge.RW_caseways_k07_dead_cases_told
local macro_rules | `(tactic| omega) => `(tactic| first | with_reducible assumption | lia | omega +splitDisjunctions)
set_option Elab.async false
set_option linter.all false
set_option maxRecDepth 100000
theorem ω {p : Prop} (h : p := by omega) : p := h
theorem δ {p : Prop} (h : p := by decide) : p := h
theorem ψ {p : Prop} (h : p := by decide +kernel) : p := h
namespace L2
open PySem PySem.Spec PyProof.Rows
abbrev Key:=Sum Int Str
def xj:Key->Value->Bool
 | .inl k,v=>Value.isInt k v
 | .inr x,v=>Value.isStrOf x v
def Zm (w:World):Key->Int
 | .inl k=>hashInt k
 | .inr x=>hashStr w x
theorem dh:∀ {k:Key}{v:Value},xj k v=true->(∃ i t,k=Sum.inl i/\v=Value.int i t)\/(∃ x t,k=Sum.inr x/\v=Value.str x t)
 | .inl i,v,h=>by
  obtain ⟨t,e⟩:=Value.isInt_shape (k:=i) (v:=v) h
  exact .inl ⟨i,t,rfl,e⟩
 | .inr x,v,h=>by
  obtain ⟨t,e⟩:=Value.isStrOf_shape (x:=x) (v:=v) h
  exact .inr ⟨x,t,rfl,e⟩
theorem Ja (i:Int) (t:Tok):xj (.inl i) (.int i t)=true:=by simp [xj,Value.isInt]
theorem IW (x:Str) (t:Tok):xj (.inr x) (.str x t)=true:=by simp [xj,Value.isStrOf]
theorem Xg (a b:Int):decide ((Sum.inl a:Key)=Sum.inl b)=(a == b):=by
 by_cases e:a=b
 ·subst e; simp
 ·have h:¬ (Sum.inl a:Key)=Sum.inl b:=fun q=>e (Sum.inl.inj q)
  rw[decide_eq_false h]
  exact (beq_eq_false_iff_ne.mpr e).symm
theorem Xd (a b:Str):decide ((Sum.inr a:Key)=Sum.inr b)=decide (a=b):=by
 by_cases e:a=b
 ·subst e; simp
 ·have h:¬ (Sum.inr a:Key)=Sum.inr b:=fun q=>e (Sum.inr.inj q)
  rw[decide_eq_false h,decide_eq_false e]
theorem Xf (a:Int) (b:Str):decide ((Sum.inl a:Key)=Sum.inr b)=false:=decide_eq_false (fun q=>nomatch q)
theorem Xe (a:Str) (b:Int):decide ((Sum.inr a:Key)=Sum.inl b)=false:=decide_eq_false (fun q=>nomatch q)
def b8 (prog:Program) (w:World):PySem.KeyKind prog w Key where
 is:=xj
 hash:=Zm w
 inj:=fun v a b ha hb=>by
  rcases dh ha with ⟨i,t,rfl,rfl⟩ | ⟨x,t,rfl,rfl⟩
  ·rcases dh hb with ⟨j,u,rfl,e⟩ | ⟨y,u,rfl,e⟩
   ·injection e with e1 _; rw[e1]
   ·exact nomatch e
  ·rcases dh hb with ⟨j,u,rfl,e⟩ | ⟨y,u,rfl,e⟩
   ·exact nomatch e
   ·injection e with e1 _; rw[e1]
 byValue:=fun k v h=>by
  rcases dh h with ⟨i,t,rfl,rfl⟩ | ⟨x,t,rfl,rfl⟩ <;> rfl
 pyHash:=fun hv h=>by
  rcases dh hv with ⟨i,t,rfl,rfl⟩ | ⟨x,t,rfl,rfl⟩
  ·exact wpAny_pyHash_int h
  ·exact wpAny_pyHash_str h
 eqBool:=fun hu hv h=>by
  rcases dh hu with ⟨i,t,rfl,rfl⟩ | ⟨x,t,rfl,rfl⟩
  ·rcases dh hv with ⟨j,u,rfl,rfl⟩ | ⟨y,u,rfl,rfl⟩
   ·rw[Xg] at h; exact wpAny_eqBool_int h
   ·rw[Xf] at h; exact SeqAt.EqAt.int_str i t y u _ _ _ _ h
  ·rcases dh hv with ⟨j,u,rfl,rfl⟩ | ⟨y,u,rfl,rfl⟩
   ·rw[Xe] at h; exact SeqAt.EqAt.str_int x t j u _ _ _ _ h
   ·rw[Xd] at h; exact wpAny_eqBool_str h
 «strs»:=fun k x t v h=>by
  rcases dh h with ⟨i,u,rfl,e⟩ | ⟨y,u,rfl,e⟩
  ·exact nomatch e
  ·injection e with e1 _
   subst e1
   cases v <;> rfl
theorem Bj (prog:Program) (w:World) (i:Int) (t:Tok):(b8 prog w).is (.inl i) (.int i t)=true:=Ja i t
theorem Bh (prog:Program) (w:World) (x:Str) (t:Tok):(b8 prog w).is (.inr x) (.str x t)=true:=IW x t
inductive V where
 | non | bl (b:Bool) | int (i:Int) | str (x:Str) | byt (b:Array UInt8) | flt (b:UInt64) | ref (a:Addr) | ty (n:String)
 deriving DecidableEq
def RelV:V->Value->Prop
 | .non,u=>u=Value.none
 | .bl b,u=>u=Value.bool b
 | .int i,u=>∃ t,u=Value.int i t
 | .str x,u=>∃ t,u=Value.str x t
 | .byt b,u=>∃ t,u=Value.bytes b t
 | .flt b,u=>∃ t,u=Value.float b t
 | .ref a,u=>u=Value.ref a
 | .ty n,u=>u=Value.type n
abbrev Vals:List V->List Value->Prop:=Paired RelV
theorem Vals.length {xs:List V}{us:List Value}(r:Vals xs us):xs.length=us.length:=Paired.length r
theorem Vals.get:∀ {xs:List V}{us:List Value}{i:Nat}{x:V},Vals xs us->xs[i]?=some x->∃ u,us[i]?=some u/\RelV x u
 | _,_,_,_,.nil,e=>by simp at e
 | _,_,0,_,.cons r _,e=>by simp at e; subst e; exact ⟨_,rfl,r⟩
 | _,_,i + 1,x,.cons _ t,e=>by
  obtain ⟨u,h1,h2⟩:=Vals.get (i:=i) (x:=x) t (by simpa using e)
  exact ⟨u,by simpa using h1,h2⟩
theorem Vals.set {x:V}{u:Value}(r:RelV x u):∀ {xs:List V}{us:List Value}(i:Nat),Vals xs us->Vals (xs.set i x) (us.set i u)
 | _,_,_,.nil=>.nil
 | _,_,0,.cons _ t=>.cons r t
 | _,_,i + 1,.cons q t=>.cons q (Vals.set r i t)
theorem Vals.append:∀ {xs ys:List V}{us ws:List Value},Vals xs us->Vals ys ws->Vals (xs ++ ys) (us ++ ws)
 | _,_,_,_,.nil,s=>s
 | _,_,_,_,.cons r t,s=>.cons r (Vals.append t s)
theorem Vals.take:∀ {xs:List V}{us:List Value}(n:Nat),Vals xs us->Vals (xs.take n) (us.take n)
 | _,_,0,_=>.nil
 | _,_,_ + 1,.nil=>.nil
 | _,_,n + 1,.cons r t=>.cons r (Vals.take n t)
theorem Vals.drop:∀ {xs:List V}{us:List Value}(n:Nat),Vals xs us->Vals (xs.drop n) (us.drop n)
 | _,_,0,r=>r
 | _,_,_ + 1,.nil=>.nil
 | _,_,n + 1,.cons _ t=>Vals.drop n t
theorem Vals.none_of:∀ {xs:List V}{us:List Value}{i:Nat},Vals xs us->xs[i]?=none->us[i]?=none:=fun {xs us i} r e=>by
 have h1:=r.length
 have h2:xs.length<=i:=List.getElem?_eq_none_iff.mp e
 exact List.getElem?_eq_none_iff.mpr ω
def zH:Option V->Option Value->Prop
 | some v,some u=>RelV v u
 | none,none=>True
 | _,_=>False
def KV {κ:Type}:List (κ×V)->List (κ×Value)->Prop:=Paired fun (p:κ×V) (q:κ×Value)=>p.1=q.1/\RelV p.2 q.2
def kV:Key->V
 | .inl i=>.int i
 | .inr x=>.str x
inductive HO where
 /-- a list -/
 | lst (xs:List V)
 /-- a tuple (never changes) -/
 | tup (xs:List V)
 /-- a dict whose keys are ints and texts; one whose keys are tuples of ints and texts (the empty one is both) -/
 | dK (kvs:List (Key×V)) | dT (kvs:List (List Key×V))
 /-- a set of ints: its members,its size -/
 | set (S:Int->Bool) (n:Nat)
 /-- an instance of the class at C,its dict at dx,its attributes -/
 | ins (C dx:Addr) (fs:List (Str×V))
 /-- the dict of the instance at x -/
 | own (x:Addr)
 /-- the dict of an exception -/
 | xd (fs:List (Str×V))
 /-- a bound method,f of x -/
 | met (f x:Addr)
 /-- a range object lo,lo + 1,.. below hi -/
 | rng (lo hi:Int)
 /-- a thing that is known to the object (the script; a dict while a loop walks it): read,never written while it is so -/
 | frz (o:Obj) (u:HO)
 /-- a code object's table -/
 | tbl (ps:Array Value)
 /-- any other thing,by what is true of its one object (a def of one's own: SetO a S n:=HO.ext fun h=>..) -/
 | ext (φ:Heap->Prop)
abbrev Hp:=Addr->Option HO
def upd (H:Hp) (a:Addr) (o:HO):Hp:=fun b=>if b=a then some o else H b
theorem aB {H:Hp}{a:Addr}{o:HO}:upd H a o a=some o:=by unfold upd; rw[if_pos rfl]
theorem aH {H:Hp}{a b:Addr}{o:HO}(h:b≠a):upd H a o b=H b:=by unfold upd; rw[if_neg h]
theorem aF {H:Hp}{a b:Addr}{o:HO}(h:H a=some o) (h':H b=none):a≠b:=by
 intro e; subst e; rw[h] at h'; cases h'
section
variable (P:Program) (w:World)
def cA (H:Hp) (h:Heap) (a:Addr):HO->Prop
 | .lst xs=>xs.length<=sizeLine/\∃ (its:List Value) (n:Nat),Vals xs its/\h.get? a=some { cls:=.type "list",data:=.seq its.toArray n }
 | .tup xs=>xs.length<=sizeLine/\∃ its:List Value,Vals xs its/\IsTup h a its.toArray
 | .dK kvs=>kvs.length<=sizeLine/\(a == sysModules)=false/\∃ vs,KV kvs vs/\h.DictOf (b8 P w) a vs
 | .dT kvs=>kvs.length<=sizeLine/\(a == sysModules)=false/\∃ xs:List (List Key×Addr×Value),
   Paired (fun (p:List Key×V) (q:List Key×Addr×Value)=>p.1=q.1/\H q.2.1=some (.tup (p.1.map kV))/\RelV p.2 q.2.2) kvs xs /\
   ∃ o es ep,h.get? a=some o/\o.ExactDict/\o.data=.dict es ep/\es.toList=xs.map (entryOfKey (tupleKind (b8 P w)))/\(xs.map (·.1)).Nodup
 | .set S n=>h.SetOf (intKind P w) a S n
 | .ins C dx fs=>H dx=some (.own a)/\fs.length<=1000/\dx≠a/\h.get? a=some (PySem.W.instObj C dx) /\
   ∃ mA,h.Ns1 dx mA/\(∀ f,zH (fs.lookup f) (mA f))/\PySem.Within mA (fs.map (·.1))
 | .own _=>∃ o,h.get? a=some o
 | .xd fs=>∃ mA,h.Ns1 a mA/\∀ f,zH (fs.lookup f) (mA f)
 | .rng lo hi=>∃ t u v,h.get? a=some { cls:=.type "range",data:=.fields #[.int lo t,.int hi u,.int 1 v] }
 | .frz o u=>h.get? a=some o/\cA H h a u
 | .tbl ps=>h.get? a=some { cls:=.none,data:=.fields ps }
 | .met f x=>h.get? a=some (PySem.W.methodObj (.ref f) (.ref x))
 | .ext φ=>φ h/\(∃ o,h.get? a=some o)/\∀ h1 h2:Heap,φ h1->(∀ o,h1.get? a=some o->h2.get? a=some o)->φ h2
def HOk (H:Hp) (h:Heap):Prop:=∀ a o,H a=some o->cA P w H h a o
end
section
variable {P:Program}{w:World}{H H':Hp}{h h':Heap}{a:Addr}{o:HO}
theorem cA.lt (x:cA P w H h a o):a < h.objs.size:=by
 cases o with
 | lst xs=>obtain ⟨_,_,_,_,e⟩:=x; exact Heap.lt_size e
 | tup xs=>obtain ⟨_,_,_,p⟩:=x; exact p.lt
 | dK kvs=>obtain ⟨_,_,_,_,o,_,_,e,_⟩:=x; exact Heap.lt_size e
 | dT kvs=>obtain ⟨_,_,_,_,o,_,_,e,_⟩:=x; exact Heap.lt_size e
 | set S n=>obtain ⟨o,_,_,_,e,_⟩:=x; exact Heap.lt_size e
 | ins C dx fs=>obtain ⟨_,_,_,e,_⟩:=x; exact Heap.lt_size e
 | own y=>obtain ⟨_,e⟩:=x; exact Heap.lt_size e
 | xd fs=>obtain ⟨_,⟨_,_,_,e,_⟩,_⟩:=x; exact Heap.lt_size e
 | rng lo hi=>obtain ⟨_,_,_,e⟩:=x; exact Heap.lt_size e
 | frz ob u=>obtain ⟨e,_⟩:=x; exact Heap.lt_size e
 | tbl ps=>exact Heap.lt_size (show h.get? a=some _ from x)
 | met f y=>exact Heap.lt_size (show h.get? a=some _ from x)
 | ext φ=>obtain ⟨_,⟨_,e⟩,_⟩:=x; exact Heap.lt_size e
theorem Paired.YG {α β:Type}{F G:α->β->Prop}:∀ {l₁:List α}{l₂:List β},Paired F l₁ l₂->(∀ a b,F a b->G a b)->Paired G l₁ l₂
 | _,_,.nil,_=>.nil
 | _,_,.cons r t,f=>.cons (f _ _ r) (Paired.YG t f)
theorem cA.stay (x:cA P w H h a o) (k:∀ b u,(b=a\/H b=some (.own a))->h.get? b=some u->h'.get? b=some u)
  (ho:∀ b,H b=some (.own a)->H' b=some (.own a)) (ht:∀ b xs,H b=some (.tup xs)->H' b=some (.tup xs)):cA P w H' h' a o:=by
 induction o with
 | lst xs=>obtain ⟨z,its,n,r,e⟩:=x; exact ⟨z,its,n,r,k _ _ (.inl rfl) e⟩
 | tup xs=>obtain ⟨z,its,r,ob,e,c⟩:=x; exact ⟨z,its,r,ob,k _ _ (.inl rfl) e,c⟩
 | dK kvs=>obtain ⟨z,y,vs,r,ob,es,ep,e,c⟩:=x; exact ⟨z,y,vs,r,ob,es,ep,k _ _ (.inl rfl) e,c⟩
 | dT kvs=>
  obtain ⟨z,y,xs,r,ob,es,ep,e,c⟩:=x
  exact ⟨z,y,xs,Paired.YG r fun p q z=>⟨z.1,ht _ _ z.2.1,z.2.2⟩,ob,es,ep,k _ _ (.inl rfl) e,c⟩
 | set S n=>obtain ⟨ob,es,ep,t,e,c⟩:=x; exact ⟨ob,es,ep,t,k _ _ (.inl rfl) e,c⟩
 | ins C dx fs=>
  obtain ⟨d,z,ne,e,mA,⟨od,es,ep,e2,c⟩,r⟩:=x
  exact ⟨ho _ d,z,ne,k _ _ (.inl rfl) e,mA,⟨od,es,ep,k _ _ (.inr d) e2,c⟩,r⟩
 | own y=>obtain ⟨ob,e⟩:=x; exact ⟨ob,k _ _ (.inl rfl) e⟩
 | xd fs=>obtain ⟨mA,⟨od,es,ep,e,c⟩,r⟩:=x; exact ⟨mA,⟨od,es,ep,k _ _ (.inl rfl) e,c⟩,r⟩
 | rng lo hi=>obtain ⟨t,u,v,e⟩:=x; exact ⟨t,u,v,k _ _ (.inl rfl) e⟩
 | frz ob u ih=>obtain ⟨e,q⟩:=x; exact ⟨k _ _ (.inl rfl) e,ih q⟩
 | tbl ps=>
  have e:h.get? a=some { cls:=.none,data:=.fields ps }:=x
  show h'.get? a=some { cls:=.none,data:=.fields ps }
  exact k a _ (.inl rfl) e
 | met f y=>
  have e:h.get? a=some (PySem.W.methodObj (.ref f) (.ref y)):=x
  show h'.get? a=some (PySem.W.methodObj (.ref f) (.ref y))
  exact k a _ (.inl rfl) e
 | ext φ=>obtain ⟨p,⟨o,e⟩,st⟩:=x; exact ⟨st _ _ p fun o q=>k _ _ (.inl rfl) q,⟨o,k _ _ (.inl rfl) e⟩,st⟩
theorem HOk.lt (x:HOk P w H h) (e:H a=some o):a < h.objs.size:=(x a o e).lt
theorem HOk.fresh (x:HOk P w H h) (e:h.objs.size<=a):H a=none:=by
 cases q:H a with
 | none=>rfl
 | some u=>exact absurd (Nat.lt_of_lt_of_le (x.lt q) e) (Nat.lt_irrefl _)
theorem HOk.kept (x:HOk P w H h) (k:∀ b u,h.get? b=some u->h'.get? b=some u):HOk P w H h':=fun a o e=>
 (x a o e).stay (fun b u _ q=>k b u q) (fun _ q=>q) fun _ _ q=>q
theorem HOk.laid (x:HOk P w H h) (k:∀ b u,h.get? b=some u->h'.get? b=some u) (hp:h.objs.size<=a) (new:cA P w (upd H a o) h' a o):HOk P w (upd H a o) h':=fun b u e=>by
 have hn:=x.fresh hp
 by_cases hb:b=a
 ·subst hb; rw[aB] at e; cases e; exact new
 ·rw[aH hb] at e
  exact (x b u e).stay (fun c v _ q=>k c v q) (fun c q=>by rw[aH (aF q hn)]; exact q) fun c xs q=>by rw[aH (aF q hn)]; exact q
end
def Rd (H:Hp) (a:Addr) (u:HO):Prop:=H a=some u\/∃ o,H a=some (.frz o u)
theorem Rd.ok {P:Program}{w:World}{H:Hp}{h:Heap}{a:Addr}{u:HO}(r:Rd H a u) (x:HOk P w H h):cA P w H h a u:=by
 rcases r with r | ⟨o,r⟩
 ·exact x a u r
 ·obtain ⟨_,q⟩:=x a _ r
  exact q
def Mut:Option HO->Prop
 | some (.lst _)=>True
 | some (.dK _)=>True
 | some (.dT _)=>True
 | some (.set _ _)=>True
 | some (.ins _ _ _)=>True
 | some (.ext _)=>True
 | _=>False
section
variable {P:Program}{w:World}{H:Hp}{h h':Heap}{x e:Addr}{o':HO}
theorem HOk.write (ok:HOk P w H h) (mu:Mut (H x)) (he:e=x\/H e=some (.own x)) (k:∀ b u,b≠e->h.get? b=some u->h'.get? b=some u) (heo:∃ u,h'.get? e=some u)
  (new:cA P w (upd H x o') h' x o'):HOk P w (upd H x o') h':=fun b u q=>by
 have nown:∀ c y,H c=some (.own y)->c≠x:=fun c y r z=>by subst z; rw[r] at mu; exact mu
 have ntup:∀ c xs,H c=some (.tup xs)->c≠x:=fun c xs r z=>by subst z; rw[r] at mu; exact mu
 by_cases hb:b=x
 ·subst hb; rw[aB] at q; cases q; exact new
 ·rw[aH hb] at q
  by_cases hbe:b=e
  ·have q':H b=some (.own x):=by
    rcases he with z | z
    ·exact absurd (hbe.trans z) hb
    ·rw[hbe]; exact z
   rw[q] at q'; cases q'
   obtain ⟨v,hv⟩:=heo
   exact ⟨v,by rw[hbe]; exact hv⟩
  ·refine (ok b u q).stay (fun c v hc r=>k c v ?_ r) (fun c r=>by rw[aH (nown c b r)]; exact r) fun c xs r=>by rw[aH (ntup c xs r)]; exact r
   rcases hc with rfl | hc
   ·exact hbe
   ·rintro rfl
    rcases he with z | z
    ·exact nown c b hc z
    ·rw[hc] at z; cases z; exact hb rfl
end
structure Un (fs ex:List Addr) (H H':Hp) (h h':Heap):Prop where
 keep:∀ b o,h.get? b=some o->H b=none->b∉fs->b∉ex->h'.get? b=some o
 slot:∀ b o,h.get? b=some o->H b=none->b∈fs->b∉ex->∃ sl,h'.get? b=some { o with slots:=sl }
 free:∀ b o,h.get? b=some o->H b=none->b∉ex->H' b=none
 there:∀ b o,h.get? b=some o->b∉ex->∃ o',h'.get? b=some o'
 tups:∀ b xs,H b=some (.tup xs)->H' b=some (.tup xs)
 frzs:∀ b o u,H b=some (.frz o u)->H' b=some (.frz o u)
 tbls:∀ b ps,H b=some (.tbl ps)->∃ more,H' b=some (.tbl (ps ++ more))
section
variable {fs fs' ex ex':List Addr}{H H1 H2:Hp}{h h1 h2 h':Heap}{a x e:Addr}{o:HO}
theorem Un.any (u:Un fs ex H H1 h h1) {b:Addr}{ob:Obj}(q:h.get? b=some ob) (n:H b=none) (hx:b∉ex):∃ sl,h1.get? b=some { ob with slots:=sl }:=by
 by_cases hb:b∈fs
 ·exact u.slot b ob q n hb hx
 ·exact ⟨ob.slots,u.keep b ob q n hb hx⟩
theorem Un.kept (k:∀ b u,h.get? b=some u->h'.get? b=some u):Un fs ex H H h h':=
 ⟨fun b ob q _ _ _=>k b ob q,fun b ob q _ _ _=>⟨ob.slots,k b ob q⟩,fun _ _ _ n _=>n,fun b ob q _=>⟨ob,k b ob q⟩,fun _ _ q=>q,fun _ _ _ q=>q,fun _ ps q=>⟨#[],by rw[q]; simp⟩⟩
theorem Un.refl:Un fs ex H H h h:=Un.kept fun _ _ q=>q
theorem Un.laid (k:∀ b u,h.get? b=some u->h'.get? b=some u) (hp:h.objs.size<=a) (hn:H a=none):Un fs ex H (upd H a o) h h' where
 keep:=fun b u q _ _ _=>k b u q
 slot:=fun b u q _ _ _=>⟨u.slots,k b u q⟩
 free:=fun b u q n _=>by rw[aH (Nat.ne_of_lt (Nat.lt_of_lt_of_le (Heap.lt_size q) hp))]; exact n
 there:=fun b u q _=>⟨u,k b u q⟩
 tups:=fun b xs q=>by rw[aH (aF q hn)]; exact q
 frzs:=fun b u xs q=>by rw[aH (aF q hn)]; exact q
 tbls:=fun b ps q=>⟨#[],by rw[aH (aF q hn),q]; simp⟩
theorem Un.write (mu:Mut (H x)) (he:e=x\/H e=some (.own x)) (k:∀ b u,b≠e->h.get? b=some u->h'.get? b=some u) (heo:∃ u,h'.get? e=some u):Un fs ex H (upd H x o) h h':=by
 have hx:∀ b,H b=none->b≠x:=fun b n z=>by subst z; rw[n] at mu; exact mu
 have hb:∀ b,H b=none->b≠e:=fun b n z=>by
  subst z
  rcases he with r | r
  ·exact hx b n r
  ·rw[n] at r; cases r
 have hm:∀ b u,H b=some u->¬ Mut (some u)->b≠x:=fun b u q nm z=>by subst z; rw[q] at mu; exact nm mu
 refine ⟨fun b u q n _ _=>k b u (hb b n) q,fun b u q n _ _=>⟨u.slots,k b u (hb b n) q⟩,fun b u q n _=>by rw[aH (hx b n)]; exact n,fun b u q _=>?_,
  fun b xs q=>by rw[aH (hm b _ q fun z=>z)]; exact q,fun b u xs q=>by rw[aH (hm b _ q fun z=>z)]; exact q,fun b ps q=>⟨#[],by rw[aH (hm b _ q fun z=>z),q]; simp⟩⟩
 by_cases hbe:b=e
 ·subst hbe; exact heo
 ·exact ⟨u,k b u hbe q⟩
end
def trk (h:Heap) (H:Hp):List Addr:=(List.range h.objs.size).filter fun a=>(H a).isSome
def yX (h:Heap) (H:Hp):Heap:=PySem.W.hideAll h (trk h H)
theorem Jd (h:Heap) (H:Hp):(yX h H).objs.size=h.objs.size:=PySem.W.hideAll_size _ _
theorem NP {h:Heap}{H:Hp}{b:Addr}{o:Obj}(e:h.get? b=some o) (n:H b=none):(yX h H).get? b=some o:=
 PySem.W.hideAll_get _ e fun hm=>by
  have q:(H b).isSome=true:=(List.mem_filter.mp hm).2
  rw[n] at q; simp at q
theorem Sw {h:Heap}{H:Hp}{b:Addr}{o:Obj}(e:(yX h H).get? b=some o):h.get? b=some o/\H b=none:=by
 have e':h.get? b=some o:=PySem.W.of_hideAll (trk h H) e
 refine ⟨e',?_⟩
 cases q:H b with
 | none=>rfl
 | some x=>
  have hm:b∈trk h H:=List.mem_filter.mpr ⟨List.mem_range.mpr (Heap.lt_size e'),by simp [q]⟩
  have z:(yX h H).get? b=none:=PySem.W.hideAll_none (trk h H) hm
  rw[z] at e; cases e
structure Mod (K:PySem.W.Frag) (mg:Str->Option Value) (base:Heap):Prop where
 kin:K.In base
 glob:base.Ns mainGlobals mg
 blt:∃ mb,base.Ns builtinsNs mb/\∀ x:Str,x ≠ "__name__" -> mb x=bootBuiltins x
 nolimit:base.NoLimit
structure Cx where
 prog:Program
 w:World
 K:PySem.W.Frag
 mg:Str->Option Value
 base:Heap
 A:Around
 N:List Str
 s₀:Shared
 H₀:Hp
 env:Env
 outer:List Env
 stack:List Env
 ex:List Addr
 fn:Str->Bool
 calm:Bool
 pn:List (Addr×Obj)
 xe:Value->Shared->Prop
def frs (l:List Env):List Addr:=l.filterMap (·.frame)
abbrev Cx.fs (X:Cx):List Addr:=frs X.outer
def Vis (sc:Scope) (x:Str):Prop:=sc.names.lookup x=some .local\/sc.names.lookup x=some .cell\/sc.names.lookup x=some .free
def Loc (sc:Scope) (x:Str):Prop:=sc.names.lookup x=some .local\/sc.names.lookup x=some .cell
def Look (env:Env) (h:Heap) (m:Str->Option Value) (x:Str) (u:Value):Prop:=
 (env.kindOf x=some .local/\m x=some u)\/((env.kindOf x=some .cell\/env.kindOf x=some .free)/\∃ c,env.cells.lookup x=some c/\h.IsCell c (some u))
structure Cx.Ok (X:Cx):Prop where
 mod:Mod X.K X.mg X.base
 kind:X.env.scope.kind=.function
 glob:X.env.globals=mainGlobals
 blt:X.env.builtins=builtinsNs
 above:X.s₀.heap.objs.size<=X.env.locals
 inj:∀ x y c,X.env.cells.lookup x=some c->X.env.cells.lookup y=some c->x=y
 has:∀ x,(X.env.kindOf x=some .cell\/X.env.kindOf x=some .free)->∃ c,X.env.cells.lookup x=some c
 cab:∀ x c,X.fn x=true->X.env.cells.lookup x=some c->X.s₀.heap.objs.size<=c
 hd:X.calm=true->X.A.handled=none
 frames:X.A.frames=some X.stack
 stk:X.stack=X.outer\/(X.stack=X.env :: X.outer/\X.env.frame=some X.env.locals)
 exf:∀ b∈X.ex,b≠X.env.locals/\∀ x c,X.env.cells.lookup x=some c->c≠b
 bs:∀ b o,X.base.get? b=some o->X.s₀.heap.get? b=some o/\X.H₀ b=none
 bsz:X.base.objs.size<=X.s₀.heap.objs.size
 noex:∀ b o,X.base.get? b=some o->b∉X.ex
 exfs:∀ b∈X.ex,b∉X.fs
 tK:X.s₀.heap.FunFrames X.base X.outer
 frf:∀ b∈X.fs,X.H₀ b=none
structure Inv (X:Cx) (pins:List (Addr×Obj)) (σ:List (Option V)) (H:Hp) (s:Shared):Prop where
 ok:X.Ok
 os:s.os=X.s₀.os
 bare:AllBare s.gens
 base:Un X.fs X.ex X.H₀ H X.s₀.heap s.heap
 loc:∃ m,s.heap.Ns X.env.locals m/\∀ (i:Nat) (x:Str) (v:V),X.N[i]?=some x->σ[i]?=some (some v)->Vis X.env.scope x->∃ u,RelV v u/\Look X.env s.heap m x u
 cell:∀ x c,X.env.cells.lookup x=some c->∃ v,s.heap.IsCell c v
 free:H X.env.locals=none
 freeC:∀ x c,X.env.cells.lookup x=some c->H c=none
 pin:∀ p∈X.pn ++ pins,s.heap.get? p.1=some p.2/\H p.1=none/\p.1≠X.env.locals/\p.1∉X.fs/\∀ v,p.2.data≠.cell v
 hok:HOk X.prog X.w H s.heap
 len:σ.length=X.N.length
section
variable {X:Cx}{pins:List (Addr×Obj)}{σ:List (Option V)}{H H':Hp}{s:Shared}{h':Heap}
theorem Cx.Ok.Zj (ok:X.Ok) {b:Addr}{o:Obj}(e:X.base.get? b=some o):b∉X.fs:=fun hb=>by
 have:=(ok.tK.mem hb).1
 rw[e] at this; cases this
theorem Inv.bs (I:Inv X pins σ H s):∀ b o,X.base.get? b=some o->s.heap.get? b=some o/\H b=none:=fun b o e=>
 ⟨I.base.keep b o (I.ok.bs b o e).1 (I.ok.bs b o e).2 (I.ok.Zj e) (I.ok.noex b o e),I.base.free b o (I.ok.bs b o e).1 (I.ok.bs b o e).2 (I.ok.noex b o e)⟩
theorem Inv.bk (I:Inv X pins σ H s):∀ b o,X.base.get? b=some o->s.heap.get? b=some o:=fun b o e=>(I.bs b o e).1
theorem Inv.mod (I:Inv X pins σ H s):Mod X.K X.mg X.base:=I.ok.mod
theorem Inv.kIn (I:Inv X pins σ H s):X.K.In s.heap:=I.ok.mod.kin.keeps I.bk
theorem Inv.lt (I:Inv X pins σ H s):X.env.locals < s.heap.objs.size:=let ⟨_,hn,_⟩:=I.loc; hn.lt
theorem Inv.sz (I:Inv X pins σ H s):X.s₀.heap.objs.size<=s.heap.objs.size:=Nat.le_trans I.ok.above (Nat.le_of_lt I.lt)
theorem Inv.WR (I:Inv X pins σ H s) {a:Addr}(h:s.heap.objs.size<=a):a∉X.fs:=fun hb=>by
 obtain ⟨_,o,ho,_⟩:=I.ok.tK.mem hb
 exact absurd (Nat.lt_of_lt_of_le (Heap.lt_size ho) (Nat.le_trans I.sz h)) (Nat.lt_irrefl _)
theorem Inv.cne (I:Inv X pins σ H s):∀ x c,X.env.cells.lookup x=some c->c≠X.env.locals:=fun x c e z=>by
 obtain ⟨v,o,ho,hd⟩:=I.cell x c e
 obtain ⟨m,⟨o',es,ep,ho',hd',_⟩,_⟩:=I.loc
 rw[z,ho'] at ho; cases ho; rw[hd'] at hd; cases hd
theorem Inv.tK (I:Inv X pins σ H s):s.heap.FunFrames X.base X.outer:=by
 have all:∀ (l:List Env),(∀ b∈frs l,b∈X.fs)->X.s₀.heap.FunFrames X.base l->s.heap.FunFrames X.base l:=by
  intro l
  induction l with
  | nil=>intro _ _; trivial
  | cons env r ih=>
   intro hs hl
   obtain ⟨hk,⟨L,o,hf,hn,ho,hd⟩,hr⟩:=hl
   have hL:L∈X.fs:=hs L (by unfold frs; rw[List.filterMap_cons,hf]; exact List.mem_cons_self)
   obtain ⟨sl,e⟩:=I.base.slot L o ho (I.ok.frf L hL) hL fun z=>I.ok.exfs L z hL
   exact ⟨hk,⟨L,_,hf,hn,e,hd⟩,ih (fun b hb=>hs b (by unfold frs; rw[List.filterMap_cons,hf]; exact List.mem_cons_of_mem _ hb)) hr⟩
 exact all X.outer (fun _ hb=>hb) I.ok.tK
theorem Inv.stack (I:Inv X pins σ H s):s.heap.FunFrames X.base X.stack:=by
 rcases I.ok.stk with e | ⟨e,hf⟩
 ·rw[e]; exact I.tK
 ·rw[e]
  obtain ⟨m,hn,_⟩:=I.loc
  refine .cons (by rw[I.ok.kind]; decide) hf hn ?_ I.tK
  exact Heap.get?_none_of_le (Nat.le_trans I.ok.bsz I.ok.above)
theorem Inv.ux (I:Inv X pins σ H s):∀ b∈frs X.stack,b∈X.env.locals :: X.fs:=fun b hb=>by
 rcases I.ok.stk with e | ⟨e,hf⟩
 ·rw[e] at hb; exact List.mem_cons_of_mem _ hb
 ·rw[e] at hb
  unfold frs at hb
  rw[List.filterMap_cons,hf] at hb
  exact hb
theorem Inv.Fo (I:Inv X pins σ H s):∀ b∈frs X.stack,H b=none:=fun b hb=>by
 rcases List.mem_cons.mp (I.ux b hb) with e | hb
 ·rw[e]; exact I.free
 ·obtain ⟨_,o,ho,_⟩:=I.ok.tK.mem hb
  exact I.base.free b o ho (I.ok.frf b hb) fun z=>I.ok.exfs b z hb
theorem Inv.step {g':Array GenState}{t':Nat}{d':Drawn}{ch:List Addr}(I:Inv X pins σ H s)
  (hch:∀ b∈ch,(b∈X.ex\/X.s₀.heap.objs.size<=b)/\b≠X.env.locals/\(∀ x c,X.env.cells.lookup x=some c->c≠b)/\∀ p∈X.pn ++ pins,p.1≠b)
  (keep:∀ b o,b≠X.env.locals->b∉X.fs->b∉ch->s.heap.get? b=some o->H b=none->h'.get? b=some o)
  (slot:∀ b o,b≠X.env.locals->b∈X.fs->b∉ch->s.heap.get? b=some o->H b=none->∃ sl,h'.get? b=some { o with slots:=sl }) (free:∀ b o,b∉ch->s.heap.get? b=some o->H b=none->H' b=none)
  (there:∀ b o,b∉ch->s.heap.get? b=some o->∃ o',h'.get? b=some o')
  (tups:∀ b xs,H b=some (.tup xs)->H' b=some (.tup xs)) (frzs:∀ b o u,H b=some (.frz o u)->H' b=some (.frz o u)) (tbls:∀ b ps,H b=some (.tbl ps)->∃ more,H' b=some (.tbl (ps ++ more)))
  (ns:∀ m,s.heap.Ns X.env.locals m->h'.Ns X.env.locals m) (hok:HOk X.prog X.w H' h') (hg:AllBare g') :
  Inv X pins σ H' { s with heap:=h',gens:=g',drawn:=d',toks:=t' }:=by
 have neL:∀ b o,X.s₀.heap.get? b=some o->b≠X.env.locals:=fun b o e=>Nat.ne_of_lt (Nat.lt_of_lt_of_le (Heap.lt_size e) I.ok.above)
 have neC:∀ b o,X.s₀.heap.get? b=some o->b∉X.ex->b∉ch:=fun b o e hx hb=>by
  rcases (hch b hb).1 with z | z
  ·exact hx z
  ·exact absurd (Nat.lt_of_lt_of_le (Heap.lt_size e) z) (Nat.lt_irrefl _)
 have cellK:∀ x c,X.env.cells.lookup x=some c->∀ v,s.heap.IsCell c v->h'.IsCell c v:=fun x c e v ⟨o,ho,hd⟩=>by
  have nch:c∉ch:=fun z=>(hch c z).2.2.1 x c e rfl
  by_cases hc:c∈X.fs
  ·obtain ⟨sl,q⟩:=slot c o (I.cne x c e) hc nch ho (I.freeC x c e)
   exact ⟨_,q,hd⟩
  ·exact ⟨o,keep c o (I.cne x c e) hc nch ho (I.freeC x c e),hd⟩
 refine ⟨I.ok,I.os,hg,⟨fun b o e n hb hx=>?_,fun b o e n hb hx=>?_,fun b o e n hx=>?_,fun b o e hx=>?_,fun b xs e=>tups b xs (I.base.tups b xs e),fun b o xs e=>frzs b o xs (I.base.frzs b o xs e),fun b ps e=>?_⟩,?_,fun x c e=>?_,?_,fun x c e=>?_,fun p hp=>?_,hok,I.len⟩
 ·exact keep b o (neL b o e) hb (neC b o e hx) (I.base.keep b o e n hb hx) (I.base.free b o e n hx)
 ·obtain ⟨sl,e1⟩:=I.base.slot b o e n hb hx
  obtain ⟨sl',e2⟩:=slot b _ (neL b o e) hb (neC b o e hx) e1 (I.base.free b o e n hx)
  exact ⟨sl',e2⟩
 ·obtain ⟨o',e1⟩:=I.base.there b o e hx
  exact free b o' (neC b o e hx) e1 (I.base.free b o e n hx)
 ·obtain ⟨o',e1⟩:=I.base.there b o e hx
  exact there b o' (neC b o e hx) e1
 ·obtain ⟨m1,e1⟩:=I.base.tbls b ps e
  obtain ⟨m2,e2⟩:=tbls b _ e1
  exact ⟨m1 ++ m2,by rw[e2,Array.append_assoc]⟩
 ·obtain ⟨m,hn,hl⟩:=I.loc
  refine ⟨m,ns m hn,fun i x v e1 e2 e3=>?_⟩
  obtain ⟨u,r,l⟩:=hl i x v e1 e2 e3
  refine ⟨u,r,?_⟩
  rcases l with l | ⟨k,c,e,z⟩
  ·exact .inl l
  ·exact .inr ⟨k,c,e,cellK x c e _ z⟩
 ·obtain ⟨v,z⟩:=I.cell x c e
  exact ⟨v,cellK x c e v z⟩
 ·obtain ⟨m,⟨o,_,_,ho,_⟩,_⟩:=I.loc
  exact free _ o (fun z=>(hch _ z).2.1 rfl) ho I.free
 ·obtain ⟨v,o,ho,hd⟩:=I.cell x c e
  exact free c o (fun z=>(hch c z).2.2.1 x c e rfl) ho (I.freeC x c e)
 ·obtain ⟨e,n,ne,nf,d⟩:=I.pin p hp
  have nch:p.1∉ch:=fun z=>(hch p.1 z).2.2.2 p hp rfl
  exact ⟨keep p.1 p.2 ne nf nch e n,free p.1 p.2 nch e n,ne,nf,d⟩
theorem Inv.un {t':Nat}(I:Inv X pins σ H s) (u:Un X.fs [] H H' s.heap h') (hok:HOk X.prog X.w H' h'):Inv X pins σ H' { s with heap:=h',toks:=t' }:=by
 obtain ⟨m,⟨o,es,ep,ho,r⟩,_⟩:=id I.loc
 obtain ⟨sl,hL⟩:=u.any ho I.free (by simp)
 exact I.step (g':=s.gens) (d':=s.drawn) (ch:=[]) (fun _ z=>nomatch z) (fun b o _ hb _ e n=>u.keep b o e n hb (by simp)) (fun b o _ hb _ e n=>u.slot b o e n hb (by simp)) (fun b o _ e n=>u.free b o e n (by simp)) (fun b o _ e=>u.there b o e (by simp)) u.tups u.frzs u.tbls (fun m' hm=>by
  obtain ⟨o',es',ep',ho',r'⟩:=hm
  rw[ho] at ho'; cases ho'
  exact ⟨_,es',ep',hL,r'⟩) hok I.bare
theorem Inv.call {g':Array GenState}{t':Nat}{d':Drawn}{ch:List Addr}(I:Inv X pins σ H s) (u:Un (frs X.stack) ch H H' s.heap h') (hok:HOk X.prog X.w H' h') (hg:AllBare g')
  (hch:∀ b∈ch,(b∈X.ex\/X.s₀.heap.objs.size<=b)/\b≠X.env.locals/\(∀ x c,X.env.cells.lookup x=some c->c≠b)/\∀ p∈X.pn ++ pins,p.1≠b) :
  Inv X pins σ H' { s with heap:=h',gens:=g',drawn:=d',toks:=t' }:=by
 obtain ⟨m,⟨o,es,ep,ho,r⟩,_⟩:=id I.loc
 obtain ⟨sl,hL⟩:=u.any ho I.free fun z=>(hch _ z).2.1 rfl
 exact I.step (ch:=ch) hch (fun b o hL hb hc e n=>u.keep b o e n (fun z=>(List.mem_cons.mp (I.ux b z)).elim hL hb) hc) (fun b o _ _ hc e n=>u.any e n hc) (fun b o hc e n=>u.free b o e n hc) (fun b o hc e=>u.there b o e hc) u.tups u.frzs u.tbls (fun m' hm=>by
  obtain ⟨o',es',ep',ho',r'⟩:=hm
  rw[ho] at ho'; cases ho'
  exact ⟨_,es',ep',hL,r'⟩) hok hg
theorem Inv.turned {t':Nat}{it:Addr}(I:Inv X pins σ H s) (k:∀ b o,b≠it->s.heap.get? b=some o->h'.get? b=some o) (hn:H it=none) (hL:it≠X.env.locals)
  (h1:it∈X.ex\/X.s₀.heap.objs.size<=it) (h2:∀ x c,X.env.cells.lookup x=some c->c≠it) (h3:∀ p∈X.pn ++ pins,p.1≠it):Inv X pins σ H { s with heap:=h',toks:=t' }:=by
 have nit:∀ b u,H b=some u->b≠it:=fun b u e z=>by rw[z,hn] at e; cases e
 refine I.step (g':=s.gens) (d':=s.drawn) (ch:=[it]) (fun b hb=>?_) (fun b o _ _ hc e _=>k b o (fun z=>hc (by simp [z])) e) (fun b o _ _ hc e _=>⟨o.slots,k b o (fun z=>hc (by simp [z])) e⟩) (fun _ _ _ _ n=>n)
  (fun b o hc e=>⟨o,k b o (fun z=>hc (by simp [z])) e⟩) (fun _ _ e=>e) (fun _ _ _ e=>e) (fun b ps e=>⟨#[],by rw[e]; simp⟩) (fun m hm=>?_) (fun b u e=>?_) I.bare
 ·have e:b=it:=by simpa using hb
  subst e
  exact ⟨h1,hL,h2,h3⟩
 ·obtain ⟨o,es,ep,ho,r⟩:=hm
  exact ⟨o,es,ep,k _ o (Ne.symm hL) ho,r⟩
 ·refine (I.hok b u e).stay (fun c v hc q=>k c v ?_ q) (fun _ q=>q) fun _ _ q=>q
  rcases hc with z | z
  ·rw[z]; exact nit b u e
  ·exact nit c _ z
theorem Inv.tok (I:Inv X pins σ H s) (t:Nat):Inv X pins σ H { s with toks:=t }:=I.un (h':=s.heap) (t':=t) Un.refl I.hok
theorem Inv.kept {t':Nat}(I:Inv X pins σ H s) (k:∀ b u,s.heap.get? b=some u->h'.get? b=some u):Inv X pins σ H { s with heap:=h',toks:=t' }:=I.un (Un.kept k) (I.hok.kept k)
theorem Inv.laid {a:Addr}{o:HO}{t':Nat}(I:Inv X pins σ H s) (k:∀ b u,s.heap.get? b=some u->h'.get? b=some u) (hp:s.heap.objs.size<=a) (new:cA X.prog X.w (upd H a o) h' a o) :
  Inv X pins σ (upd H a o) { s with heap:=h',toks:=t' }:=I.un (Un.laid k hp (I.hok.fresh hp)) (I.hok.laid k hp new)
theorem Inv.write {x e:Addr}{o:HO}{t':Nat}(I:Inv X pins σ H s) (mu:Mut (H x)) (he:e=x\/H e=some (.own x)) (k:∀ b u,b≠e->s.heap.get? b=some u->h'.get? b=some u) (heo:∃ u,h'.get? e=some u)
  (new:cA X.prog X.w (upd H x o) h' x o):Inv X pins σ (upd H x o) { s with heap:=h',toks:=t' }:=I.un (Un.write mu he k heo) (I.hok.write mu he k heo new)
theorem Inv.nQ {pins':List (Addr×Obj)}(I:Inv X pins σ H s) (h:∀ p∈pins',s.heap.get? p.1=some p.2/\H p.1=none/\p.1≠X.env.locals/\p.1∉X.fs/\∀ v,p.2.data≠.cell v):Inv X pins' σ H s:=
 ⟨I.ok,I.os,I.bare,I.base,I.loc,I.cell,I.free,I.freeC,fun p hp=>(List.mem_append.mp hp).elim (fun z=>I.pin p (List.mem_append_left _ z)) (h p),I.hok,I.len⟩
theorem Av {N:List Str}(hN:N.Nodup) {i j:Nat}{x:Str}(a:N[i]?=some x) (b:N[j]?=some x):i=j:=by
 obtain ⟨h1,e1⟩:=List.getElem?_eq_some_iff.mp a
 obtain ⟨h2,e2⟩:=List.getElem?_eq_some_iff.mp b
 exact (List.getElem_inj hN).mp (e1.trans e2.symm)
theorem wJ {M:Model}{A:Around}{E:Value->Shared->Prop}{i:Nat}{x:Str}{v:V}{u:Value}{Q:Unit->Shared->Prop}(I:Inv X pins σ H s) (hN:X.N.Nodup) (hi:X.N[i]?=some x) (hx:Loc X.env.scope x) (r:RelV v u)
  (h:∀ s',Inv X pins (σ.set i (some v)) H s'->(∃ a,Heap.SameBut a s.heap s'.heap/\(a=X.env.locals\/X.env.cells.lookup x=some a))->Q () s') (hf:X.fn x=true\/X.env.scope.names.lookup x=some .local:=by first | exact .inl rfl | exact .inr rfl | assumption):wpAny M A (storeName X.env x u) Q E s:=by
 obtain ⟨m,hn,hl⟩:=id I.loc
 have hcls:(X.env.scope.kind == .class || (X.env.scope.kind == .module && X.env.locals != X.env.globals))=false:=by rw[I.ok.kind]; rfl
 have hiσ:i < σ.length:=by rw[I.len]; exact (List.getElem?_eq_some_iff.mp hi).1
 have cne:=I.cne
 have tracked:∀ {a:Addr} {h':Heap},(∃ o,s.heap.get? a=some o/\H a=none)->Heap.SameBut a s.heap h'->HOk X.prog X.w H h':=fun {a h'} ha hs b ob e=>by
  obtain ⟨_,_,hfree⟩:=ha
  refine (I.hok b ob e).stay (fun c w' hc q=>(hs.2 c ?_).trans q) (fun _ q=>q) fun _ _ q=>q
  rintro rfl
  rcases hc with rfl | hc
  ·rw[hfree] at e; cases e
  ·rw[hfree] at hc; cases hc
 rcases hx with hk | hk
 ·refine wpAny_storeName_local hk hn (fun h' hn' hs=>?_) hcls
  obtain ⟨oL,_,_,hoL,_⟩:=id hn
  refine h _ ⟨I.ok,I.os,I.bare,⟨fun b o e n hb hx=>?_,fun b o e n hb hx=>?_,I.base.free,fun b o e hx=>?_,I.base.tups,I.base.frzs,I.base.tbls⟩,⟨_,hn',fun j y v' e1 e2 e3=>?_⟩,fun y c e=>?_,I.free,I.freeC,fun p hp=>?_,tracked ⟨oL,hoL,I.free⟩ hs,by simpa using I.len⟩ ⟨_,hs,.inl rfl⟩
  ·exact (hs.2 b (Nat.ne_of_lt (Nat.lt_of_lt_of_le (Heap.lt_size e) I.ok.above))).trans (I.base.keep b o e n hb hx)
  ·obtain ⟨sl,e1⟩:=I.base.slot b o e n hb hx
   exact ⟨sl,(hs.2 b (Nat.ne_of_lt (Nat.lt_of_lt_of_le (Heap.lt_size e) I.ok.above))).trans e1⟩
  ·obtain ⟨o',e1⟩:=I.base.there b o e hx
   exact ⟨o',(hs.2 b (Nat.ne_of_lt (Nat.lt_of_lt_of_le (Heap.lt_size e) I.ok.above))).trans e1⟩
  ·by_cases hj:j=i
   ·subst hj
    rw[hi] at e1; cases e1
    rw[List.getElem?_set_self hiσ] at e2
    cases e2
    exact ⟨u,r,.inl ⟨hk,by simp⟩⟩
   ·rw[List.getElem?_set_ne (Ne.symm hj)] at e2
    obtain ⟨u',r',q⟩:=hl j y v' e1 e2 e3
    refine ⟨u',r',?_⟩
    rcases q with ⟨k,e⟩ | ⟨k,c,e,z⟩
    ·refine .inl ⟨k,?_⟩
     have:y≠x:=fun e=>hj (Av hN e1 (e ▸ hi))
     simp [this,e]
    ·exact .inr ⟨k,c,e,z.sameBut hs (cne y c e)⟩
  ·obtain ⟨w',z⟩:=I.cell y c e
   exact ⟨w',z.sameBut hs (cne y c e)⟩
  ·obtain ⟨e,n,ne,nf,d⟩:=I.pin p hp
   exact ⟨(hs.2 p.1 ne).trans e,n,ne,nf,d⟩
 ·have hfn:X.fn x=true:=by
   rcases hf with z | z
   ·exact z
   ·rw[z] at hk; cases hk
  obtain ⟨c,hc⟩:=I.ok.has x (.inl hk)
  obtain ⟨w',z⟩:=I.cell x c hc
  refine wpAny_storeName_cell I.ok.kind hk hc z (fun h' hc' hs=>?_)
  obtain ⟨oc,hoc,hocd⟩:=id z
  refine h { s with heap:=h' } ⟨I.ok,I.os,I.bare,⟨fun b o e n hb hx=>?_,fun b o e n hb hx=>?_,I.base.free,fun b o e hx=>?_,I.base.tups,I.base.frzs,I.base.tbls⟩,⟨m,hn.sameBut hs (Ne.symm (cne x c hc)),fun j y v' e1 e2 e3=>?_⟩,fun y c' e=>?_,I.free,I.freeC,fun p hp=>?_,tracked ⟨oc,hoc,I.freeC x c hc⟩ hs,by simpa using I.len⟩ ⟨c,hs,.inr hc⟩
  ·exact (hs.2 b (Nat.ne_of_lt (Nat.lt_of_lt_of_le (Heap.lt_size e) (I.ok.cab x c hfn hc)))).trans (I.base.keep b o e n hb hx)
  ·obtain ⟨sl,e1⟩:=I.base.slot b o e n hb hx
   exact ⟨sl,(hs.2 b (Nat.ne_of_lt (Nat.lt_of_lt_of_le (Heap.lt_size e) (I.ok.cab x c hfn hc)))).trans e1⟩
  ·obtain ⟨o',e1⟩:=I.base.there b o e hx
   exact ⟨o',(hs.2 b (Nat.ne_of_lt (Nat.lt_of_lt_of_le (Heap.lt_size e) (I.ok.cab x c hfn hc)))).trans e1⟩
  ·by_cases hj:j=i
   ·subst hj
    rw[hi] at e1; cases e1
    rw[List.getElem?_set_self hiσ] at e2
    cases e2
    exact ⟨u,r,.inr ⟨.inl hk,c,hc,hc'⟩⟩
   ·rw[List.getElem?_set_ne (Ne.symm hj)] at e2
    obtain ⟨u',r',q⟩:=hl j y v' e1 e2 e3
    refine ⟨u',r',?_⟩
    rcases q with q | ⟨k,c',e,z'⟩
    ·exact .inl q
    ·refine .inr ⟨k,c',e,z'.sameBut hs ?_⟩
     rintro rfl
     exact hj (Av hN e1 (I.ok.inj _ _ _ e hc ▸ hi))
  ·by_cases hcc:c'=c
   ·subst hcc; exact ⟨_,hc'⟩
   ·obtain ⟨w2,z2⟩:=I.cell y c' e
    exact ⟨w2,z2.sameBut hs hcc⟩
  ·obtain ⟨e,n,ne,nf,d⟩:=I.pin p hp
   refine ⟨(hs.2 p.1 ?_).trans e,n,ne,nf,d⟩
   intro q
   rw[q,hoc] at e
   have q':oc=p.2:=Option.some.inj e
   exact d w' (by rw[<- q']; exact hocd)
theorem iw {M:Model}{A:Around}{E:Value->Shared->Prop}{i:Nat}{x:Str}{v:V}{u:Value}{Q:Unit->Shared->Prop}(I:Inv X pins σ H s) (hN:X.N.Nodup) (hi:X.N[i]?=some x) (hx:Loc X.env.scope x) (r:RelV v u)
  (h:∀ s',Inv X pins (σ.set i (some v)) H s'->Q () s') (hf:X.fn x=true\/X.env.scope.names.lookup x=some .local:=by first | exact .inl rfl | exact .inr rfl | assumption):wpAny M A (storeName X.env x u) Q E s:=
 wJ I hN hi hx r (fun s' I' _=>h s' I') hf
theorem Inv.call' {s':Shared}{ch:List Addr}(I:Inv X pins σ H s) (ho:s'.os=s.os) (u:Un (frs X.stack) ch H H' s.heap s'.heap) (hok:HOk X.prog X.w H' s'.heap) (hg:AllBare s'.gens)
  (hch:∀ b∈ch,(b∈X.ex\/X.s₀.heap.objs.size<=b)/\b≠X.env.locals/\(∀ x c,X.env.cells.lookup x=some c->c≠b)/\∀ p∈X.pn ++ pins,p.1≠b):Inv X pins σ H' s':=by
 obtain ⟨h',g',d',t',o'⟩:=s'
 have e:o'=s.os:=ho
 subst e
 exact I.call (g':=g') (t':=t') (d':=d') u hok hg hch
end
abbrev XK:=Value->Option Addr->Hp->Prop
abbrev St:=List (Option V)
abbrev VK:=V->Hp->Prop
abbrev TE:=St->Hp->VK->Prop
abbrev TT:=St->Hp->(Bool->Hp->Prop)->Prop
abbrev TA:=St->Hp->(List V->Hp->Prop)->Prop
structure Ends where
 nx:St->Hp->Prop
 rt:VK
 bk:St->Hp->Prop:=fun _ _=>False
 ct:St->Hp->Prop:=fun _ _=>False
abbrev TS:=Ends->St->Hp->Prop
def EP (X:Cx) (pins:List (Addr×Obj)) (σ:St) (Q:VK) (u:Value) (s':Shared):Prop:=∃ v H',Inv X pins σ H' s'/\RelV v u/\Q v H'
def TP (X:Cx) (pins:List (Addr×Obj)) (σ:St) (Q:Bool->Hp->Prop) (b:Bool) (s':Shared):Prop:=∃ H',Inv X pins σ H' s'/\Q b H'
def AP (X:Cx) (pins:List (Addr×Obj)) (σ:St) (Q:List V->Hp->Prop) (us:List Value) (s':Shared):Prop:=∃ vs H',Inv X pins σ H' s'/\Vals vs us/\Q vs H'
def SP (X:Cx) (pins:List (Addr×Obj)) (D:Ends) (f:Flow) (s':Shared):Prop:=
 match f with
 | .next=>∃ σ' H',Inv X pins σ' H' s'/\D.nx σ' H'
 | .brk=>∃ σ' H',Inv X pins σ' H' s'/\D.bk σ' H'
 | .cont=>∃ σ' H',Inv X pins σ' H' s'/\D.ct σ' H'
 | .ret u=>∃ v σ' H',Inv X pins σ' H' s'/\RelV v u/\D.rt v H'
def PE (X:Cx) (e:Expr) (t:TE):Prop:=
 ∀ (pins:List (Addr×Obj)) (s:Shared) (σ:St) (H:Hp) (Q:VK),Inv X pins σ H s->t σ H Q->wpAny (model X.prog X.w) X.A (eval e X.env) (EP X pins σ Q) X.xe s
def PT (X:Cx) (e:Expr) (t:TT):Prop:=
 ∀ (pins:List (Addr×Obj)) (s:Shared) (σ:St) (H:Hp) (Q:Bool->Hp->Prop),Inv X pins σ H s->t σ H Q->wpAny (model X.prog X.w) X.A (isTrue e X.env (eval e X.env)) (TP X pins σ Q) X.xe s
def PW (X:Cx) (e:Expr) (t:TT):Prop:=
 ∀ (whole:Sem Value) (pins:List (Addr×Obj)) (s:Shared) (σ:St) (H:Hp) (Q:Bool->Hp->Prop),Inv X pins σ H s->t σ H Q->wpAny (model X.prog X.w) X.A (isTrue e X.env whole) (TP X pins σ Q) X.xe s
theorem PW.pt {X:Cx}{e:Expr}{t:TT}(h:PW X e t):PT X e t:=h _
def PA (X:Cx) (es:List Expr) (t:TA):Prop:=
 ∀ (pos:Pos) (pins:List (Addr×Obj)) (s:Shared) (σ:St) (H:Hp) (Q:List V->Hp->Prop),Inv X pins σ H s->t σ H Q->wpAny (model X.prog X.w) X.A (spliced (backTo pos (starEach es X.env))) (AP X pins σ Q) X.xe s
def PS (X:Cx) (st:Stmt) (t:TS):Prop:=
 ∀ (pins:List (Addr×Obj)) (s:Shared) (σ:St) (H:Hp) (D:Ends),Inv X pins σ H s->t D σ H->wpAny (model X.prog X.w) X.A (exec st X.env) (SP X pins D) X.xe s
def PSs (X:Cx) (st:List Stmt) (t:TS):Prop:=
 ∀ (pins:List (Addr×Obj)) (s:Shared) (σ:St) (H:Hp) (D:Ends),Inv X pins σ H s->t D σ H->wpAny (model X.prog X.w) X.A (execs st X.env) (SP X pins D) X.xe s
theorem thn {α:Type}{t:Sem α}{Q Q':α->Shared->Prop}{M:Model}{A:Around}{E:Value->Shared->Prop}{s:Shared}(h:wpAny M A t Q E s) (hQ:∀ a s,Q a s->Q' a s):wpAny M A t Q' E s:=wpAny_mono h hQ fun _ _ x=>x
theorem thE {t:Sem Value}{X:Cx}{pins:List (Addr×Obj)}{σ:St}{Q:VK}{Q':Value->Shared->Prop}{M:Model}{A:Around}{E:Value->Shared->Prop}{s:Shared}(h:wpAny M A t (EP X pins σ Q) E s) (hQ:∀ u s x H,Inv X pins σ H s->RelV x u->Q x H->Q' u s):wpAny M A t Q' E s:=thn h fun u s z=>by
 obtain ⟨x,H,I,r,q⟩:=z
 exact hQ u s x H I r q
theorem thA {t:Sem (List Value)}{X:Cx}{pins:List (Addr×Obj)}{σ:St}{Q:List V->Hp->Prop}{Q':List Value->Shared->Prop}{M:Model}{A:Around}{E:Value->Shared->Prop}{s:Shared}(h:wpAny M A t (AP X pins σ Q) E s) (hQ:∀ u s x H,Inv X pins σ H s->Vals x u->Q x H->Q' u s):wpAny M A t Q' E s:=thn h fun u s z=>by
 obtain ⟨x,H,I,r,q⟩:=z
 exact hQ u s x H I r q
theorem thT {t:Sem Bool}{X:Cx}{pins:List (Addr×Obj)}{σ:St}{Q:Bool->Hp->Prop}{Q':Bool->Shared->Prop}{M:Model}{A:Around}{E:Value->Shared->Prop}{s:Shared}(h:wpAny M A t (TP X pins σ Q) E s) (hQ:∀ u s H,Inv X pins σ H s->Q u H->Q' u s):wpAny M A t Q' E s:=thn h fun u s z=>by
 obtain ⟨H,I,q⟩:=z
 exact hQ u s H I q
section
variable {X:Cx}
def JZ (i:Nat):TE:=fun σ H Q=>∃ v,σ[i]?=some (some v)/\Q v H
def tC (v:V):TE:=fun _ H Q=>Q v H
theorem LK {i:Nat}{x:Str}{pos:Pos}(hN:X.N[i]?=some x) (hv:Vis X.env.scope x) (hd:(x == ("__debug__" : Str))=false:=by decide) (hcd:(x == ("__classdict__" : Str))=false:=by decide):PE X (.Name x pos) (JZ i):=by
 intro pins s σ H Q I h
 obtain ⟨v,e,h⟩:=h
 obtain ⟨m,hn,hl⟩:=I.loc
 obtain ⟨u,r,l⟩:=hl i x v hN e hv
 have fin:EP X pins σ Q u s:=⟨v,H,I,r,h⟩
 rcases l with ⟨hk,hm⟩ | ⟨hk,c,hc,hcell⟩
 ·exact wpAny_Name (wpAny_loadName_local I.ok.kind hk hn hm fin) hd
 ·rcases hk with hk | hk
  ·exact wpAny_Name (wpAny_loadName_cell I.ok.kind hk hc hcell fin) hd
  ·exact wpAny_Name (wpAny_loadName_free I.ok.kind hk hc hcell fin hcd) hd
theorem Wo {i j pos}:PE X (.Constant (.int i) j pos) (tC (.int i)):=fun _ _ _ H _ I h=>wpAny_Constant_int ⟨.int i,H,I.tok _,⟨_,rfl⟩,h⟩
theorem Yu {b j pos}:PE X (.Constant (.bool b) j pos) (tC (.bl b)):=fun _ _ _ H _ I h=>Constant_bool ⟨.bl b,H,I,rfl,h⟩
theorem Wm {j pos}:PE X (.Constant .none j pos) (tC .non):=fun _ _ _ H _ I h=>Constant_none ⟨.non,H,I,rfl,h⟩
theorem Wj {x j pos}:PE X (.Constant (.str x) j pos) (tC (.str x)):=fun _ _ _ H _ I h=>Calls.Constant_str ⟨.str x,H,I.tok _,⟨_,rfl⟩,h⟩
def Gl (X:Cx) (x:Str):Prop:=X.env.kindOf x=some .globalImplicit
theorem Td {E:Value->Shared->Prop}{pins:List (Addr×Obj)}{s:Shared}{σ:St}{H:Hp}{x:Str}{u:Value}{pos:Pos}{Q:Value->Shared->Prop}(I:Inv X pins σ H s) (hg:Gl X x) (hm:X.mg x=some u) (h:Q u s)
  (hd:(x == ("__debug__" : Str))=false:=by decide):wpAny (model X.prog X.w) X.A (eval (.Name x pos) X.env) Q E s:=
 Calls.Name_function_global I.ok.kind hg (Calls.loadGlobal_global (by rw[I.ok.glob]; exact I.mod.glob.keeps I.bk) hm h) hd
theorem iT {E:Value->Shared->Prop}{pins:List (Addr×Obj)}{s:Shared}{σ:St}{H:Hp}{x:Str}{u:Value}{pos:Pos}{Q:Value->Shared->Prop}(I:Inv X pins σ H s) (hg:Gl X x) (hm:X.mg x=none) (hv:bootBuiltins x=some u) (h:Q u s)
  (hn:x ≠ "__name__" := by decide) (hd:(x == ("__debug__" : Str))=false:=by decide):wpAny (model X.prog X.w) X.A (eval (.Name x pos) X.env) Q E s:=by
 obtain ⟨mb,h1,h2⟩:=I.mod.blt
 exact Calls.Name_function_global I.ok.kind hg (Calls.loadGlobal_builtin (by rw[I.ok.glob]; exact I.mod.glob.keeps I.bk) hm (by rw[I.ok.blt]; exact h1.keeps I.bk) ((h2 x hn).trans hv) h) hd
theorem RX {x:Str}{v:V}{u:Value}{pos:Pos}(hg:Gl X x) (hm:X.mg x=none) (hv:bootBuiltins x=some u) (r:RelV v u) (hn:x ≠ "__name__" := by decide) (hd:(x == ("__debug__" : Str))=false:=by decide):PE X (.Name x pos) (tC v):=
 fun _ _ _ H _ I h=>iT I hg hm hv ⟨v,H,I,r,h⟩ hn hd
variable {a b:Expr}{ta tb:TE}{pos:Pos}
def tB (t:TE):TT:=fun σ H Q=>t σ H fun x H1=>∃ c,x=.bl c/\Q c H1
theorem V6 {e:Expr}{t:TE}(h:PE X e t) (he:∀ whole,isTrue e X.env whole=(do let v <- whole; standAt e.pos; holding [v] (truthy v)):=by intro _; rfl):PT X e (tB t):=by
 intro pins s σ H Q I hw
 refine isTrue_plain (thE (h pins s σ H _ I hw) fun v s1 x H1 I1 r1 q1=>?_) (he _)
 obtain ⟨d,rfl,q⟩:=q1
 cases r1
 exact wpAny_truthy_bool ⟨H1,I1,q⟩
variable {tA tB':TT}{rest:List Expr}
def Qq (t u:TT):TT:=fun σ H Q=>t σ H fun c H1=>if c=true then u σ H1 Q else Q false H1
def tOr (t u:TT):TT:=fun σ H Q=>t σ H fun c H1=>if c=true then Q true H1 else u σ H1 Q
def Qo (t:TT):TT:=fun σ H Q=>t σ H fun c H1=>Q (!c) H1
theorem Rm (ha:PT X a tA):PW X (.BoolOp .And [a] pos) tA:=by
 intro wh pins s σ H Q I h
 refine isTrue_and (thn (ha pins s σ H Q I h) fun c s1 e=>?_)
 cases c with
 | true=>exact isTrue_and_nil e
 | false=>exact e
theorem V3 (ha:PT X a tA):PW X (.BoolOp .Or [a] pos) tA:=by
 intro wh pins s σ H Q I h
 refine isTrue_or (thn (ha pins s σ H Q I h) fun c s1 e=>?_)
 cases c with
 | false=>exact isTrue_or_nil e
 | true=>exact e
theorem V5 (ha:PT X a tA) (hb:PW X (.BoolOp .And (b :: rest) pos) tB'):PW X (.BoolOp .And (a :: b :: rest) pos) (Qq tA tB'):=by
 intro wh pins s σ H Q I h
 refine isTrue_and (thT (ha pins s σ H _ I h) fun c s1 H1 I1 q1=>?_)
 cases c with
 | true=>exact hb wh pins s1 σ H1 Q I1 q1
 | false=>exact ⟨H1,I1,q1⟩
theorem Yj (ha:PT X a tA) (hb:PW X (.BoolOp .Or (b :: rest) pos) tB'):PW X (.BoolOp .Or (a :: b :: rest) pos) (tOr tA tB'):=by
 intro wh pins s σ H Q I h
 refine isTrue_or (thT (ha pins s σ H _ I h) fun c s1 H1 I1 q1=>?_)
 cases c with
 | true=>exact ⟨H1,I1,q1⟩
 | false=>exact hb wh pins s1 σ H1 Q I1 q1
theorem V8 (ha:PT X a tA):PT X (.UnaryOp .Not a pos) (Qo tA):=by
 intro pins s σ H Q I h
 exact isTrue_not (ha pins s σ H (fun c H1=>Q (!c) H1) I h)
def Kf (ta tb:TE):TE:=fun σ H Q=>ta σ H fun x H1=>∃ c,x=.bl c/\if c=true then tb σ H1 Q else Q (.bl false) H1
def J2 (ta:TE):TE:=fun σ H Q=>ta σ H fun x H1=>∃ c,x=.bl c/\Q (.bl (!c)) H1
theorem Wk {op}{t:TE}(h:PE X a t):PE X (.BoolOp op [a] pos) t:=fun pins s σ H Q I hw=>BoolOp_one (h pins s σ H Q I hw)
theorem Wr (ha:PE X a ta) (hb:PE X (.BoolOp .And (b :: rest) pos) tb):PE X (.BoolOp .And (a :: b :: rest) pos) (Kf ta tb):=by
 intro pins s σ H Q I h
 refine BoolOp_and (thE (ha pins s σ H _ I h) fun v s1 x H1 I1 r1 q1=>?_)
 obtain ⟨c,rfl,q1⟩:=q1
 cases r1
 refine wpAny_truthy_bool ?_
 cases c with
 | true=>exact hb pins s1 σ H1 Q I1 q1
 | false=>exact ⟨.bl false,H1,I1,rfl,q1⟩
theorem Wl (ha:PE X a ta):PE X (.UnaryOp .Not a pos) (J2 ta):=by
 intro pins s σ H Q I h
 refine UnaryOp_ (thE (ha pins s σ H _ I h) fun v s1 x H1 I1 r1 q1=>?_)
 obtain ⟨c,rfl,q1⟩:=q1
 cases r1
 exact not_of (wpAny_truthy_bool ⟨.bl (!c),H1,I1,rfl,q1⟩)
def tIf (t:TT) (ta tb:TE):TE:=fun σ H Q=>t σ H fun c H1=>if c=true then ta σ H1 Q else tb σ H1 Q
theorem Ma {c:Expr}(hc:PT X c tA) (ha:PE X a ta) (hb:PE X b tb):PE X (.IfExp c a b pos) (tIf tA ta tb):=by
 intro pins s σ H Q I h
 refine wpAny_IfExp (thT (hc pins s σ H _ I h) fun d s1 H1 I1 q1=>?_)
 cases d with
 | true=>exact ha pins s1 σ H1 Q I1 q1
 | false=>exact hb pins s1 σ H1 Q I1 q1
end
def SqL (K:PySem.W.Frag) (H:Hp) (a:Addr) (xs:List V):Prop:=
 Rd H a (.lst xs) \/
  ∃ (o:Obj) (its:Array Value) (n:Nat),K.lookup a=some o/\o.cls=.type "list" /\ o.dict=none/\o.data=.seq its n/\its.size<=sizeLine/\Vals xs its.toList
def SqT (K:PySem.W.Frag) (H:Hp) (a:Addr) (xs:List V):Prop:=
 Rd H a (.tup xs) \/
  ∃ (o:Obj) (its:Array Value) (n:Nat),K.lookup a=some o/\o.cls=.type "tuple" /\ o.data=.seq its n/\its.size<=sizeLine/\Vals xs its.toList
def Zo:Value->Option V
 | .none=>some .non
 | .bool b=>some (.bl b)
 | .int i _=>some (.int i)
 | .str x _=>some (.str x)
 | .bytes b _=>some (.byt b)
 | .float b _=>some (.flt b)
 | .ref a=>some (.ref a)
 | .type n=>some (.ty n)
 | _=>none
theorem RelV.abs {x:V}{u:Value}(r:RelV x u):Zo u=some x:=by
 cases x with
 | non=>cases r; rfl
 | bl _=>cases r; rfl
 | int _=>obtain ⟨t,rfl⟩:=r; rfl
 | str _=>obtain ⟨t,rfl⟩:=r; rfl
 | byt _=>obtain ⟨t,rfl⟩:=r; rfl
 | flt _=>obtain ⟨t,rfl⟩:=r; rfl
 | ref _=>cases r; rfl
 | ty _=>cases r; rfl
theorem RelV.inj {x y:V}{u:Value}(r:RelV x u) (q:RelV y u):x=y:=Option.some.inj (r.abs.symm.trans q.abs)
theorem Vals.inj:∀ {xs ys:List V}{us:List Value},Vals xs us->Vals ys us->xs=ys
 | _,_,_,.nil,.nil=>rfl
 | _,_,_,.cons r t,.cons r' t'=>by rw[r.inj r',Vals.inj t t']
section
variable {X:Cx}{pins:List (Addr×Obj)}{σ:St}{H:Hp}{s:Shared}{a:Addr}{xs ys:List V}
theorem SqL.of {K:PySem.W.Frag}(h:H a=some (.lst xs)):SqL K H a xs:=.inl (.inl h)
theorem SqT.of {K:PySem.W.Frag}(h:H a=some (.tup xs)):SqT K H a xs:=.inl (.inl h)
theorem Inv.list (I:Inv X pins σ H s) (h:SqL X.K H a xs):∃ its:List Value,Vals xs its/\PlainL s.heap a its.toArray/\xs.length<=sizeLine:=by
 rcases h with h | ⟨o,its,n,hk,hc,hd,hs,hz,r⟩
 ·obtain ⟨z,its,n,r,e⟩:=h.ok I.hok
  exact ⟨its,r,⟨_,n,e,rfl,rfl,rfl⟩,z⟩
 ·refine ⟨its.toList,r,⟨o,n,I.kIn a o hk,hc,hd,by simpa using hs⟩,?_⟩
  have e:=r.length
  simp only[Array.length_toList] at e
  omega
theorem Inv.tuple (I:Inv X pins σ H s) (h:SqT X.K H a xs):∃ its:List Value,Vals xs its/\IsTup s.heap a its.toArray/\xs.length<=sizeLine:=by
 rcases h with h | ⟨o,its,n,hk,hc,hs,hz,r⟩
 ·obtain ⟨z,its,r,p⟩:=h.ok I.hok
  exact ⟨its,r,p,z⟩
 ·refine ⟨its.toList,r,⟨o,I.kIn a o hk,hc,n,by simpa using hs⟩,?_⟩
  have e:=r.length
  simp only[Array.length_toList] at e
  omega
theorem Inv.qy (I:Inv X pins σ H s) (h:SqL X.K H a xs) (h':SqL X.K H a ys):xs=ys:=by
 obtain ⟨its,r,⟨o,n,e,_,_,d⟩,_⟩:=I.list h
 obtain ⟨its',r',⟨o',n',e',_,_,d'⟩,_⟩:=I.list h'
 rw[e] at e'; cases e'
 rw[d] at d'
 injection d' with d1 _
 have:its=its':=by simpa using congrArg Array.toList d1
 subst this
 exact r.inj r'
theorem Inv.qR (I:Inv X pins σ H s) (h:SqT X.K H a xs) (h':SqT X.K H a ys):xs=ys:=by
 obtain ⟨its,r,⟨o,e,_,n,d⟩,_⟩:=I.tuple h
 obtain ⟨its',r',⟨o',e',_,n',d'⟩,_⟩:=I.tuple h'
 rw[e] at e'; cases e'
 rw[d] at d'
 injection d' with d1 _
 have:its=its':=by simpa using congrArg Array.toList d1
 subst this
 exact r.inj r'
end
abbrev Cx.wish (X:Cx) (E:Value->Shared->Prop):Cx:={ X with xe:=E }
abbrev Cx.nox (X:Cx):Cx:=X.wish fun _ _=>False
theorem Cx.Ok.wish {X:Cx}(ok:X.Ok) (E:Value->Shared->Prop):(X.wish E).Ok:=
 ⟨ok.mod,ok.kind,ok.glob,ok.blt,ok.above,ok.inj,ok.has,ok.cab,ok.hd,ok.frames,ok.stk,ok.exf,ok.bs,ok.bsz,ok.noex,ok.exfs,ok.tK,ok.frf⟩
theorem Cx.Ok.mD {X:Cx}{E:Value->Shared->Prop}(ok:(X.wish E).Ok):X.Ok:=
 ⟨ok.mod,ok.kind,ok.glob,ok.blt,ok.above,ok.inj,ok.has,ok.cab,ok.hd,ok.frames,ok.stk,ok.exf,ok.bs,ok.bsz,ok.noex,ok.exfs,ok.tK,ok.frf⟩
section
variable {X:Cx}{pins:List (Addr×Obj)}{σ:St}{H:Hp}{s:Shared}{E:Value->Shared->Prop}
theorem Inv.wish (I:Inv X pins σ H s) (E:Value->Shared->Prop):Inv (X.wish E) pins σ H s:=⟨I.ok.wish E,I.os,I.bare,I.base,I.loc,I.cell,I.free,I.freeC,I.pin,I.hok,I.len⟩
theorem Inv.mD (I:Inv (X.wish E) pins σ H s):Inv X pins σ H s:=⟨I.ok.mD,I.os,I.bare,I.base,I.loc,I.cell,I.free,I.freeC,I.pin,I.hok,I.len⟩
theorem SP.mD {D:Ends}{f:Flow}{s':Shared}(h:SP (X.wish E) pins D f s'):SP X pins D f s':=by
 cases f with
 | next=>obtain ⟨σ',H',I,q⟩:=h; exact ⟨σ',H',I.mD,q⟩
 | brk=>obtain ⟨σ',H',I,q⟩:=h; exact ⟨σ',H',I.mD,q⟩
 | cont=>obtain ⟨σ',H',I,q⟩:=h; exact ⟨σ',H',I.mD,q⟩
 | ret u=>obtain ⟨v,σ',H',I,r,q⟩:=h; exact ⟨v,σ',H',I.mD,r,q⟩
theorem PSs.nox {st:List Stmt}{t:TS}(h:PSs X.nox st t):PSs X st t:=fun pins s σ H D I hw=>
 wpAny_mono (h pins s σ H D (I.wish _) hw) (fun _ _ q=>q.mD) fun _ _ z=>False.elim z
end
section
variable {X:Cx}{st:Stmt}{rest:List Stmt}{t u:TS}{e:Expr}{te:TE}{pos:Pos}
def zU:TS:=fun D σ H=>D.nx σ H
def CT (t u:TS):TS:=fun D σ H=>t { D with nx:=u D } σ H
theorem Rt:PSs X [] zU:=fun _ _ σ H _ I h=>wpAny_execs_nil ⟨σ,H,I,h⟩
theorem Ls (h1:PS X st t) (h2:PSs X rest u):PSs X (st :: rest) (CT t u):=by
 intro pins s σ H D I h
 refine wpAny_execs_cons (thn (h1 pins s σ H { D with nx:=u D } I h) fun f s1 q=>?_)
 cases f with
 | next=>
  obtain ⟨σ',H',I',q⟩:=q
  exact h2 pins s1 σ' H' D I' q
 | ret v=>exact q
 | brk=>exact q
 | cont=>exact q
theorem Rr (h1:PS X st t):PSs X [st] t:=by
 intro pins s σ H D I h
 refine wpAny_execs_cons (thn (h1 pins s σ H D I h) fun f s1 q=>?_)
 cases f with
 | next=>exact wpAny_execs_nil q
 | ret v=>exact q
 | brk=>exact q
 | cont=>exact q
theorem Inv.quiet {pins:List (Addr×Obj)}{σ:St}{H:Hp}{s:Shared}(I:Inv X pins σ H s):interactive X.env=false:=by simp [interactive,I.ok.kind]
def J8 (te:TE):TS:=fun D σ H=>te σ H fun _ H1=>D.nx σ H1
theorem Rw (he:PE X e te) (hs:swapsWith e none pos.line X.env=pure false:=by rfl):PS X (.Expr e pos) (J8 te):=by
 intro pins s σ H D I h
 exact wpAny_Expr_any (thE (he pins s σ H _ I h) fun v s1 x H1 I1 r1 q1=>⟨σ,H1,I1,q1⟩) I.quiet hs
def zT (te:TE):TS:=fun D σ H=>te σ H D.rt
theorem Wa (he:PE X e te):PS X (.Return (some e) pos) (zT te):=by
 intro pins s σ H D I h
 exact wpAny_Return_some (thE (he pins s σ H _ I h) fun v s1 x H1 I1 r1 q1=>⟨x,σ,H1,I1,r1,q1⟩)
def J5 (c:TT) (t u:TS):TS:=fun D σ H=>c σ H fun b H1=>if b=true then t D σ H1 else u D σ H1
theorem Yl {c:Expr}{a b:List Stmt}{tc:TT}(hc:PT X c tc) (ha:PSs X a t) (hb:PSs X b u):PS X (.If c a b pos) (J5 tc t u):=by
 intro pins s σ H D I h
 refine wpAny_If (thT (hc pins s σ H _ I h) fun d s1 H1 I1 q1=>?_)
 cases d with
 | true=>exact ha pins s1 σ H1 D I1 q1
 | false=>exact hb pins s1 σ H1 D I1 q1
end
abbrev TG:=V->St->Hp->(St->Hp->Prop)->Prop
abbrev TGs:=List V->St->Hp->(St->Hp->Prop)->Prop
def PG (X:Cx) (target:Expr) (t:TG):Prop:=
 ∀ (pins:List (Addr×Obj)) (s:Shared) (σ:St) (H:Hp) (v:V) (u:Value) (Q:St->Hp->Prop),Inv X pins σ H s->RelV v u->t v σ H Q ->
  wpAny (model X.prog X.w) X.A (assign target X.env u) (fun _ s'=>∃ σ' H',Inv X pins σ' H' s'/\Q σ' H') X.xe s
def PGs (X:Cx) (ts:List Expr) (t:TGs):Prop:=
 ∀ (pins:List (Addr×Obj)) (s:Shared) (σ:St) (H:Hp) (vs:List V) (us:List Value) (Q:St->Hp->Prop),Inv X pins σ H s->Vals vs us->t vs σ H Q ->
  wpAny (model X.prog X.w) X.A (assignInOrder ((assignEach ts X.env).map (·.2)) us) (fun _ s'=>∃ σ' H',Inv X pins σ' H' s'/\Q σ' H') X.xe s
abbrev PJ:=V->V->V->Hp->(Hp->Prop)->Prop
def PL (X:Cx) (t:PJ):Prop:=
 ∀ (pins:List (Addr×Obj)) (s:Shared) (σ:St) (H:Hp) (o i v:V) (ov iv u:Value) (Q:Hp->Prop),Inv X pins σ H s->RelV o ov->RelV i iv->RelV v u->t o i v H Q ->
  wpAny (model X.prog X.w) X.A (setItem ov iv u) (fun _ s'=>∃ H',Inv X pins σ H' s'/\Q H') X.xe s
abbrev TIp:=V->V->Hp->VK->Prop
def PIp (X:Cx) (op:Operator) (t:TIp):Prop:=
 ∀ (pins:List (Addr×Obj)) (s:Shared) (σ:St) (H:Hp) (x y:V) (v u:Value) (Q:VK),Inv X pins σ H s->RelV x v->RelV y u->t x y H Q ->
  wpAny (model X.prog X.w) X.A (inplaceOp op v u) (EP X pins σ Q) X.xe s
section
variable {X:Cx}{pos:Pos}
def ju (i:Nat):TG:=fun v σ H Q=>Q (σ.set i (some v)) H
theorem FZ {i:Nat}{x:Str}(hN:X.N.Nodup) (hi:X.N[i]?=some x) (hx:Loc X.env.scope x) (hf:X.fn x=true\/X.env.scope.names.lookup x=some .local:=by first | exact .inl rfl | exact .inr rfl | assumption):PG X (.Name x pos) (ju i):=by
 intro pins s σ H v u Q I r h
 exact wpAny_assign_Name (iw I hN hi hx r (fun s' I'=>⟨_,H,I',h⟩) hf)
def Xr:TGs:=fun vs σ H Q=>vs=[]/\Q σ H
def N6 (t:TG) (u:TGs):TGs:=fun vs σ H Q=>∃ v r,vs=v :: r/\t v σ H fun σ' H'=>u r σ' H' Q
theorem RL:PGs X [] Xr:=by
 intro pins s σ H vs us Q I r h
 obtain ⟨e,h⟩:=h
 subst e
 cases r
 exact assignInOrder_nil ⟨σ,H,I,h⟩
theorem Lz {e:Expr}{es:List Expr}{t:TG}{u:TGs}(h1:PG X e t) (h2:PGs X es u)
  (hs:(assignEach (e :: es) X.env).map (·.2)=assign e X.env :: (assignEach es X.env).map (·.2):=by rfl):PGs X (e :: es) (N6 t u):=by
 intro pins s σ H vs us Q I r h
 obtain ⟨v,vr,e1,h⟩:=h
 subst e1
 cases r with
 | cons r rr=>
  rw[hs]
  refine assignInOrder_cons (thn (h1 pins s σ H _ _ _ I r h) fun _ s1 ⟨σ1,H1,I1,q1⟩=>?_)
  exact h2 pins s1 σ1 H1 _ _ Q I1 rr q1
def Zn (K:PySem.W.Frag) (n:Nat) (t:TGs):TG:=fun v σ H Q=>∃ a xs,v=.ref a/\SqT K H a xs/\xs.length=n/\t xs σ H Q
theorem Wh {es:List Expr}{k:Nat}{t:TGs}{n:Nat}(hc:X.calm=true) (h:PGs X es t)
  (hn:(assignEach es X.env).length=n:=by rfl) (hst:(assignEach es X.env).findIdx? (·.1)=none:=by rfl):PG X (.Tuple es k pos) (Zn X.K n t):=by
 intro pins s σ H v u Q I r hw
 obtain ⟨a,xs,e1,hq,hl,hw⟩:=hw
 subst e1
 cases r
 obtain ⟨its,rv,ht,hz⟩:=I.tuple hq
 refine assign_Tuple_tuple (I.ok.hd hc) ht (by simp [hn,<- hl,rv.length]) hst fun h' hx=>?_
 have I1:Inv X pins σ H { s with heap:=h' }:=I.kept (t':=s.toks) fun b o e=>hx b o (Nat.ne_of_lt (Heap.lt_size e)) e
 exact h pins _ σ H xs _ Q I1 (by simpa using rv) hw
def T7 (to ti:TE) (t:PJ):TG:=fun v σ H Q=>to σ H fun o H1=>ti σ H1 fun i H2=>t o i v H2 fun H3=>Q σ H3
theorem LC {o i:Expr}{to ti:TE}{t:PJ}(ho:PE X o to) (hi:PE X i ti) (hs:PL X t)
  (ha:∀ v,assign (.Subscript o i pos) X.env v=(do
   let ov <- holding [v] (eval o X.env)
   let iv <- holding [v,ov] (eval i X.env)
   standAt pos
   holding [v,ov,iv] (setItem ov iv v)
   release [v,ov,iv] []):=by intro _; rfl):PG X (.Subscript o i pos) (T7 to ti t):=by
 intro pins s σ H v u Q I r h
 rw[ha]
 refine wpAny_bind (wpAny_holding (thE (ho pins s σ H _ I h) fun ov s1 x H1 I1 r1 q1=>?_))
 refine wpAny_bind (wpAny_holding (thE (hi pins s1 σ H1 _ I1 q1) fun iv s2 y H2 I2 r2 q2=>?_))
 refine wpAny_bind (wpAny_standAt (wpAny_bind (wpAny_holding (thn (hs pins s2 σ H2 x y v ov iv u _ I2 r1 r2 r q2) fun _ s3 ⟨H3,I3,q3⟩=>?_))))
 exact wpAny_release ⟨σ,H3,I3,q3⟩
def sW (te:TE) (g:TG):TS:=fun D σ H=>te σ H fun x H1=>g x σ H1 D.nx
theorem Wf {tg e:Expr}{te:TE}{g:TG}(he:PE X e te) (hg:PG X tg g) (hs:swapsWithSole [tg] e pos.line X.env=pure false:=by rfl) (hw:swappedStores [tg] e X.env=pure none:=by rfl)
  (h1:(assignEach [tg] X.env).map (·.2)=[assign tg X.env]:=by rfl):PS X (.Assign [tg] e pos) (sW te g):=by
 intro pins s σ H D I h
 refine wpAny_Assign_stores (thE (he pins s σ H _ I h) fun v s1 x H1 I1 r1 q1=>?_) hs hw
 rw[h1]
 exact thn (hg pins s1 σ H1 x v _ I1 r1 q1) fun _ s2 q=>q
theorem V9 {i:Nat}{x:Str}{e:Expr}{te:TE}{pos':Pos}(hN:X.N.Nodup) (hi:X.N[i]?=some x) (hx:Loc X.env.scope x) (he:PE X e te) (hs:swapsWith e (some (.Name x pos')) pos.line X.env=pure false:=by rfl) (hf:X.fn x=true\/X.env.scope.names.lookup x=some .local:=by first | exact .inl rfl | exact .inr rfl | assumption) :
  PS X (.Assign [.Name x pos'] e pos) (sW te (ju i)):=by
 intro pins s σ H D I h
 refine wpAny_Assign_Name (thE (he pins s σ H _ I h) fun v s1 y H1 I1 r1 q1=>?_) hs
 exact iw I1 hN hi hx r1 (fun s2 I2=>⟨_,H1,I2,q1⟩) hf
def Vr (i j:Nat) (ta:TA):TS:=fun D σ H=>ta σ H fun vs H1=>∃ v w,vs=[v,w]/\D.nx ((σ.set i (some v)).set j (some w)) H1
theorem Wb {i j:Nat}{x y:Str}{a b:Expr}{ta:TA}{px py pt:Pos}{kt k2 pt2} (hc:X.calm=true) (hN:X.N.Nodup) (hi:X.N[i]?=some x) (hj:X.N[j]?=some y) (hij:i≠j)
  (hx:X.env.scope.names.lookup x=some .local) (hy:X.env.scope.names.lookup y=some .local) (ha:PA X [a,b] ta)
  (hw:swappedStores [.Tuple [.Name x px,.Name y py] kt pt] (.Tuple [a,b] k2 pt2) X.env=pure (some [x,y]))
  (hs:swapsWithSole [.Tuple [.Name x px,.Name y py] kt pt] (.Tuple [a,b] k2 pt2) pos.line X.env=pure false:=by rfl) :
  PS X (.Assign [.Tuple [.Name x px,.Name y py] kt pt] (.Tuple [a,b] k2 pt2) pos) (Vr i j ta):=by
 intro pins s σ H D I h
 rw[exec_Assign_arm]
 refine wpAny_bind (wpAny_standAt ?_)
 rw[hs]
 refine wpAny_bind (wpAny_pure ?_)
 rw[if_neg δ]
 refine wpAny_bind (Tuple_ (thA (ha _ pins s σ H _ I h) fun us s1 vs H1 I1 r1 q1=>?_))
 obtain ⟨v,w,e1,q1⟩:=q1
 subst e1
 obtain ⟨u1,u2,rfl,rv,rw'⟩:∃ u1 u2,us=[u1,u2]/\RelV v u1/\RelV w u2:=by
  cases r1 with
  | cons p q=>
   cases q with
   | cons p' q'=>
    cases q'
    exact ⟨_,_,rfl,p,p'⟩
 refine wpAny_newObj_type ?_ (by show 2<=sizeLine; decide)
 have I2:Inv X pins σ H1 { s1 with heap:=s1.heap.push { cls:=.type "tuple",data:=.seq [u1,u2].toArray } }:=I1.kept (t':=s1.toks) fun b o e=>Heap.get?_push_of_some _ e
 rw[hw]
 refine wpAny_bind (wpAny_pure ?_)
 show wpAny (model X.prog X.w) X.A (do rule "assign.swapped-stores"; let items <- unpackItems (.ref s1.heap.objs.size) 2 none; assignInOrder [fun v=>bindName X.env y v,fun v=>bindName X.env x v] items.reverse; pure Flow.next) _ _ _
 refine wpAny_bind (wpAny_rule (wpAny_bind (unpackItems_tuple (items:=#[u1,u2]) (I.ok.hd hc) (IsTup.new s1.heap _) fun h' hx'=>?_)))
 have I3:=I2.kept (h':=h') (t':=s1.toks) fun b o e=>hx' b o (Nat.ne_of_lt (Heap.lt_size e)) e
 show wpAny _ _ (assignInOrder [fun v=>bindName X.env y v,fun v=>bindName X.env x v] [u2,u1] >>= fun _=>pure Flow.next) _ _ _
 refine wpAny_bind (assignInOrder_cons (wpAny_bindName (iw I3 hN hj (.inl hy) rw' (fun s2 I4=>?_) (.inr hy))))
 refine assignInOrder_cons (wpAny_bindName (iw I4 hN hi (.inl hx) rv (fun s3 I5=>assignInOrder_nil (wpAny_pure ?_)) (.inr hx)))
 rw[List.set_comm _ _ (Ne.symm hij)] at I5
 exact ⟨_,H1,I5,q1⟩
def Vs (i:Nat) (te:TE) (ti:TIp):TS:=fun D σ H=>∃ x,σ[i]?=some (some x)/\te σ H fun y H1=>ti x y H1 fun z H2=>D.nx (σ.set i (some z)) H2
theorem Wd {i:Nat}{x:Str}{e:Expr}{te:TE}{op:Operator}{ti:TIp}{pos':Pos}(hN:X.N.Nodup) (hi:X.N[i]?=some x) (hx:Loc X.env.scope x) (he:PE X e te) (ho:PIp X op ti) (hf:X.fn x=true\/X.env.scope.names.lookup x=some .local:=by first | exact .inl rfl | exact .inr rfl | assumption) :
  PS X (.AugAssign (.Name x pos') op e pos) (Vs i te ti):=by
 intro pins s σ H D I h
 obtain ⟨v,e1,h⟩:=h
 obtain ⟨m,hn,hl⟩:=I.loc
 have vis:Vis X.env.scope x:=by rcases hx with k | k; exact .inl k; exact .inr (.inl k)
 obtain ⟨u,r,l⟩:=hl i x v hi e1 vis
 refine wpAny_AugAssign_Name ?_
 have go:wpAny (model X.prog X.w) X.A (eval e X.env) (fun w s₂=>wpAny (model X.prog X.w) X.A (inplaceOp op u w) (fun r s₃=>wpAny (model X.prog X.w) X.A (storeName X.env x r) (fun _=>SP X pins D .next) X.xe s₃) X.xe s₂) X.xe s:=by
  refine thE (he pins s σ H _ I h) fun w s1 y H1 I1 r1 q1=>?_
  refine thE (ho pins s1 σ H1 v y u w _ I1 r r1 q1) fun z s2 zv H2 I2 r2 q2=>?_
  exact iw I2 hN hi hx r2 (fun s3 I3=>⟨_,H2,I3,q2⟩) hf
 rcases l with ⟨hk,hm⟩ | ⟨hk,c,hc,hcell⟩
 ·exact wpAny_loadName_local I.ok.kind hk hn hm go
 ·rcases hk with hk | hk
  ·exact wpAny_loadName_cell I.ok.kind hk hc hcell go
  ·rcases hx with k | k
   ·have:X.env.scope.names.lookup x=some .free:=hk
    rw[k] at this; cases this
   ·have:X.env.scope.names.lookup x=some .free:=hk
    rw[k] at this; cases this
def ipI (f:Int->Int->Int):TIp:=fun x y H Q=>∃ i j,x=.int i/\y=.int j/\Q (.int (f i j)) H
theorem Xn:PIp X .Add (ipI fun i j=>i + j):=by
 intro pins s σ H x y v u Q I r1 r2 h
 obtain ⟨i,j,e1,e2,q⟩:=h
 subst e1; subst e2
 obtain ⟨t,rfl⟩:=r1
 obtain ⟨t',rfl⟩:=r2
 exact iadd_int ⟨.int _,H,I.tok _,⟨_,rfl⟩,q⟩
def xZ (c:TT) (tb:TS):TS:=fun D σ H=>∃ W:Nat->St->Hp->Prop,(∃ m,W m σ H)/\∀ m σ H,W m σ H ->
 c σ H fun b H1=>if b=true then ∃ N:St->Hp->Prop,(∀ σ' H',N σ' H'->∃ m',m' < m/\W m' σ' H')/\tb { D with nx:=N,ct:=N,bk:=D.nx } σ H1 else D.nx σ H1
theorem Lw {c:Expr}{body:List Stmt}{tc:TT}{tb:TS}(hp:PassesOwn (model X.prog X.w) X.A X.env X.xe) (hc:PT X c tc) (hb:PSs X body tb):PS X (.While c body [] pos) (xZ tc tb):=by
 intro pins s σ H D I h
 obtain ⟨W,⟨m0,w0⟩,turn⟩:=h
 refine wpAny_While (codeAny_whileLoop (fun n s'=>∃ σ' H',Inv X pins σ' H' s'/\W n σ' H') ?_ m0 ⟨σ,H,I,w0⟩)
 rintro n s1 ⟨σ1,H1,I1,w1⟩
 refine wpAny_passesOwn hp (thT (hc pins s1 σ1 H1 _ I1 (turn n σ1 H1 w1)) fun b s2 H2 I2 q2=>?_)
 cases b with
 | true=>
  obtain ⟨N,hN,q2⟩:=q2
  rw[if_pos rfl]
  refine wpAny_passesOwn hp (thn (hb pins s2 σ1 H2 _ I2 q2) fun f s3 q3=>?_)
  cases f with
  | next=>
   obtain ⟨σ3,H3,I3,n3⟩:=q3
   obtain ⟨m',hm,w3⟩:=hN σ3 H3 n3
   exact ⟨m',hm,σ3,H3,I3,w3⟩
  | cont=>
   obtain ⟨σ3,H3,I3,n3⟩:=q3
   obtain ⟨m',hm,w3⟩:=hN σ3 H3 n3
   exact ⟨m',hm,σ3,H3,I3,w3⟩
  | brk=>exact q3
  | ret v=>exact q3
 | false=>
  rw[if_neg Bool.false_ne_true]
  exact wpAny_execs_nil ⟨σ1,H2,I2,q2⟩
end
structure It where
 go:Nat->Hp->Prop
 yld:Nat->Hp->V->Hp->Prop
 stop:Nat->Hp->Prop
def rZ (X:Cx) (pins:List (Addr×Obj)) (H:Hp) (b:Addr):Prop:=
 H b=none/\b≠X.env.locals/\b∉X.fs/\(b∈X.ex\/X.s₀.heap.objs.size<=b)/\(∀ x c,X.env.cells.lookup x=some c->c≠b)/\∀ p∈X.pn ++ pins,p.1≠b
theorem Inv.Ob {X:Cx}{pins:List (Addr×Obj)}{σ:St}{H H':Hp}{s:Shared}{b:Addr}(I:Inv X pins σ H s) (hb:s.heap.objs.size<=b) (hn:H' b=none):rZ X pins H' b:=by
 refine ⟨hn,Nat.ne_of_gt (Nat.lt_of_lt_of_le I.lt hb),I.WR hb,.inr (Nat.le_trans I.sz hb),fun x c e z=>?_,fun p hp z=>?_⟩
 ·obtain ⟨v,q⟩:=I.cell x c e
  exact absurd (Nat.lt_of_lt_of_le q.lt (by rw[z]; exact hb)) (Nat.lt_irrefl _)
 ·exact absurd (Nat.lt_of_lt_of_le (Heap.lt_size (I.pin p hp).1) (by rw[z]; exact hb)) (Nat.lt_irrefl _)
structure Turn (P:Program) (w:World) (K:PySem.W.Frag) (tg:Expr) (J:It) (fp:List Addr) (it:Addr) (tn:Nat->Heap->Prop):Prop where
 mem:it∈fp
 obj:∀ i h,tn i h->∀ b∈fp,∃ o,h.get? b=some o/\∀ v,o.data≠.cell v
 keep:∀ i h h',tn i h->(∀ b∈fp,∀ o,h.get? b=some o->h'.get? b=some o)->tn i h'
 item:∀ (X:Cx),X.prog=P->X.w=w->X.K=K->X.calm=true->∀ (i:Nat) (pins:List (Addr×Obj)) (s:Shared) (σ:St) (H:Hp) (E:Value->Shared->Prop),Inv X pins σ H s->(∀ b∈fp,rZ X pins H b)->tn i s.heap->J.go i H ->
  wpAny (model P w) X.A (pyNext (.ref it)) (fun r s1=>∃ u,r=some u /\
   wpAny (model P w) X.A (letOwnedTupleGo tg (.ref it) u) (fun _ s2=>∃ x H',Inv X pins σ H' s2/\RelV x u/\J.yld i H x H'/\tn (i + 1) s2.heap/\∀ b∈fp,H' b=none) E s1) E s
 done:∀ (X:Cx),X.prog=P->X.w=w->X.K=K->X.calm=true->∀ (i:Nat) (pins:List (Addr×Obj)) (s:Shared) (σ:St) (H:Hp) (E:Value->Shared->Prop),Inv X pins σ H s->(∀ b∈fp,rZ X pins H b)->tn i s.heap->J.stop i H ->
  wpAny (model P w) X.A (pyNext (.ref it)) (fun r s1=>r=none/\Inv X pins σ H s1) E s
 self:∀ (A:Around) (i:Nat) (s:Shared) (Q:Value->Shared->Prop) (E:Value->Shared->Prop),tn i s.heap->Q (.ref it) s->wpAny (model P w) A (pyIter (.ref it)) Q E s
abbrev TI:=St->Hp->(It->Hp->Prop)->Prop
def PIE (X:Cx) (pins:List (Addr×Obj)) (σ:St) (tg:Expr) (R:It->Hp->Prop) (itv:Value) (s2:Shared):Prop:=
 ∃ (it:Addr) (fp:List Addr) (tn:Nat->Heap->Prop) (J:It) (H':Hp),itv=.ref it/\Inv X pins σ H' s2/\Turn X.prog X.w X.K tg J fp it tn/\tn 0 s2.heap/\(∀ b∈fp,rZ X pins H' b)/\R J H'
def PI (X:Cx) (tg iter:Expr) (wi:TI):Prop:=
 ∀ (pins:List (Addr×Obj)) (s:Shared) (σ:St) (H:Hp) (R:It->Hp->Prop),Inv X pins σ H s->wi σ H R ->
  wpAny (model X.prog X.w) X.A (eval iter X.env) (fun v s1=>wpAny (model X.prog X.w) X.A (pyIter v) (PIE X pins σ tg R) X.xe s1) X.xe s
theorem NZ {M:Model}{A:Around}{E:Value->Shared->Prop}{s:Shared}{tg:Expr}{it:Addr}{u:Value}{o:Obj}{n:String}{vs:Array Value}{Q:Unit->Shared->Prop}(ho:s.heap.get? it=some o) (hc:o.cls=.type n) (hd:o.data=.fields vs)
  (hn:["enumerate", "zip", "dict_itemiterator", "dict_reverseitemiterator", "odict_iterator", "itertools.zip_longest", "itertools.pairwise"].contains n=false) (hQ:Q () s):wpAny M A (letOwnedTupleGo tg (.ref it) u) Q E s:=by
 unfold letOwnedTupleGo
 cases tg <;> first
  | exact wpAny_pure hQ
  | (cases u <;> first
    | exact wpAny_pure hQ
    | (refine wpAny_bind (wpAny_load ho ?_)
       rw[hc,hd]
       show wpAny M A (if (["enumerate", "zip", "dict_itemiterator", "dict_reverseitemiterator", "odict_iterator", "itertools.zip_longest", "itertools.pairwise"].contains n && vs[0]? == some (rawInt _))=true then _ else _) Q E s
       rw[if_neg (by intro h; rw[hn,Bool.false_and] at h; cases h)]
       exact wpAny_pure hQ))
def Itl (K:PySem.W.Frag) (a:Addr):It:=
 ⟨fun i H=>∃ xs x,SqL K H a xs/\xs[i]?=some x,fun i H x H'=>H'=H/\∀ xs,SqL K H a xs->xs[i]?=some x,fun i H=>∃ xs,SqL K H a xs/\xs.length<=i⟩
def Itt (K:PySem.W.Frag) (a:Addr):It:=
 ⟨fun i H=>∃ xs x,SqT K H a xs/\xs[i]?=some x,fun i H x H'=>H'=H/\∀ xs,SqT K H a xs->xs[i]?=some x,fun i H=>∃ xs,SqT K H a xs/\xs.length<=i⟩
def Itr (lo:Int) (n:Nat):It:=⟨fun i _=>i < n,fun i H x H'=>H'=H/\x=.int (lo + i),fun i _=>n<=i⟩
theorem GX {P:Program}{w:World}{K:PySem.W.Frag}{tg:Expr}(a it:Addr):Turn P w K tg (Itl K a) [it] it (fun i h=>h.IsListIter it a i) where
 mem:=by simp
 obj:=fun i h st b hb=>by
  have e:b=it:=by simpa using hb
  subst e
  obtain ⟨o,e,c,d⟩:=st
  exact ⟨o,e,fun v z=>by rw[d] at z; cases z⟩
 keep:=fun i h h' st k=>st.at fun o e=>k it (by simp) o e
 item:=by
  intro X hP hw hK hc i pins s σ H E I hf st hg
  subst hP hw hK
  obtain ⟨xs,x,hq,hx⟩:=hg
  obtain ⟨its,rv,p,hz⟩:=I.list hq
  obtain ⟨u,hu,ru⟩:=rv.get hx
  obtain ⟨f0,f1,f2,f3,f4,f5⟩:=hf it (by simp)
  refine wpAny_pyNext_list_item st p.isList (x:=u) (by simpa using hu) fun h' st' sb=>?_
  have I1:Inv X pins σ H { s with heap:=h' }:=I.turned (t':=s.toks) (fun b o hb e=>(sb.2 b hb).trans e) f0 f1 f3 f4 f5
  obtain ⟨o,e,c,d⟩:=id st'
  exact ⟨u,rfl,NZ (s:={ s with heap:=h' }) e c d δ ⟨x,H,I1,ru,⟨rfl,fun ys hy=>by rw[I.qy hy hq]; exact hx⟩,st',fun b hb=>(hf b hb).1⟩⟩
 done:=by
  intro X hP hw hK hc i pins s σ H E I hf st hg
  subst hP hw hK
  obtain ⟨xs,hq,hx⟩:=hg
  obtain ⟨its,rv,p,hz⟩:=I.list hq
  obtain ⟨f0,f1,f2,f3,f4,f5⟩:=hf it (by simp)
  have hl:=rv.length
  exact wpAny_pyNext_list_end (I.ok.hd hc) st p.isList (by simp; omega) fun h' eb=>⟨rfl,I.turned (t':=s.toks) (fun b o hb e=>eb b o hb e) f0 f1 f3 f4 f5⟩
 self:=fun _ _ _ _ _ st h=>wpAny_pyIter_listiter st h
theorem CP {P:Program}{w:World}{K:PySem.W.Frag}{tg:Expr}(a it:Addr):Turn P w K tg (Itt K a) [it] it (fun i h=>h.IsTupleIter it a i) where
 mem:=by simp
 obj:=fun i h st b hb=>by
  have e:b=it:=by simpa using hb
  subst e
  obtain ⟨o,e,c,d⟩:=st
  exact ⟨o,e,fun v z=>by rw[d] at z; cases z⟩
 keep:=fun i h h' st k=>st.at fun o e=>k it (by simp) o e
 item:=by
  intro X hP hw hK hc i pins s σ H E I hf st hg
  subst hP hw hK
  obtain ⟨xs,x,hq,hx⟩:=hg
  obtain ⟨its,rv,p,hz⟩:=I.tuple hq
  obtain ⟨u,hu,ru⟩:=rv.get hx
  obtain ⟨f0,f1,f2,f3,f4,f5⟩:=hf it (by simp)
  refine wpAny_pyNext_tuple_item st (show s.heap.IsTuple a its.toArray from p) (x:=u) (by simpa using hu) fun h' st' sb=>?_
  have I1:Inv X pins σ H { s with heap:=h' }:=I.turned (t':=s.toks) (fun b o hb e=>(sb.2 b hb).trans e) f0 f1 f3 f4 f5
  obtain ⟨o,e,c,d⟩:=id st'
  exact ⟨u,rfl,NZ (s:={ s with heap:=h' }) e c d δ ⟨x,H,I1,ru,⟨rfl,fun ys hy=>by rw[I.qR hy hq]; exact hx⟩,st',fun b hb=>(hf b hb).1⟩⟩
 done:=by
  intro X hP hw hK hc i pins s σ H E I hf st hg
  subst hP hw hK
  obtain ⟨xs,hq,hx⟩:=hg
  obtain ⟨its,rv,p,hz⟩:=I.tuple hq
  obtain ⟨f0,f1,f2,f3,f4,f5⟩:=hf it (by simp)
  have hl:=rv.length
  exact wpAny_pyNext_tuple_end (I.ok.hd hc) st (show s.heap.IsTuple a its.toArray from p) (by simp; omega) fun h' eb=>⟨rfl,I.turned (t':=s.toks) (fun b o hb e=>eb b o hb e) f0 f1 f3 f4 f5⟩
 self:=fun _ _ _ _ _ st h=>wpAny_pyIter_tupleiter st h
theorem CQ {P:Program}{w:World}{K:PySem.W.Frag}{tg:Expr}(it:Addr) (lo:Int) (n:Nat):Turn P w K tg (Itr lo n) [it] it (fun i h=>IsRangeIter h it (lo + (i:Nat) * 1) ((n:Int) - (i:Nat)) 1) where
 mem:=by simp
 obj:=fun i h st b hb=>by
  have e:b=it:=by simpa using hb
  subst e
  exact ⟨_,st,fun v z=>by
   have z':Data.fields _=Data.cell v:=z
   cases z'⟩
 keep:=fun i h h' st k=>k it (by simp) _ st
 item:=by
  intro X hP hw hK hc i pins s σ H E I hf st hg
  subst hP hw hK
  obtain ⟨f0,f1,f2,f3,f4,f5⟩:=hf it (by simp)
  have W:=Walks.range (prog:=X.prog) (w:=X.w) (I.ok.hd hc) it lo 1 n
  refine W.item i s _ _ hg st fun v h' tk hv st' kk=>?_
  obtain ⟨t,rfl⟩:=hv
  have I1:Inv X pins σ H { s with heap:=h',toks:=tk }:=I.turned (fun b o hb e=>kk b o (by simpa using hb) e) f0 f1 f3 f4 f5
  refine ⟨_,rfl,NZ (s:={ s with heap:=h',toks:=tk }) (n := "range_iterator") st' rfl rfl δ ⟨.int (lo + i),H,I1,⟨t,?_⟩,⟨rfl,rfl⟩,st',fun b hb=>(hf b hb).1⟩⟩
  rw[Int.mul_one]
 done:=by
  intro X hP hw hK hc i pins s σ H E I hf st hg
  subst hP hw hK
  obtain ⟨f0,f1,f2,f3,f4,f5⟩:=hf it (by simp)
  exact wpAny_pyNext_range_end (I.ok.hd hc) st (by have:n<=i:=hg; omega) fun h' eb=>⟨rfl,I.turned (t':=s.toks) (fun b o hb e=>eb b o hb e) f0 f1 f3 f4 f5⟩
 self:=fun _ _ _ _ _ st h=>wpAny_pyIter_rangeiter st h
section
variable {X:Cx}{tg:Expr}
theorem Ai {pins:List (Addr×Obj)}{σ:St}{H:Hp}{s:Shared}{R:It->Hp->Prop}{E:Value->Shared->Prop}{lo hi:Int}{t u v:Tok}{tk:Nat}(I:Inv X pins σ H s) (h1:-(2 ^ 62)<=lo) (h2:lo < 2 ^ 62) (h3:-(2 ^ 62)<=hi) (h4:hi < 2 ^ 62)
  (q:R (Itr lo (hi - lo).toNat) H):wpAny (model X.prog X.w) X.A (pyIter (.ref s.heap.objs.size)) (PIE X pins σ tg R) E { s with heap:=s.heap.push { cls:=.type "range",data:=.fields #[.int lo t,.int hi u,.int 1 v] },toks:=tk }:=by
 refine wpAny_pyIter_range (IsRange.new ..) (small_one h1 h2 h3 h4) ?_
 have I1:Inv X pins σ H { s with heap:=s.heap.push { cls:=.type "range",data:=.fields #[.int lo t,.int hi u,.int 1 v] },toks:=tk }:=I.kept fun b o e=>Heap.get?_push_of_some _ e
 refine ⟨(s.heap.push { cls:=.type "range",data:=.fields #[.int lo t,.int hi u,.int 1 v] }).objs.size,[(s.heap.push { cls:=.type "range",data:=.fields #[.int lo t,.int hi u,.int 1 v] }).objs.size],_,_,H,rfl,
  I1.kept (t':=tk) fun b o e=>Heap.get?_push_of_some _ e,CQ _ lo (hi - lo).toNat,?_,fun b hb=>?_,q⟩
 ·have e1:lo + ((0:Nat):Int) * 1=lo:=by simp
  have e2:(((hi - lo).toNat:Nat):Int) - ((0:Nat):Int)=Builtin.Range.rangeSize lo hi 1:=by rw[rangeSize_one]; split <;> omega
  show IsRangeIter _ _ (lo + ((0:Nat):Int) * 1) ((((hi - lo).toNat:Nat):Int) - ((0:Nat):Int)) 1
  rw[e1,e2]
  exact Heap.get?_push_size _ rfl
 ·have e:b=(s.heap.push { cls:=.type "range",data:=.fields #[.int lo t,.int hi u,.int 1 v] }).objs.size:=by simpa using hb
  subst e
  exact I1.Ob (Nat.le_refl _) (I1.hok.fresh (Nat.le_refl _))
def lZ (ta:TA):TI:=fun σ H R=>ta σ H fun vs H1=>∃ j:Int,vs=[.int j]/\-(2 ^ 62)<=j/\j < 2 ^ 62/\R (Itr 0 j.toNat) H1
def NK (ta:TA):TI:=fun σ H R=>ta σ H fun vs H1=>∃ i j:Int,vs=[.int i,.int j]/\(-(2 ^ 62)<=i/\i < 2 ^ 62/\-(2 ^ 62)<=j/\j < 2 ^ 62)/\R (Itr i (j - i).toNat) H1
theorem HJ {a:Expr}{ta:TA}{p pos:Pos}(hg:Gl X "range") (hm:X.mg "range" = none) (ha:PA X [a] ta) (hs:starEach [a] X.env=[(false,eval a X.env)]:=by rfl):PI X tg (.Call (.Name "range" p) [a] [] pos) (lZ ta):=by
 intro pins s σ H R I h
 refine Call_ (iT I hg hm boot_range (PyProof.Rows.callWith_type1 (thA (ha pos pins s σ H _ I h) fun us s1 vs H1 I1 r1 q1=>?_) hs rfl))
 obtain ⟨j,e,q1,q2,q⟩:=q1
 subst e
 cases r1 with
 | cons r rr=>
  cases rr
  obtain ⟨t,rfl⟩:=r
  exact call_range_1 (Ai I1 ω ω q1 q2 (by simpa using q))
theorem HF {a b:Expr}{ta:TA}{p pos:Pos}(hg:Gl X "range") (hm:X.mg "range" = none) (ha:PA X [a,b] ta) (hs:starEach [a,b] X.env=[(false,eval a X.env),(false,eval b X.env)]:=by rfl) (hs2:starEach [b] X.env=[(false,eval b X.env)]:=by rfl) :
  PI X tg (.Call (.Name "range" p) [a,b] [] pos) (NK ta):=by
 intro pins s σ H R I h
 refine Call_ (iT I hg hm boot_range (PyProof.Rows.callWith_type1 (thA (ha pos pins s σ H _ I h) fun us s1 vs H1 I1 r1 q1=>?_) (by rw[hs,hs2]) (by rw[hs2]; rfl)))
 obtain ⟨i,j,e,⟨q1,q2,q3,q4⟩,q⟩:=q1
 subst e
 cases r1 with
 | cons r rr=>
  cases rr with
  | cons r' rr=>
   cases rr
   obtain ⟨t,rfl⟩:=r
   obtain ⟨t',rfl⟩:=r'
   exact call_range_2 (Ai I1 q1 q2 q3 q4 q)
def Qp (wi:TI) (g:TG) (tb:TS):TS:=fun D σ H=>wi σ H fun J H1=>∃ W:Nat->Nat->St->Hp->Prop,(∃ m,W 0 m σ H1)/\∀ i m σ H,W i m σ H ->
 (J.stop i H/\D.nx σ H)\/(J.go i H/\∃ N:St->Hp->Prop,(∀ σ' H',N σ' H'->∃ m',m' < m/\W (i + 1) m' σ' H')/\∀ x H',J.yld i H x H'->g x σ H' fun σ2 H2=>tb { D with nx:=N,ct:=N,bk:=D.nx } σ2 H2)
def jO (fp:List Addr) (h:Heap):List (Addr×Obj):=fp.filterMap fun b=>(h.get? b).map fun o=>(b,o)
theorem lH {fp:List Addr}{h:Heap}{b:Addr}{o:Obj}(hb:b∈fp) (e:h.get? b=some o):(b,o)∈jO fp h:=List.mem_filterMap.mpr ⟨b,hb,by rw[e]; rfl⟩
theorem rz {fp:List Addr}{h:Heap}{p:Addr×Obj}(hp:p∈jO fp h):p.1∈fp/\h.get? p.1=some p.2:=by
 obtain ⟨b,hb,e⟩:=List.mem_filterMap.mp hp
 cases q:h.get? b with
 | none=>rw[q] at e; cases e
 | some o=>
  rw[q] at e
  have e':(b,o)=p:=Option.some.inj e
  subst e'
  exact ⟨hb,q⟩
theorem Inv.pinned {pins:List (Addr×Obj)}{σ:St}{H:Hp}{s:Shared}{fp:List Addr}(I:Inv X pins σ H s) (hf:∀ b∈fp,rZ X pins H b) (ho:∀ b∈fp,∃ o,s.heap.get? b=some o/\∀ v,o.data≠.cell v):Inv X (pins ++ jO fp s.heap) σ H s:=
 I.nQ fun p hp=>(List.mem_append.mp hp).elim (fun z=>I.pin p (List.mem_append_right _ z)) fun z=>by
  obtain ⟨hb,e⟩:=rz z
  obtain ⟨f0,f1,f2,_⟩:=hf p.1 hb
  obtain ⟨o,e',d⟩:=ho p.1 hb
  rw[e] at e'; cases e'
  exact ⟨e,f0,f1,f2,d⟩
theorem Inv.mF {pins pl:List (Addr×Obj)}{σ:St}{H:Hp}{s:Shared}(I:Inv X (pins ++ pl) σ H s):Inv X pins σ H s:=I.nQ fun p hp=>I.pin p (List.mem_append_right _ (List.mem_append_left _ hp))
theorem Wc {iter:Expr}{body:List Stmt}{wi:TI}{g:TG}{tb:TS}{pos:Pos}(hp:PassesOwn (model X.prog X.w) X.A X.env X.xe) (hc:X.calm=true) (hi:PI X tg iter wi) (hg:PG X tg g) (hb:PSs X body tb)
  (hs:∀ x,foldedSetIterable iter X.env x=pure x:=by intro _; rfl):PS X (.For tg iter body [] pos) (Qp wi g tb):=by
 intro pins s σ H D I h
 refine wpAny_For (thn (hi pins s σ H _ I h) fun v s1 h1=>thn h1 fun itv s2 h2=>?_) hs
 obtain ⟨it,fp,tn,J,H2,e,I2,T,st2,f2,W,⟨m0,w0⟩,turn⟩:=h2
 subst e
 -- what stays true of the iterator's objects through the loop
 have stat:∀ {H':Hp},(∀ b∈fp,H' b=none)->∀ b∈fp,rZ X pins H' b:=fun hn b hb=>⟨hn b hb,(f2 b hb).2⟩
 refine codeAny_forLoop_any (fun n s'=>∃ i σ' H',Inv X pins σ' H' s'/\tn i s'.heap/\(∀ b∈fp,H' b=none)/\W i n σ' H') ?_ m0 ⟨0,σ,H2,I2,st2,fun b hb=>(f2 b hb).1,w0⟩
 rintro n s3 ⟨i,σ3,H3,I3,st3,fr3,w3⟩
 rcases turn i n σ3 H3 w3 with ⟨stop,qn⟩ | ⟨go,N,hN,step⟩
 ·refine wpAny_passesOwn hp (thn (T.done X rfl rfl rfl hc i pins s3 σ3 H3 X.xe I3 (stat fr3) st3 stop) fun r s4 ⟨hr,I4⟩=>?_)
  subst hr
  exact wpAny_execs_nil ⟨σ3,H3,I4,qn⟩
 ·refine wpAny_passesOwn hp (thn (T.item X rfl rfl rfl hc i pins s3 σ3 H3 X.xe I3 (stat fr3) st3 go) fun r s4 ⟨u,hr,h4⟩=>?_)
  subst hr
  refine wpAny_passesOwn hp (thn h4 fun _ s5 ⟨x,H5,I5,r5,y5,st5,fr5⟩=>?_)
  have I5':=I5.pinned (stat fr5) (T.obj _ _ st5)
  refine wpAny_passesOwn hp (thn (hg _ s5 σ3 H5 x u _ I5' r5 (step x H5 y5)) fun _ s6 ⟨σ6,H6,I6,q6⟩=>?_)
  refine wpAny_passesOwn hp (thn (hb _ s6 σ6 H6 _ I6 q6) fun f s7 q7=>?_)
  have again:∀ {σ7:St} {H7:Hp},Inv X (pins ++ jO fp s5.heap) σ7 H7 s7->N σ7 H7->∃ m,m < n/\∃ i σ' H',Inv X pins σ' H' s7/\tn i s7.heap/\(∀ b∈fp,H' b=none)/\W i m σ' H':=fun {σ7 H7} I7 n7=>by
   obtain ⟨m',hm,w7⟩:=hN σ7 H7 n7
   refine ⟨m',hm,i + 1,σ7,H7,I7.mF,T.keep _ _ _ st5 fun b hb o e=>(I7.pin (b,o) (List.mem_append_right _ (List.mem_append_right _ (lH hb e)))).1,fun b hb=>?_,w7⟩
   obtain ⟨o,e,d⟩:=T.obj _ _ st5 b hb
   exact (I7.pin (b,o) (List.mem_append_right _ (List.mem_append_right _ (lH hb e)))).2.1
  cases f with
  | next=>obtain ⟨σ7,H7,I7,n7⟩:=q7; exact again I7 n7
  | cont=>obtain ⟨σ7,H7,I7,n7⟩:=q7; exact again I7 n7
  | brk=>obtain ⟨σ7,H7,I7,q7⟩:=q7; exact ⟨σ7,H7,I7.mF,q7⟩
  | ret v=>obtain ⟨x7,σ7,H7,I7,r7,q7⟩:=q7; exact ⟨x7,σ7,H7,I7.mF,r7,q7⟩
end
theorem Oc {K:PySem.W.Frag}{a:Addr}{xs:List V}{g:TG}{tb:TS}{D:Ends}{σ:St}{H:Hp}(Pv:Nat->St->Hp->Prop) (h0:Pv 0 σ H) (hl:∀ i σ H,i<=xs.length->Pv i σ H->SqL K H a xs)
  (hs:∀ i x σ H,xs[i]?=some x->Pv i σ H->g x σ H fun σ2 H2=>tb { D with nx:=Pv (i + 1),ct:=Pv (i + 1),bk:=D.nx } σ2 H2) (hd:∀ σ H,Pv xs.length σ H->D.nx σ H) :
  ∃ W:Nat->Nat->St->Hp->Prop,(∃ m,W 0 m σ H)/\∀ i m σ H,W i m σ H ->
   ((Itl K a).stop i H/\D.nx σ H)\/((Itl K a).go i H/\∃ N:St->Hp->Prop,(∀ σ' H',N σ' H'->∃ m',m' < m/\W (i + 1) m' σ' H')/\∀ x H',(Itl K a).yld i H x H'->g x σ H' fun σ2 H2=>tb { D with nx:=N,ct:=N,bk:=D.nx } σ2 H2):=by
 refine ⟨fun i m σ H=>m=xs.length - i/\i<=xs.length/\Pv i σ H,⟨xs.length,by simp,Nat.zero_le _,h0⟩,?_⟩
 rintro i m σ H ⟨rfl,hi,p⟩
 have q:=hl i σ H hi p
 by_cases hlt:i < xs.length
 ·refine .inr ⟨⟨xs,xs[i],q,by simp [hlt]⟩,Pv (i + 1),fun σ' H' p'=>⟨xs.length - (i + 1),ω,rfl,hlt,p'⟩,fun x H' y=>?_⟩
  obtain ⟨e,y⟩:=y
  subst e
  exact hs i x σ _ (y xs q) p
 ·have e:i=xs.length:=by omega
  subst e
  exact .inl ⟨⟨xs,q,Nat.le_refl _⟩,hd σ H p⟩
theorem Ji {lo:Int}{n:Nat}{g:TG}{tb:TS}{D:Ends}{σ:St}{H:Hp}(Pv:Nat->St->Hp->Prop) (h0:Pv 0 σ H)
  (hs:∀ i σ H,i < n->Pv i σ H->g (.int (lo + i)) σ H fun σ2 H2=>tb { D with nx:=Pv (i + 1),ct:=Pv (i + 1),bk:=D.nx } σ2 H2) (hd:∀ σ H,Pv n σ H->D.nx σ H) :
  ∃ W:Nat->Nat->St->Hp->Prop,(∃ m,W 0 m σ H)/\∀ i m σ H,W i m σ H ->
   ((Itr lo n).stop i H/\D.nx σ H)\/((Itr lo n).go i H/\∃ N:St->Hp->Prop,(∀ σ' H',N σ' H'->∃ m',m' < m/\W (i + 1) m' σ' H')/\∀ x H',(Itr lo n).yld i H x H'->g x σ H' fun σ2 H2=>tb { D with nx:=N,ct:=N,bk:=D.nx } σ2 H2):=by
 refine ⟨fun i m σ H=>m=n - i/\i<=n/\Pv i σ H,⟨n,by simp,Nat.zero_le _,h0⟩,?_⟩
 rintro i m σ H ⟨rfl,hi,p⟩
 by_cases hlt:i < n
 ·refine .inr ⟨hlt,Pv (i + 1),fun σ' H' p'=>⟨n - (i + 1),ω,rfl,hlt,p'⟩,fun x H' y=>?_⟩
  obtain ⟨e,y⟩:=y
  subst e y
  exact hs i σ _ hlt p
 ·have e:i=n:=by omega
  subst e
  exact .inl ⟨Nat.le_refl _,hd σ H p⟩
abbrev R2:=V->V->Hp->VK->Prop
def OpR (X:Cx) (f:Value->Value->Sem Value) (r:R2):Prop:=
 ∀ (pins:List (Addr×Obj)) (s:Shared) (σ:St) (H:Hp) (x y:V) (v u:Value) (Q:VK),Inv X pins σ H s->RelV x v->RelV y u->r x y H Q ->
  wpAny (model X.prog X.w) X.A (f v u) (EP X pins σ Q) X.xe s
def UnR (X:Cx) (f:Value->Sem Value) (r:V->Hp->VK->Prop):Prop:=
 ∀ (pins:List (Addr×Obj)) (s:Shared) (σ:St) (H:Hp) (x:V) (v:Value) (Q:VK),Inv X pins σ H s->RelV x v->r x H Q ->
  wpAny (model X.prog X.w) X.A (f v) (EP X pins σ Q) X.xe s
def dj (X:Cx) (f:Value) (r:List V->Hp->VK->Prop):Prop:=
 ∀ (pins:List (Addr×Obj)) (s:Shared) (σ:St) (H:Hp) (xs:List V) (us:List Value) (Q:VK),Inv X pins σ H s->Vals xs us->r xs H Q ->
  wpAny (model X.prog X.w) X.A (call f us) (EP X pins σ Q) X.xe s
def Zr (X:Cx) (r:V->Hp->(Bool->Hp->Prop)->Prop):Prop:=
 ∀ (pins:List (Addr×Obj)) (s:Shared) (σ:St) (H:Hp) (x:V) (v:Value) (Q:Bool->Hp->Prop),Inv X pins σ H s->RelV x v->r x H Q ->
  wpAny (model X.prog X.w) X.A (truthy v) (TP X pins σ Q) X.xe s
def tOp (r:R2) (ta tb:TE):TE:=fun σ H Q=>ta σ H fun x H1=>tb σ H1 fun y H2=>r x y H2 Q
def tUn (r:V->Hp->VK->Prop) (ta:TE):TE:=fun σ H Q=>ta σ H fun x H1=>r x H1 Q
def rI (C:Int->Int->Prop) (g:Int->Int->V):R2:=fun x y H Q=>∃ i j,x=.int i/\y=.int j/\C i j/\Q (g i j) H
def rI0 (g:Int->Int->V):R2:=fun x y H Q=>∃ i j,x=.int i/\y=.int j/\Q (g i j) H
def rU (g:Int->V):V->Hp->VK->Prop:=fun x H Q=>∃ i,x=.int i/\Q (g i) H
section
variable {X:Cx}{a b c:Expr}{ta tb tc:TE}{pos:Pos}
theorem XQ (ha:PE X a ta) (hb:PE X b tb) {pins:List (Addr×Obj)}{s:Shared}{σ:St}{H:Hp}{R:V->V->Hp->Prop}(I:Inv X pins σ H s)
  (h:ta σ H fun x H1=>tb σ H1 fun y H2=>R x y H2) {Q:Value->Shared->Prop} {f:Value->Value->Sem Value}
  (hf:∀ v u s2 x y H2,Inv X pins σ H2 s2->RelV x v->RelV y u->R x y H2->wpAny (model X.prog X.w) X.A (f v u) Q X.xe s2) :
  wpAny (model X.prog X.w) X.A (eval a X.env) (fun v s₁=>wpAny (model X.prog X.w) X.A (eval b X.env) (fun u s₂=>wpAny (model X.prog X.w) X.A (f v u) Q X.xe s₂) X.xe s₁) X.xe s:=by
 refine thE (ha pins s σ H _ I h) fun v s1 x H1 I1 r1 q1=>?_
 refine thE (hb pins s1 σ H1 _ I1 q1) fun u s2 y H2 I2 r2 q2=>?_
 exact hf v u s2 x y H2 I2 r1 r2 q2
theorem Yo {op:Operator}{r:R2} (ho:OpR X (binaryOp op) r) (ha:PE X a ta) (hb:PE X b tb):PE X (.BinOp a op b pos) (tOp r ta tb):=by
 intro pins s σ H Q I h
 exact wpAny_BinOp (XQ ha hb I h fun v u s2 x y H2 I2 rx ry q=>ho pins s2 σ H2 x y v u Q I2 rx ry q)
theorem Yn {op:UnaryOp}{r:V->Hp->VK->Prop}(ho:UnR X (unaryOp op) r) (ha:PE X a ta):PE X (.UnaryOp op a pos) (tUn r ta):=by
 intro pins s σ H Q I h
 exact UnaryOp_ (thE (ha pins s σ H _ I h) fun v s1 x H1 I1 r1 q1=>ho pins s1 σ H1 x v Q I1 r1 q1)
theorem opI {f:Value->Value->Sem Value}{C:Int->Int->Prop}{g:Int->Int->Int}
  (rule:∀ (i j:Int) (t u:Tok) (s:Shared) (Q:Value->Shared->Prop) (E:Value->Shared->Prop),C i j->Q (.int (g i j) s.toks) { s with toks:=s.toks + 1 }->wpAny (model X.prog X.w) X.A (f (.int i t) (.int j u)) Q E s) :
  OpR X f (rI C fun i j=>.int (g i j)):=by
 intro pins s σ H x y v u Q I rx ry h
 obtain ⟨i,j,rfl,rfl,hc,q⟩:=h
 obtain ⟨t,rfl⟩:=rx
 obtain ⟨t',rfl⟩:=ry
 exact rule i j t t' s _ _ hc ⟨.int (g i j),H,I.tok _,⟨_,rfl⟩,q⟩
theorem Wz {f:Value->Value->Sem Value}{g:Int->Int->Int}
  (rule:∀ (i j:Int) (t u:Tok) (s:Shared) (Q:Value->Shared->Prop) (E:Value->Shared->Prop),Q (.int (g i j) s.toks) { s with toks:=s.toks + 1 }->wpAny (model X.prog X.w) X.A (f (.int i t) (.int j u)) Q E s) :
  OpR X f (rI0 fun i j=>.int (g i j)):=by
 intro pins s σ H x y v u Q I rx ry h
 obtain ⟨i,j,rfl,rfl,q⟩:=h
 obtain ⟨t,rfl⟩:=rx
 obtain ⟨t',rfl⟩:=ry
 exact rule i j t t' s _ _ ⟨.int (g i j),H,I.tok _,⟨_,rfl⟩,q⟩
theorem R7 {f:Value->Value->Sem Value}{g:Int->Int->Bool}
  (rule:∀ (i j:Int) (t u:Tok) (s:Shared) (Q:Value->Shared->Prop) (E:Value->Shared->Prop),Q (.bool (g i j)) s->wpAny (model X.prog X.w) X.A (f (.int i t) (.int j u)) Q E s) :
  OpR X f (rI0 fun i j=>.bl (g i j)):=by
 intro pins s σ H x y v u Q I rx ry h
 obtain ⟨i,j,rfl,rfl,q⟩:=h
 obtain ⟨t,rfl⟩:=rx
 obtain ⟨t',rfl⟩:=ry
 exact rule i j t t' s _ _ ⟨.bl (g i j),H,I,rfl,q⟩
def U3 (i j:Int):Prop:=0<=j/\j<=1000000/\i.natAbs < 2 ^ 64
def JH (i j:Int):Prop:=(-(2 ^ 64) < i/\i < 2 ^ 64)\/(-(2 ^ 64) < j/\j < 2 ^ 64)
theorem JH.ok {i j:Int}(h:JH i j):IntMulOk i j:=by
 rcases h with ⟨h1,h2⟩ | ⟨h1,h2⟩
 ·exact .of_left (intBits_le_64 h1 h2)
 ·exact .of_right (intBits_le_64 h1 h2)
theorem CK (k:Nat):(0:Int)<=2 ^ k:=by
 rw[two_pow_cast]
 exact Int.natCast_nonneg _
theorem Wy:OpR X (binaryOp .Add) (rI0 fun i j=>.int (i + j)):=Wz fun _ _ _ _ _ _ _ q=>add_int q
theorem eE:OpR X (binaryOp .Sub) (rI0 fun i j=>.int (i - j)):=Wz fun _ _ _ _ _ _ _ q=>sub_int q
theorem Wu:OpR X (binaryOp .Mult) (rI JH fun i j=>.int (i * j)):=opI fun _ _ _ _ _ _ _ hc q=>mul_int q hc.ok
theorem iI:OpR X (binaryOp .Mod) (rI (fun _ j=>0 < j) fun i j=>.int (i % j)):=opI fun i j _ _ _ _ _ hc q=>by
 have h1:(0:Int) < j:=hc
 exact mod_int' ω (by rw[Int.fmod_eq_emod_of_nonneg i ω]; exact q)
theorem Mi:OpR X (binaryOp .Pow) (rI U3 fun i j=>.int (i ^ j.toNat)):=opI fun _ _ _ _ _ _ _ hc q=>pow_int_small hc.1 hc.2.1 hc.2.2 q
theorem dF:OpR X (binaryOp .LShift) (rI U3 fun i j=>.int (i * 2 ^ j.toNat)):=opI fun _ _ _ _ _ _ _ hc q=>lshift_int_small hc.1 hc.2.1 hc.2.2 q
theorem yG:OpR X (binaryOp .RShift) (rI (fun _ j=>0<=j) fun i j=>.int (i / 2 ^ j.toNat)):=opI fun i j _ _ _ _ _ hc q=>
 rshift_int hc (by rw[Int.fdiv_eq_ediv_of_nonneg i (CK _)]; exact q)
theorem jP:OpR X (binaryOp .BitAnd) (rI0 fun i j=>.int (Builtin.bitAnd i j)):=Wz fun _ _ _ _ _ _ _ q=>and_int q
theorem unI {f:Value->Sem Value}{g:Int->Int}
  (rule:∀ (i:Int) (t:Tok) (s:Shared) (Q:Value->Shared->Prop) (E:Value->Shared->Prop),Q (.int (g i) s.toks) { s with toks:=s.toks + 1 }->wpAny (model X.prog X.w) X.A (f (.int i t)) Q E s) :
  UnR X f (rU fun i=>.int (g i)):=by
 intro pins s σ H x v Q I rx h
 obtain ⟨i,rfl,q⟩:=h
 obtain ⟨t,rfl⟩:=rx
 exact rule i t s _ _ ⟨.int (g i),H,I.tok _,⟨_,rfl⟩,q⟩
theorem kO:UnR X (unaryOp .USub) (rU fun i=>.int (-i)):=unI fun _ _ _ _ _ q=>neg_int q
end
def Hj:V->V->Bool
 | .non,.non=>true | .non,.int _=>true | .int _,.non=>true | .non,.bl _=>true | .bl _,.non=>true | .non,.str _=>true | .str _,.non=>true
 | .int _,.int _=>true | .bl _,.bl _=>true | .str _,.str _=>true | .byt _,.byt _=>true
 | .int _,.str _=>true | .str _,.int _=>true | .bl _,.str _=>true | .str _,.bl _=>true
 | _,_=>false
def rEq:R2:=fun x y H Q=>Hj x y=true/\Q (.bl (decide (x=y))) H
def rNe:R2:=fun x y H Q=>Hj x y=true/\Q (.bl (!decide (x=y))) H
theorem Gv {i j:Int}:decide (V.int i=V.int j)=(i == j):=by
 rw[Bool.eq_iff_iff]
 simp
theorem Ov {i j:Bool}:decide (V.bl i=V.bl j)=(i == j):=by
 rw[Bool.eq_iff_iff]
 simp
theorem Gu {i j:Str}:decide (V.str i=V.str j)=(i == j):=by
 rw[Bool.eq_iff_iff]
 simp
theorem Gw {i j:Array UInt8}:decide (V.byt i=V.byt j)=(i.toList == j.toList):=by
 rw[Bool.eq_iff_iff]
 cases i
 cases j
 simp
section
variable {X:Cx}{a b c:Expr}{ta tb tc:TE}{pos:Pos}
theorem bW {pins:List (Addr×Obj)}{σ:St}{H:Hp}{s:Shared}{Q:VK}{k k':Bool}(I:Inv X pins σ H s) (q:Q (.bl k) H) (e:k=k'):EP X pins σ Q (.bool k') s:=by
 subst e
 exact ⟨.bl k,H,I,rfl,q⟩
theorem Yy:OpR X (compareOp .Eq) rEq:=by
 intro pins s σ H x y v u Q I rx ry h
 obtain ⟨hs,q⟩:=h
 cases x with
 | non=>
  cases rx
  cases y with
  | non=>cases ry; exact PySem.EqNone.eq_none_none (bW I q (by simp))
  | bl j=>cases ry; exact PySem.EqNone.eq_none_bool (bW I q (by simp))
  | int j=>obtain ⟨t',rfl⟩:=ry; exact PySem.EqNone.eq_none_int (bW I q (by simp))
  | str j=>obtain ⟨t',rfl⟩:=ry; exact PySem.EqNone.eq_none_str (bW I q (by simp))
  | _=>exact absurd (show false=true from hs) Bool.false_ne_true
 | bl i=>
  cases rx
  cases y with
  | non=>cases ry; exact PySem.EqNone.eq_bool_none (bW I q (by simp))
  | bl j=>cases ry; exact eq_bool (bW I q Ov)
  | str j=>obtain ⟨t',rfl⟩:=ry; exact PySem.EqMixed.eq_bool_str (bW I q (by simp))
  | _=>exact absurd (show false=true from hs) Bool.false_ne_true
 | int i=>
  obtain ⟨t,rfl⟩:=rx
  cases y with
  | non=>cases ry; exact PySem.EqNone.eq_int_none (bW I q (by simp))
  | int j=>obtain ⟨t',rfl⟩:=ry; exact eq_int (bW I q Gv)
  | str j=>obtain ⟨t',rfl⟩:=ry; exact PySem.EqMixed.eq_int_str (bW I q (by simp))
  | _=>exact absurd (show false=true from hs) Bool.false_ne_true
 | str i=>
  obtain ⟨t,rfl⟩:=rx
  cases y with
  | non=>cases ry; exact PySem.EqNone.eq_str_none (bW I q (by simp))
  | bl j=>cases ry; exact PySem.EqMixed.eq_str_bool (bW I q (by simp))
  | int j=>obtain ⟨t',rfl⟩:=ry; exact PySem.EqMixed.eq_str_int (bW I q (by simp))
  | str j=>obtain ⟨t',rfl⟩:=ry; exact eq_str (bW I q Gu)
  | _=>exact absurd (show false=true from hs) Bool.false_ne_true
 | byt i=>
  obtain ⟨t,rfl⟩:=rx
  cases y with
  | byt j=>obtain ⟨t',rfl⟩:=ry; exact PySem.W.eq_bytes (bW I q Gw)
  | _=>exact absurd (show false=true from hs) Bool.false_ne_true
 | _=>cases y <;> exact absurd (show false=true from hs) Bool.false_ne_true
theorem Yw:OpR X (compareOp .NotEq) rNe:=by
 intro pins s σ H x y v u Q I rx ry h
 obtain ⟨hs,q⟩:=h
 cases x with
 | non=>
  cases rx
  cases y with
  | non=>cases ry; exact PySem.EqNone.ne_none_none (bW I q (by simp))
  | bl j=>cases ry; exact PySem.EqNone.ne_none_bool (bW I q (by simp))
  | int j=>obtain ⟨t',rfl⟩:=ry; exact PySem.EqNone.ne_none_int (bW I q (by simp))
  | str j=>obtain ⟨t',rfl⟩:=ry; exact PySem.EqNone.ne_none_str (bW I q (by simp))
  | _=>exact absurd (show false=true from hs) Bool.false_ne_true
 | bl i=>
  cases rx
  cases y with
  | non=>cases ry; exact PySem.EqNone.ne_bool_none (bW I q (by simp))
  | bl j=>cases ry; exact ne_bool (bW I q (congrArg not Ov))
  | str j=>obtain ⟨t',rfl⟩:=ry; exact PySem.EqMixed.ne_bool_str (bW I q (by simp))
  | _=>exact absurd (show false=true from hs) Bool.false_ne_true
 | int i=>
  obtain ⟨t,rfl⟩:=rx
  cases y with
  | non=>cases ry; exact PySem.EqNone.ne_int_none (bW I q (by simp))
  | int j=>obtain ⟨t',rfl⟩:=ry; exact ne_int (bW I q (congrArg not Gv))
  | str j=>obtain ⟨t',rfl⟩:=ry; exact PySem.EqMixed.ne_int_str (bW I q (by simp))
  | _=>exact absurd (show false=true from hs) Bool.false_ne_true
 | str i=>
  obtain ⟨t,rfl⟩:=rx
  cases y with
  | non=>cases ry; exact PySem.EqNone.ne_str_none (bW I q (by simp))
  | bl j=>cases ry; exact PySem.EqMixed.ne_str_bool (bW I q (by simp))
  | int j=>obtain ⟨t',rfl⟩:=ry; exact PySem.EqMixed.ne_str_int (bW I q (by simp))
  | str j=>obtain ⟨t',rfl⟩:=ry; exact ne_str (bW I q (congrArg not Gu))
  | _=>exact absurd (show false=true from hs) Bool.false_ne_true
 | byt i=>
  obtain ⟨t,rfl⟩:=rx
  cases y with
  | byt j=>obtain ⟨t',rfl⟩:=ry; exact PySem.W.ne_bytes (bW I q (congrArg not Gw))
  | _=>exact absurd (show false=true from hs) Bool.false_ne_true
 | _=>cases y <;> exact absurd (show false=true from hs) Bool.false_ne_true
theorem j4:OpR X (compareOp .Lt) (rI0 fun i j=>.bl (decide (i < j))):=R7 fun _ _ _ _ _ _ _ q=>lt_int q
theorem Ga:OpR X (compareOp .LtE) (rI0 fun i j=>.bl (decide (i<=j))):=R7 fun _ _ _ _ _ _ _ q=>le_int q
theorem Gb:OpR X (compareOp .Gt) (rI0 fun i j=>.bl (decide (j < i))):=R7 fun _ _ _ _ _ _ _ q=>gt_int q
theorem Yx:OpR X (compareOp .GtE) (rI0 fun i j=>.bl (decide (j<=i))):=R7 fun _ _ _ _ _ _ _ q=>ge_int q
theorem Ww:OpR X (compareOp .Is) (fun x y H Q=>y=.non/\Q (.bl (decide (x=.non))) H):=by
 intro pins s σ H x y v u Q I rx ry h
 obtain ⟨rfl,q⟩:=h
 cases ry
 refine is_none_gen (bW I q ?_)
 cases x <;> first
  | (cases rx; rfl)
  | (obtain ⟨t,rfl⟩:=rx; rfl)
theorem aO (b:Expr) {op:CmpOp}(h:op≠.In:=by decide) (h2:op≠.NotIn:=by decide):behindInMarks op b=false:=by
 have e1:(op == CmpOp.In)=false:=by cases op <;> first | rfl | exact absurd rfl h
 have e2:(op == CmpOp.NotIn)=false:=by cases op <;> first | rfl | exact absurd rfl h2
 cases b <;> simp [behindInMarks,e1,e2]
theorem RV {op:CmpOp}{r:R2} (ho:OpR X (compareOp op) r) (ha:PE X a ta) (hb:PE X b tb) (hm:behindInMarks op b=false):PE X (.Compare a [op] [b] pos) (tOp r ta tb):=by
 intro pins s σ H Q I h
 exact wpAny_Compare1 (XQ ha hb I h fun v u s2 x y H2 I2 rx ry q=>ho pins s2 σ H2 x y v u Q I2 rx ry q) hm
def su (t:TE):TT:=fun σ H Q=>t σ H fun x H'=>∃ k,x=.bl k/\Q k H'
theorem Rq {op:CmpOp}{r:R2} (ho:OpR X (compareOp op) r) (ha:PE X a ta) (hb:PE X b tb) (hm:behindInMarks op b=false):PT X (.Compare a [op] [b] pos) (su (tOp r ta tb)):=by
 intro pins s σ H Q I h
 refine wpAny_isTrue_Compare1 (thE (ha pins s σ H _ I h) fun v s1 x H1 I1 r1 q1=>thE (hb pins s1 σ H1 _ I1 q1) fun u s2 y H2 I2 r2 q2=>
  thn (ho pins s2 σ H2 x y v u _ I2 r1 r2 q2) fun c s3 ⟨z,H3,I3,r3,k,e,q3⟩=>?_) hm
 subst e
 cases r3
 exact wpAny_truthy_bool ⟨H3,I3,q3⟩
def ur (r r':R2) (ta tb tc:TE):TE:=fun σ H Q=>ta σ H fun x H1=>tb σ H1 fun y H2=>r x y H2 fun z H3=>∃ k,z=.bl k /\
 (if k=true then tc σ H3 fun w' H4=>r' y w' H4 Q else Q (.bl false) H3)
theorem Mf {op op':CmpOp}{r r':R2} (ho:OpR X (compareOp op) r) (ho':OpR X (compareOp op') r') (ha:PE X a ta) (hb:PE X b tb) (hc:PE X c tc)
  (hm:lastMarks [op,op'] [b,c]=false:=by with_unfolding_all rfl):PE X (.Compare a [op,op'] [b,c] pos) (ur r r' ta tb tc):=by
 intro pins s σ H Q I h
 refine Compare_chain (thE (ha pins s σ H _ I h) fun v s1 x H1 I1 r1 q1=>chain_link (thE (hb pins s1 σ H1 _ I1 q1) fun u s2 y H2 I2 r2 q2=>
  thn (ho pins s2 σ H2 x y v u _ I2 r1 r2 q2) fun d s3 ⟨z,H3,I3,r3,k,e,q3⟩=>?_)) hm
 subst e
 cases r3
 refine wpAny_truthy_bool ?_
 cases k with
 | false=>exact ite_ff ⟨.bl false,H3,I3,rfl,q3⟩
 | true=>exact ite_tt (chain_last (thn (hc pins s3 σ H3 _ I3 q3) fun w' s4 ⟨z',H4,I4,r4,q4⟩=>ho' pins s4 σ H4 y z' u w' Q I4 r2 r4 q4))
theorem Lr {op op':CmpOp}{r r':R2} (ho:OpR X (compareOp op) r) (ho':OpR X (compareOp op') r') (ha:PE X a ta) (hb:PE X b tb) (hc:PE X c tc)
  (hm:lastMarks [op,op'] [b,c]=false:=by with_unfolding_all rfl):PT X (.Compare a [op,op'] [b,c] pos) (su (ur r r' ta tb tc)):=by
 intro pins s σ H Q I h
 refine isTrue_chain (thE (ha pins s σ H _ I h) fun v s1 x H1 I1 r1 q1=>test_link (thE (hb pins s1 σ H1 _ I1 q1) fun u s2 y H2 I2 r2 q2=>
  thn (ho pins s2 σ H2 x y v u _ I2 r1 r2 q2) fun d s3 ⟨z,H3,I3,r3,k,e,q3⟩=>?_)) hm
 subst e
 cases r3
 refine wpAny_truthy_bool ?_
 cases k with
 | false=>
  obtain ⟨k',e',q'⟩:=q3
  cases e'
  exact ite_ff ⟨H3,I3,q'⟩
 | true=>
  refine ite_tt (test_last (thn (hc pins s3 σ H3 _ I3 q3) fun w' s4 ⟨z',H4,I4,r4,q4⟩=>thn (ho' pins s4 σ H4 y z' u w' _ I4 r2 r4 q4) fun d' s5 ⟨z2,H5,I5,r5,k2,e2,q5⟩=>?_))
  subst e2
  cases r5
  exact wpAny_truthy_bool ⟨H5,I5,q5⟩
def Zq (K:PySem.W.Frag) (x:V) (H:Hp) (k:Bool):Prop:=
 match x with
 | .non=>k=false
 | .bl b=>k=b
 | .int i=>k=(i != 0)
 | .str y=>y.length<=sizeLine/\k=((y.length:Int) != 0)
 | .byt y=>y.size<=sizeLine/\k=((y.size:Int) != 0)
 | .ref p=>(∃ xs,SqL K H p xs/\k=!xs.isEmpty)\/(∃ xs,SqT K H p xs/\k=!xs.isEmpty)\/∃ kvs,H p=some (.dK kvs)/\k=!kvs.isEmpty
 | _=>False
theorem Ea {κ:Type}{kvs:List (κ×V)}{vs:List (κ×Value)}(r:KV kvs vs):(!vs.isEmpty)=!kvs.isEmpty:=by
 cases r <;> rfl
theorem vg {xs:List V}{its:List Value}(r:Vals xs its):(!its.toArray.isEmpty)=!xs.isEmpty:=by
 cases r <;> simp
theorem u5:(sizeLine:Nat) < 2 ^ 63:=by rw[sizeLine_eq]; decide
theorem Vn:Zr X (fun x H Q=>∃ k,Zq X.K x H k/\Q k H):=by
 intro pins s σ H x v Q I rx h
 obtain ⟨k,e,q⟩:=h
 have hl:=u5
 have hs:sizeLine=16777216:=sizeLine_eq
 cases x with
 | non=>
  cases rx
  have e':k=false:=e
  subst e'
  exact truthy_none ⟨H,I,q⟩
 | bl b=>
  cases rx
  have e':k=b:=e
  subst e'
  exact wpAny_truthy_bool ⟨H,I,q⟩
 | int i=>
  obtain ⟨t,rfl⟩:=rx
  have e':k=(i != 0):=e
  subst e'
  exact PySem.P.truthy_int ⟨H,I,q⟩
 | str y=>
  obtain ⟨t,rfl⟩:=rx
  obtain ⟨hy,e'⟩:y.length<=sizeLine/\k=((y.length:Int) != 0):=e
  subst e'
  exact PySem.P.truthy_str ω ⟨H,I.tok _,q⟩
 | byt y=>
  obtain ⟨t,rfl⟩:=rx
  obtain ⟨hy,e'⟩:y.size<=sizeLine/\k=((y.size:Int) != 0):=e
  subst e'
  exact PySem.W.truthy_bytes ω ⟨H,I.tok _,q⟩
 | ref p=>
  cases rx
  have e':(∃ xs,SqL X.K H p xs/\k=!xs.isEmpty)\/(∃ xs,SqT X.K H p xs/\k=!xs.isEmpty)\/∃ kvs,H p=some (.dK kvs)/\k=!kvs.isEmpty:=e
  rcases e' with ⟨xs,hx,e'⟩ | ⟨xs,hx,e'⟩ | ⟨kvs,hx,e'⟩
  ·subst e'
   obtain ⟨its,r,pl,hz⟩:=I.list hx
   have hlen:=r.length
   exact wpAny_truthy_list pl.isList (by simp only[List.size_toArray]; omega) ⟨H,I.tok _,by rw[vg r]; exact q⟩
  ·subst e'
   obtain ⟨its,r,pl,hz⟩:=I.tuple hx
   have hlen:=r.length
   exact truthy_tuple pl (by simp only[List.size_toArray]; omega) ⟨H,I.tok _,by rw[vg r]; exact q⟩
  ·subst e'
   obtain ⟨hz,hS,vs,r,m⟩:kvs.length<=sizeLine/\(p == sysModules)=false/\∃ vs,KV kvs vs/\s.heap.DictOf (b8 X.prog X.w) p vs:=I.hok p _ hx
   have hlen:kvs.length=vs.length:=Paired.length r
   exact wpAny_truthy_dict hS m ω ⟨H,I.tok _,by rw[Ea r]; exact q⟩
 | _=>exact (show False from e).elim
theorem vals1 {x:V}{us:List Value}(r:Vals [x] us):∃ u,us=[u]/\RelV x u:=by
 cases r with
 | cons r1 r2=>cases r2; exact ⟨_,rfl,r1⟩
theorem vals2 {x y:V}{us:List Value}(r:Vals [x,y] us):∃ u w',us=[u,w']/\RelV x u/\RelV y w':=by
 cases r with
 | cons r1 r2=>
  cases r2 with
  | cons r3 r4=>cases r4; exact ⟨_,_,rfl,r1,r3⟩
theorem BR:dj X (.builtin "abs") (fun xs H Q=>∃ i,xs=[.int i]/\Q (.int (if i < 0 then -i else i)) H):=by
 intro pins s σ H xs us Q I r h
 obtain ⟨i,rfl,q⟩:=h
 obtain ⟨u,rfl,t,rfl⟩:=vals1 r
 exact call_abs_int fun u tk=>⟨.int (if i < 0 then -i else i),H,I.tok _,⟨_,rfl⟩,q⟩
theorem Jq (hc:X.calm=true):dj X (.builtin "max") (fun xs H Q=>∃ i j,xs=[.int i,.int j]/\Q (.int (if j > i then j else i)) H):=by
 intro pins s σ H xs us Q I r h
 obtain ⟨i,j,rfl,q⟩:=h
 obtain ⟨u,w',rfl,⟨t,rfl⟩,⟨t',rfl⟩⟩:=vals2 r
 refine max_two_ints (I.ok.hd hc) fun h' tk k=>⟨_,H,I.kept k,?_,q⟩
 by_cases hj:j > i
 ·rw[if_pos hj,if_pos hj]; exact ⟨_,rfl⟩
 ·rw[if_neg hj,if_neg hj]; exact ⟨_,rfl⟩
theorem Jp (hc:X.calm=true):dj X (.builtin "min") (fun xs H Q=>∃ i j,xs=[.int i,.int j]/\Q (.int (if j < i then j else i)) H):=by
 intro pins s σ H xs us Q I r h
 obtain ⟨i,j,rfl,q⟩:=h
 obtain ⟨u,w',rfl,⟨t,rfl⟩,⟨t',rfl⟩⟩:=vals2 r
 refine min_two_ints (I.ok.hd hc) fun h' tk k=>⟨_,H,I.kept k,?_,q⟩
 by_cases hj:j < i
 ·rw[if_pos hj,if_pos hj]; exact ⟨_,rfl⟩
 ·rw[if_neg hj,if_neg hj]; exact ⟨_,rfl⟩
theorem xQ:dj X (.type "int") (fun xs H Q=>(∃ i,xs=[.int i]/\Q (.int i) H)\/∃ k,xs=[.bl k]/\Q (.int (if k then 1 else 0)) H):=by
 intro pins s σ H xs us Q I r h
 rcases h with ⟨i,rfl,q⟩ | ⟨k,rfl,q⟩
 ·obtain ⟨u,rfl,t,rfl⟩:=vals1 r
  exact call_int_int ⟨.int i,H,I,⟨_,rfl⟩,q⟩
 ·obtain ⟨u,rfl,r1⟩:=vals1 r
  cases r1
  exact call_int_bool ⟨.int (if k then 1 else 0),H,I.tok _,⟨_,rfl⟩,q⟩
end
structure X6 (h:Heap) (x dx C:Addr) (mA:Str->Option Value):Prop where
 obj:h.get? x=some (PySem.W.instObj C dx)
 ns:h.Ns1 dx mA
 ne:dx≠x
theorem Iw {h:Heap}{dx:Addr}{mA:Str->Option Value}(n:h.Ns1 dx mA):∃ od,h.get? dx=some od/\∀ name,PySem.W.lookIn name od=some (mA name):=by
 obtain ⟨o,es,ep,ho,hd,hk,_,hm⟩:=n
 refine ⟨o,ho,fun name=>?_⟩
 have e:=hm name
 unfold nsFind findBy at e
 rw[<- Array.find?_toList] at e
 unfold PySem.W.lookIn
 rw[hd]
 dsimp only
 split
 ·rename_i y q
  rw[q] at e
  exact congrArg some e
 ·rename_i q
  rw[q] at e
  have a:es.toList.any (·.refKey)=false:=by
   rw[List.any_eq_false]
   intro y hy
   obtain ⟨z,t,hkey⟩:=hk y (Array.mem_toList_iff.mp hy)
   simp [DictEntry.refKey,hkey]
  have a':¬ es.toList.any (·.refKey)=true:=by rw[a]; exact Bool.false_ne_true
  rw[if_neg a']
  exact congrArg some e
theorem X6.look {h:Heap}{x dx C:Addr}{mA:Str->Option Value}(I:X6 h x dx C mA):∃ od,PySem.W.InstAt h x (PySem.W.instObj C dx) C (some od)/\∀ name,PySem.W.lookIn name od=some (mA name):=
 let ⟨od,ho,hl⟩:=Iw I.ns
 ⟨od,⟨I.obj,rfl,rfl,ho⟩,hl⟩
section
variable {prog:Program}{w:World}{A:Around}{E:Value->Shared->Prop}{s:Shared}{K:PySem.W.Frag}{x dx C f:Addr}{mA:Str->Option Value}{name:Str}{v:Value}
end
section
variable {P:Program}{w:World}{H H':Hp}{h h':Heap}{a C dx:Addr}{fs fs':List (Str×V)}
theorem TQ (hok:HOk P w H h) (e:H a=some (.ins C dx fs)):∃ mA,X6 h a dx C mA/\(∀ f,zH (fs.lookup f) (mA f))/\PySem.Within mA (fs.map (·.1))/\fs.length<=1000/\H dx=some (.own a):=by
 obtain ⟨d,z,ne,ob,mA,n,r,q⟩:=(show cA P w H h a (.ins C dx fs) from hok a _ e)
 exact ⟨mA,⟨ob,n,ne⟩,r,q,z,d⟩
end
structure Cls (K:PySem.W.Frag) (C:Addr):Prop where
 pg:PySem.W.plainGet K C Str.empty=true
 hd:PySem.W.hasDictIn K C=true
 po:PySem.W.plainOver K C=true
 sa:PySem.W.findIn K (.ref C) "__setattr__" = some (some (.builtin "object.__setattr__"))
theorem Cls.get {K:PySem.W.Frag}{C:Addr}(c:Cls K C) (f:Str):PySem.W.plainGet K C f=true:=c.pg
section
variable {X:Cx}{pins:List (Addr×Obj)}{σ:St}{H:Hp}{s:Shared}{a C dx:Addr}{fs:List (Str×V)}{f:Str}{v:V}{A:Around}{E:Value->Shared->Prop}
end
section
variable {X:Cx}{o e value:Expr}{f:Str}{pos pos' tpos:Pos}{ta tv:TE}
end
section
variable {X:Cx}{pins:List (Addr×Obj)}{σ:St}{H:Hp}{s:Shared}{A:Around}{E:Value->Shared->Prop}{Q:Value->Shared->Prop}{c:Value}{b:Bool}
inductive n6 (K:PySem.W.Frag) (H:Hp):V->Value->Prop where
 | non:n6 K H .non (.type "NoneType")
 | bl (x:Bool):n6 K H (.bl x) (.type "bool")
 | int (i:Int):n6 K H (.int i) (.type "int")
 | str (x:Str):n6 K H (.str x) (.type "str")
 | flt (x:UInt64):n6 K H (.flt x) (.type "float")
 | lst {a:Addr} {xs:List V} (e:H a=some (.lst xs)):n6 K H (.ref a) (.type "list")
 | frz {a:Addr} {o:Obj} {xs:List V} (e:H a=some (.frz o (.lst xs))):n6 K H (.ref a) (.type "list")
 | tup {a:Addr} {xs:List V} (e:H a=some (.tup xs)):n6 K H (.ref a) (.type "tuple")
 | dK {a:Addr} {kvs:List (Key×V)} (e:H a=some (.dK kvs)):n6 K H (.ref a) (.type "dict")
 | dT {a:Addr} {kvs:List (List Key×V)} (e:H a=some (.dT kvs)):n6 K H (.ref a) (.type "dict")
 | ins {a C dx:Addr} {fs:List (Str×V)} (e:H a=some (.ins C dx fs)) (cl:Cls K C) (ha:PySem.W.findIn K (.ref C) "__class__" = some (some (.builtin "object.__class__")))
   (hn:PySem.W.specialIn K (.builtin "object.__class__") "__get__" = some (some (.builtin "getset_descriptor.__get__"))) (htk:PySem.W.takesIn K (.builtin "object.__class__")=some true)
   (hm:PySem.W.mroIn K C (.type "object")=some true):n6 K H (.ref a) (.ref C)
theorem Jb {x:V}{u t:Value}(I:Inv X pins σ H s) (rx:RelV x u) (ty:n6 X.K H x t) (e:PySem.W.kitOne X.K t c=some b) (h:∀ tk,Q (.bool b) { s with toks:=tk }) :
  wpAny (model X.prog X.w) A (call (.builtin "isinstance") [u,c]) Q E s:=by
 cases ty with
 | non=>cases (show u=Value.none from rx); exact PySem.W.kia_one PySem.W.kitx_none I.kIn True.intro e (fun z=>nomatch z) h
 | bl y=>cases (show u=Value.bool y from rx); exact PySem.W.kia_one PySem.W.kitx_bool I.kIn True.intro e (fun z=>nomatch z) h
 | int i=>obtain ⟨t,q⟩:=(show ∃ t,u=Value.int i t from rx); cases q; exact PySem.W.kia_one PySem.W.kitx_int I.kIn True.intro e (fun z=>nomatch z) h
 | str y=>obtain ⟨t,q⟩:=(show ∃ t,u=Value.str y t from rx); cases q; exact PySem.W.kia_one PySem.W.kitx_str I.kIn True.intro e (fun z=>nomatch z) h
 | flt y=>obtain ⟨t,q⟩:=(show ∃ t,u=Value.float y t from rx); cases q; exact PySem.W.kia_one PySem.W.kitx_float I.kIn True.intro e (fun z=>nomatch z) h
 | @lst a xs ea=>
  cases (show u=Value.ref a from rx)
  obtain ⟨_,_,n,_,h1⟩:=(show cA X.prog X.w H s.heap a (.lst xs) from I.hok a _ ea)
  exact PySem.W.kia_one PySem.W.kitx_list I.kIn ⟨_,h1,rfl⟩ e (fun z=>nomatch z) h
 | @frz a ob xs ea=>
  cases (show u=Value.ref a from rx)
  obtain ⟨_,_,_,n,_,h1⟩:=(show cA X.prog X.w H s.heap a (.frz ob (.lst xs)) from I.hok a _ ea)
  exact PySem.W.kia_one PySem.W.kitx_list I.kIn ⟨_,h1,rfl⟩ e (fun z=>nomatch z) h
 | @tup a xs ea=>
  cases (show u=Value.ref a from rx)
  obtain ⟨_,_,_,p⟩:=(show cA X.prog X.w H s.heap a (.tup xs) from I.hok a _ ea)
  obtain ⟨o,h1,h2,_⟩:=p
  exact PySem.W.kia_one PySem.W.kitx_tuple I.kIn ⟨o,h1,h2⟩ e (fun z=>nomatch z) h
 | @dK a kvs ea=>
  cases (show u=Value.ref a from rx)
  obtain ⟨_,_,vs,_,p⟩:=(show cA X.prog X.w H s.heap a (.dK kvs) from I.hok a _ ea)
  obtain ⟨o,es,ep,h1,h2,_⟩:=p
  exact PySem.W.kia_one PySem.W.kitx_dict I.kIn ⟨o,h1,h2.1⟩ e (fun z=>nomatch z) h
 | @dT a kvs ea=>
  cases (show u=Value.ref a from rx)
  obtain ⟨_,_,xs,_,o,es,ep,h1,h2,_⟩:=(show cA X.prog X.w H s.heap a (.dT kvs) from I.hok a _ ea)
  exact PySem.W.kia_one PySem.W.kitx_dict I.kIn ⟨o,h1,h2.1⟩ e (fun z=>nomatch z) h
 | @ins a C dx fs ea cl ha hn htk hm=>
  cases (show u=Value.ref a from rx)
  obtain ⟨mA,O,_⟩:=TQ I.hok ea
  obtain ⟨od,J,_⟩:=O.look
  exact PySem.W.kia_one (PySem.W.kitx_own (cl.get _) cl.hd ha hn htk hm) I.kIn J e (fun z=>nomatch z) h
end
structure iV (k:Nat) (A:Around):Prop where
 hd:A.handled=none
 dp:A.depth + 3 * k + 5 < recursionLimit
 un:A.units + 16 * k + 200 < cLine
 gd:A.guards=some []
theorem iV.mono {j k:Nat}{A:Around}(r:iV k A) (h:j<=k):iV j A:=⟨r.hd,by have:=r.dp; omega,by have:=r.un; omega,r.gd⟩
theorem iV.deeper {k:Nat}{A:Around}(r:iV (k + 1) A) (env:Env):iV k (A.deeper env):=
 ⟨r.hd,by have:=r.dp; show A.depth + 1 + 3 * k + 5 < _; omega,by have:=r.un; show A.units + 3 + 16 * k + 200 < _; omega,r.gd⟩
theorem iV.depth {k:Nat}{A:Around}(r:iV k A):A.depth < recursionLimit:=by have:=r.dp; omega
theorem iV.bF {k:Nat}{A:Around}(r:iV k A):A.units < cLine:=by have:=r.un; omega
def uq:TA:=fun _ H Q=>Q [] H
def iW (ta:TE) (tr:TA):TA:=fun σ H Q=>ta σ H fun x H1=>tr σ H1 fun xs H2=>Q (x :: xs) H2
section
variable {X:Cx}{e:Expr}{es:List Expr}{te:TE}{t:TA}{pos:Pos}
theorem Ws:PA X [] uq:=fun _ _ _ _ H Q I h=>Calls.spliced_nil ⟨[],H,I,.nil,h⟩
theorem R6 (ha:PE X e te) (hr:PA X es t) (hs:starEach (e :: es) X.env=(false,eval e X.env) :: starEach es X.env:=by rfl):PA X (e :: es) (iW te t):=by
 intro pos pins s σ H Q I h
 rw[hs]
 show wpAny _ _ (spliced ((false,eval e X.env) :: backTo pos (starEach es X.env))) _ _ s
 refine Calls.spliced_cons (thE (ha pins s σ H _ I h) fun u s1 x H1 I1 r1 q1=>?_)
 exact thA (hr pos pins s1 σ H1 _ I1 q1) fun us s2 xs H2 I2 r2 q2=>⟨x :: xs,H2,I2,.cons r1 r2,q2⟩
def G6 (t:TA):TE:=fun σ H Q=>t σ H fun xs H1=>xs.length<=sizeLine/\∀ p,H1 p=none->Q (.ref p) (upd H1 p (.tup xs))
def J3 (t:TA):TE:=fun σ H Q=>t σ H fun xs H1=>xs.length<=sizeLine/\∀ p,H1 p=none->Q (.ref p) (upd H1 p (.lst xs))
theorem Wi {x1} (h:PA X es t):PE X (.Tuple es x1 pos) (G6 t):=by
 intro pins s σ H Q I hq
 refine wpAny_Tuple_spliced (thn (h pos pins s σ H _ I hq) fun us s1 ⟨xs,H1,I1,r,z,q⟩=>⟨by rw[<- r.length]; exact z,?_⟩)
 have hf:H1 s1.heap.objs.size=none:=I1.hok.fresh (Nat.le_refl _)
 refine ⟨.ref s1.heap.objs.size,upd H1 s1.heap.objs.size (.tup xs),I1.laid (t':=s1.toks) (fun b u e=>Heap.get?_push_of_some _ e) (Nat.le_refl _) ?_,rfl,q _ hf⟩
 exact ⟨z,us,r,⟨_,Heap.get?_push_size _ rfl,rfl,_,rfl⟩⟩
theorem Wn (h:PA X es t):PE X (.List es pos) (J3 t):=by
 intro pins s σ H Q I hq
 refine wpAny_List_spliced (thn (h pos pins s σ H _ I hq) fun us s1 ⟨xs,H1,I1,r,z,q⟩=>⟨by rw[<- r.length]; exact z,?_⟩)
 have hf:H1 s1.heap.objs.size=none:=I1.hok.fresh (Nat.le_refl _)
 refine ⟨.ref s1.heap.objs.size,upd H1 s1.heap.objs.size (.lst xs),I1.laid (t':=s1.toks) (fun b u e=>Heap.get?_push_of_some _ e) (Nat.le_refl _) ?_,rfl,q _ hf⟩
 exact ⟨z,us,0,r,Heap.get?_push_size _ rfl⟩
end
abbrev Sp:=List V->Hp->VK->XK->Prop
abbrev CXT:=List Env->Hp->Shared->XK->Value->Shared->Prop
structure U0 (P:Program) (w:World) (K:PySem.W.Frag) (mg:Str->Option Value) (base:Heap) (A:Around) (outer:List Env) (s:Shared) (H:Hp):Prop where
 frames:A.frames=some outer
 mod:Mod K mg base
 bs:∀ b o,base.get? b=some o->s.heap.get? b=some o/\H b=none
 bsz:base.objs.size<=s.heap.objs.size
 tK:s.heap.FunFrames base outer
 frf:∀ b∈frs outer,H b=none
 hok:HOk P w H s.heap
 bare:AllBare s.gens
def CE (outer:List Env) (P:Program) (w:World) (H:Hp) (s:Shared) (Q:VK) (u:Value) (s':Shared):Prop:=
 ∃ v H',s'.os=s.os/\AllBare s'.gens/\Un (frs outer) [] H H' s.heap s'.heap/\HOk P w H' s'.heap/\RelV v u/\Q v H'
def CR (CX:CXT) (outer:List Env) (P:Program) (w:World) (H:Hp) (s:Shared) (Q:VK) (E:XK) (r:Result) (s':Shared):Prop:=
 match r with
 | .ok (.ret u)=>CE outer P w H s Q u s'
 | .ok _=>False
 | .error e=>CX outer H s E e s'
structure dO (P:Program) (w:World) (K:PySem.W.Frag) (mg:Str->Option Value) (base:Heap) (CX:CXT) (k:Nat) (f:Addr) (fd:FuncData) (ps:List Str) (sp:Sp):Prop where
 len:∀ vs H Q E,sp vs H Q E->vs.length=ps.length
 run:∀ (A:Around) (outer:List Env) (s:Shared) (H:Hp) (args:Args) (us:List Value) (vs:List V) (Q:VK) (E:XK),iV k A->U0 P w K mg base A outer s H->BindsTo s fd args (ps.zip us)->Vals vs us->sp vs H Q E ->
  codeAny (model P w) A (.call (.ref f) args) (CR CX outer P w H s Q E) s
section
variable {X:Cx}{pins:List (Addr×Obj)}{σ:St}{H:Hp}{s s':Shared}
theorem Inv.env0 (I:Inv X pins σ H s):U0 X.prog X.w X.K X.mg X.base X.A X.stack s H:=
 ⟨I.ok.frames,I.ok.mod,I.bs,Nat.le_trans I.ok.bsz I.sz,I.stack,I.Fo,I.hok,I.bare⟩
theorem Inv.after {Q:VK}{u:Value}(I:Inv X pins σ H s) (h:CE X.stack X.prog X.w H s Q u s'):EP X pins σ Q u s':=by
 obtain ⟨v,H',os,bare,un,hok,r,q⟩:=h
 obtain ⟨hh,g,d,t,os'⟩:=s'
 obtain rfl:os'=s.os:=os
 exact ⟨v,H',I.call (h':=hh) (g':=g) (d':=d) (t':=t) (ch:=[]) un hok bare (fun b z=>absurd z (by simp)),r,q⟩
end
def mG (sp:Sp) (dvs:List V) (E:XK) (t:TA):TE:=fun σ H Q=>t σ H fun vs H1=>sp (vs ++ dvs) H1 Q E
def Binds (K:PySem.W.Frag) (fd:FuncData) (ps:List Str) (ds:List Value):Prop:=
 ∀ (s:Shared) (us:List Value),K.In s.heap->(us ++ ds).length=ps.length->BindsTo s fd ⟨us,[]⟩ (ps.zip (us ++ ds))
theorem Binds.all {K:PySem.W.Frag}{fd:FuncData}{ps:List Str}(h:∀ us:List Value,us.length=ps.length->bindArgs fd ⟨us,[]⟩=pure (ps.zip us)):Binds K fd ps []:=fun s us _ hl=>by
 rw[List.append_nil] at hl |-
 exact .of_eq (h us hl)
def Fe (CX:CXT) (X:Cx) (E:XK):Prop:=∀ (pins:List (Addr×Obj)) (σ:St) (H:Hp) (s:Shared) (e:Value) (s':Shared),Inv X pins σ H s->CX X.stack H s E e s'->X.xe e s'
section
variable {X:Cx}{CX:CXT}{k:Nat}{f C:Addr}{fd:FuncData}{ps:List Str}{sp:Sp}{dvs:List V}{ds:List Value}{E:XK}{x m:Str}{p pos apos:Pos}{e o:Expr}{es:List Expr}{ta:TE}{t:TA}
theorem Vx {pins:List (Addr×Obj)}{σ:St}{H:Hp}{s:Shared}{Q:VK}{us:List Value}{vs:List V}(F:dO X.prog X.w X.K X.mg X.base CX k f fd ps sp) (hr:iV k X.A) (hb:Binds X.K fd ps ds) (hd:Vals dvs ds) (hx:Fe CX X E)
  (I:Inv X pins σ H s) (r:Vals vs us) (h:sp (vs ++ dvs) H Q E):wpAny (model X.prog X.w) X.A (call (.ref f) us) (EP X pins σ Q) X.xe s:=by
 have r2:Vals (vs ++ dvs) (us ++ ds):=r.append hd
 have hl:(us ++ ds).length=ps.length:=by rw[<- r2.length]; exact F.len _ _ _ _ h
 refine wpAny_call (codeAny_mono (F.run X.A X.stack s H ⟨us,[]⟩ (us ++ ds) (vs ++ dvs) Q E hr I.env0 (hb s us I.kIn hl) r2 h) fun r s' hq=>?_)
 cases r with
 | error e=>exact hx pins σ H s e s' I hq
 | ok fl=>
  cases fl with
  | ret u=>exact I.after hq
  | next=>exact False.elim hq
  | brk=>exact False.elim hq
  | cont=>exact False.elim hq
theorem RW (F:dO X.prog X.w X.K X.mg X.base CX k f fd ps sp) (hr:iV k X.A) (hg:Gl X x) (hm:X.mg x=some (.ref f)) (hk:PySem.W.keepIn X.K (.ref f)=true) (hb:Binds X.K fd ps ds) (hd:Vals dvs ds) (hx:Fe CX X E)
  (ha:PA X (e :: es) t) (hdb:(x == ("__debug__" : Str))=false:=by decide) (he:starEach (e :: es) X.env=(false,eval e X.env) :: starEach es X.env:=by rfl) (hpl:(backTo pos (starEach es X.env)).any (·.1)=false:=by rfl) :
  PE X (.Call (.Name x p) (e :: es) [] pos) (mG sp dvs E t):=by
 intro pins s σ H Q I h
 refine wpAny_Call_Name_kw (Td I hg hm ?_ hdb)
 refine PySem.W.callWith_K (h₀:=X.base) I.ok.mod.kin hk (thA (ha pos pins s σ H _ I h) fun us s1 vs H1 I1 r q=>⟨I1.kIn,?_⟩) he hpl
 exact Vx F hr hb hd hx I1 r q
end
section
variable {X:Cx}{CX:CXT}{k:Nat}{f C:Addr}{fd:FuncData}{ps ks:List Str}{sp:Sp}{E:XK}{x m:Str}{p pos apos kpos:Pos}{e o:Expr}{es:List Expr}{kws:List Keyword}{te ta:TE}{t tk:TA}{nm:Option Str}
variable {g:List Value->List Value->List Value}{gV:List V->List V->List V}
end
structure bJ (N P:List Str) (sc:Scope):Prop where
 kind:sc.kind=.function
 co:sc.isCoroutine=false
 gen:sc.isGenerator=false
 nd:N.Nodup
 pre:N.take P.length=P
 par:∀ x∈P,sc.names.lookup x=some .local\/sc.names.lookup x=some .cell
 nofree:∀ y∈sc.names,y.2≠.free
theorem xT {kindOf:Str->Option NameKind}{x:Str}:∀ {binds:List (Str×Value)}{m:Str->Option Value},(∀ v,(x,v)∉binds)->bindL kindOf binds m x=m x
 | [],_,_=>rfl
 | (n,v) :: r,m,h=>by
  unfold bindL
  rw[xT fun w hw=>h w (List.mem_cons_of_mem _ hw)]
  split
  ·have:x≠n:=by rintro rfl; exact h v List.mem_cons_self
   simp [this]
  ·rfl
theorem xV {kindOf:Str->Option NameKind}{x:Str}:∀ {binds:List (Str×Value)}{m:Str->Option Value},(∀ v,(x,v)∉binds)->bindC kindOf binds m x=m x
 | [],_,_=>rfl
 | (n,v) :: r,m,h=>by
  unfold bindC
  rw[xV fun w hw=>h w (List.mem_cons_of_mem _ hw)]
  split
  ·rfl
  ·have:x≠n:=by rintro rfl; exact h v List.mem_cons_self
   simp [this]
theorem xU {kindOf:Str->Option NameKind}{x:Str}{v:Value}:∀ {P:List Str}{vs:List Value}{i:Nat}{m:Str->Option Value},P.Nodup->P[i]?=some x->vs[i]?=some v->kindOf x=some .local ->
  bindL kindOf (P.zip vs) m x=some v
 | [],_,_,_,_,h,_,_=>by simp at h
 | _ :: _,[],_,_,_,_,h,_=>by simp at h
 | p :: P,w :: vs,0,m,nd,h1,h2,hk=>by
  simp at h1 h2; subst h1; subst h2
  show bindL kindOf ((p,w) :: P.zip vs) m p=_
  unfold bindL
  rw[xT fun v hv=>(List.nodup_cons.mp nd).1 (List.of_mem_zip hv).1,if_pos hk]
  simp
 | p :: P,w :: vs,i + 1,m,nd,h1,h2,hk=>by
  show bindL kindOf ((p,w) :: P.zip vs) m x=_
  unfold bindL
  exact xU (i:=i) (List.nodup_cons.mp nd).2 (by simpa using h1) (by simpa using h2) hk
theorem xW {kindOf:Str->Option NameKind}{x:Str}{v:Value}:∀ {P:List Str}{vs:List Value}{i:Nat}{m:Str->Option Value},P.Nodup->P[i]?=some x->vs[i]?=some v->kindOf x≠some .local ->
  bindC kindOf (P.zip vs) m x=some v
 | [],_,_,_,_,h,_,_=>by simp at h
 | _ :: _,[],_,_,_,_,h,_=>by simp at h
 | p :: P,w :: vs,0,m,nd,h1,h2,hk=>by
  simp at h1 h2; subst h1; subst h2
  show bindC kindOf ((p,w) :: P.zip vs) m p=_
  unfold bindC
  rw[xV fun v hv=>(List.nodup_cons.mp nd).1 (List.of_mem_zip hv).1,if_neg hk]
  simp
 | p :: P,w :: vs,i + 1,m,nd,h1,h2,hk=>by
  show bindC kindOf ((p,w) :: P.zip vs) m x=_
  unfold bindC
  exact xW (i:=i) (List.nodup_cons.mp nd).2 (by simpa using h1) (by simpa using h2) hk
def start (N:List Str) (vs:List V):St:=vs.map some ++ List.replicate (N.length - vs.length) none
def En (CX:CXT) (P:Program) (w:World) (K:PySem.W.Frag) (mg:Str->Option Value) (base:Heap) (N:List Str) (qual:Str) (scope:Scope) (f:Addr) (cd:Value) (A:Around) (outer:List Env) (s:Shared) (H:Hp) (E:XK):Cx where
 prog:=P
 w:=w
 K:=K
 mg:=mg
 base:=base
 A:=A.deeper (envOfC qual scope s.heap.objs.size f cd)
 N:=N
 s₀:=s
 H₀:=H
 env:=envOfC qual scope s.heap.objs.size f cd
 outer:=outer
 stack:=envOfC qual scope s.heap.objs.size f cd :: outer
 ex:=[]
 calm:=true
 fn:=fun _=>true
 pn:=[]
 xe:=fun e s'=>wpAny (model P w) (A.deeper (envOfC qual scope s.heap.objs.size f cd)) (leaving (envOfC qual scope s.heap.objs.size f cd) e) (fun _ s''=>CX outer H s E e s'') (fun e' s''=>CX outer H s E e' s'') s'
theorem BL {sc:Scope}{n:Nat}{x:Str}(h:sc.names.lookup x=some .cell):∃ c,(cellsFrom n sc.names []).lookup x=some c:=by
 have q:=PySem.W.cellsFrom_some sc.names n [] (.inl h)
 exact Option.isSome_iff_exists.mp q
theorem Jc {CX:CXT}{P:Program}{w:World}{K:PySem.W.Frag}{mg:Str->Option Value}{base:Heap}{N ps:List Str}{qual:Str}{scope:Scope}{f:Addr}{cd:Value}{A:Around}{outer:List Env}{s s1:Shared}{H:Hp}{E:XK}{us:List Value}{vs:List V}
  (S:bJ N ps scope) (hd:A.handled=none) (e0:U0 P w K mg base A outer s H) (hl:vs.length=ps.length) (r:Vals vs us)
  (x:InCallC s s.heap.objs.size (bindL (envOfC qual scope s.heap.objs.size f cd).kindOf (ps.zip us) fun _=>none) (cellsFrom (s.heap.objs.size + 1) scope.names []) (bindC (envOfC qual scope s.heap.objs.size f cd).kindOf (ps.zip us) fun _=>none) s1) :
  Inv (En CX P w K mg base N qual scope f cd A outer s H E) [] (start N vs) H s1:=by
 have hpl:ps.length<=N.length:=by have:=congrArg List.length S.pre; rw[List.length_take] at this; omega
 obtain ⟨h1,tk,rfl,hk⟩:=x.done
 have noA:∀ b:Addr,b∉(En CX P w K mg base N qual scope f cd A outer s H E).ex:=fun b z=>absurd (show b∈([]:List Addr) from z) (by simp)
 refine ⟨⟨e0.mod,S.kind,rfl,rfl,Nat.le_refl _,fun y z c h1 h2=>?_,fun y hy=>?_,fun y c _ h=>?_,fun _=>hd,Around.frames_deeper e0.frames,.inr ⟨rfl,rfl⟩,fun b z=>absurd z (noA b),e0.bs,e0.bsz,fun b _ _=>noA b,fun b z=>absurd z (noA b),e0.tK,e0.frf⟩,
  rfl,e0.bare,Un.kept hk,⟨_,x.toInCall.ns,fun i y v h1 h2 h3=>?_⟩,fun y c h=>⟨_,x.cell y c h⟩,e0.hok.fresh (Nat.le_refl _),fun y c h=>?_,fun p hp=>absurd (show p∈([]:List (Addr×Obj)) from hp) (by simp),e0.hok.kept hk,?_⟩
 ·exact name_of_addr x.apart (PySem.mem_of_lookup h1) (PySem.mem_of_lookup h2)
 ·have hy:scope.names.lookup y=some .cell\/scope.names.lookup y=some .free:=hy
  rcases hy with hy | hy
  ·exact BL hy
  ·exact absurd rfl (S.nofree _ (PySem.mem_of_lookup hy))
 ·exact Nat.le_of_lt (x.above y c (PySem.mem_of_lookup h))
 ·have hi:i < vs.length:=by
   unfold start at h2
   by_cases hi:i < vs.length
   ·exact hi
   ·rw[List.getElem?_append_right (by simpa using hi)] at h2
    rw[List.getElem?_replicate] at h2
    split at h2 <;> cases h2
  have ha:vs[i]?=some v:=by
   unfold start at h2
   rw[List.getElem?_append_left (by simpa using hi),List.getElem?_map] at h2
   cases e:vs[i]? with
   | none=>rw[e] at h2; cases h2
   | some a=>rw[e] at h2; cases h2; rfl
  obtain ⟨u,hu,rv⟩:=r.get ha
  have hp:ps[i]?=some y:=by
   rw[<- S.pre,List.getElem?_take_of_lt ω]; exact h1
  have ndP:ps.Nodup:=by rw[<- S.pre]; exact S.nd.sublist (List.take_sublist _ _)
  refine ⟨u,rv,?_⟩
  rcases S.par y (List.mem_of_getElem? hp) with k | k
  ·exact .inl ⟨k,xU ndP hp hu k⟩
  ·obtain ⟨c,e⟩:=BL (n:=s.heap.objs.size + 1) k
   refine .inr ⟨.inl k,c,e,?_⟩
   have q:=x.cell y c e
   rw[xW ndP hp hu (by show scope.names.lookup y≠_; rw[k]; decide)] at q
   exact q
 ·exact e0.hok.fresh (Nat.le_of_lt (x.above y c (PySem.mem_of_lookup h)))
 ·unfold start
  show _=N.length
  rw[List.length_append,List.length_map,List.length_replicate]
  omega
theorem YS {CX:CXT}{P:Program}{w:World}{K:PySem.W.Frag}{mg:Str->Option Value}{base:Heap}{k:Nat}{f:Addr}{name qual:Str}{params:Arguments}{body:List Stmt}{scope:Scope}{dV kV doc pm cdv ct oc:Value}{an od:Option Addr}
  {osl:Array (Option Value)} {N ps:List Str} {sp:Sp} (lk:K.lookup f=some ⟨oc,od,.func (PySem.W.fnOf name qual params body scope dV kV doc pm an cdv ct),osl⟩) (hcd:PySem.W.codeIn K cdv qual=true) (S:bJ N ps scope)
  (len:∀ vs H Q E,sp vs H Q E->vs.length=ps.length)
  (hbody:∀ (A:Around) (outer:List Env) (s:Shared) (H:Hp) (vs:List V) (Q:VK) (E:XK),iV k (A.deeper (envOfC qual scope s.heap.objs.size f cdv))->sp vs H Q E ->
   ∃ t,PSs (En CX P w K mg base N qual scope f cdv A outer s H E) body t/\t { nx:=fun _ H'=>Q .non H',rt:=Q } (start N vs) H) :
  dO P w K mg base CX (k + 1) f (PySem.W.fnOf name qual params body scope dV kV doc pm an cdv ct) ps sp:=by
 refine ⟨len,fun A outer s H args us vs Q E hr e0 hb r hsp=>?_⟩
 have hl:=len _ _ _ _ hsp
 have KX:K.In s.heap:=e0.mod.kin.keeps fun b o e=>(e0.bs b o e).1
 have lim:s.heap.NoLimit:=e0.mod.nolimit.keeps fun b o e=>(e0.bs b o e).1
 have hkind:∀ y∈ps.zip us,scope.names.lookup y.1=some .local\/(scope.names.lookup y.1=some .cell/\((cellsFrom (s.heap.objs.size + 1) scope.names []).lookup y.1).isSome=true):=fun ⟨n,v⟩ hy=>by
  rcases S.par n (List.of_mem_zip hy).1 with q | q
  ·exact .inl q
  ·exact .inr ⟨q,PySem.W.cellsFrom_some _ _ _ (.inl q)⟩
 refine codeAny_call_function hr.depth (KX _ _ lk) rfl S.co S.gen rfl (PySem.W.codeRec_of KX hcd) (hb _ _ _ _ ?_)
 refine wpAny_newFunctionEnv_cells S.kind hkind fun env he s1 x=>?_
 subst he
 refine ⟨lim.keeps x.toInCall.keep,codeAny_func ?_⟩
 obtain ⟨t,ht,hq⟩:=hbody A outer s H vs Q E (hr.deeper _) hsp
 have I:Inv (En CX P w K mg base N qual scope f cdv A outer s H E) [] (start N vs) H s1:=Jc S hr.hd e0 hl r x
 refine wpAny_mono (ht [] s1 (start N vs) H _ I hq) (fun fl s' hs=>?_) fun e s' hs=>hs
 have fin:∀ {σ':St} {H':Hp} {v:V} {u:Value},Inv (En CX P w K mg base N qual scope f cdv A outer s H E) [] σ' H' s'->RelV v u->Q v H'->CE outer P w H s Q u s':=
  fun {σ' H' v u} J rv q=>⟨v,H',J.os,J.bare,J.base,J.hok,rv,q⟩
 cases fl with
 | ret u=>
  obtain ⟨v,σ',H',J,rv,q⟩:=hs
  exact fin J rv q
 | next=>
  obtain ⟨σ',H',J,q⟩:=hs
  exact fin (v:=V.non) (u:=Value.none) J rfl q
 | brk=>
  obtain ⟨_,_,_,q⟩:=hs
  exact False.elim q
 | cont=>
  obtain ⟨_,_,_,q⟩:=hs
  exact False.elim q
section
variable {X:Cx}{x:Str}{p pos:Pos}{e:Expr}{es:List Expr}{t:TA}{id T:String}{r:List V->Hp->VK->Prop}
def tCB (r:List V->Hp->VK->Prop) (t:TA):TE:=fun σ H Q=>t σ H fun vs H1=>r vs H1 Q
theorem Mg (hc:dj X (.builtin id) r) (hg:Gl X x) (hm:X.mg x=none) (hv:bootBuiltins x=some (.builtin id)) (ha:PA X (e :: es) t) (hn:x ≠ "__name__" := by decide) (hdb:(x == ("__debug__" : Str))=false:=by decide)
  (he:starEach (e :: es) X.env=(false,eval e X.env) :: starEach es X.env:=by rfl) (hpl:(backTo pos (starEach es X.env)).any (·.1)=false:=by rfl):PE X (.Call (.Name x p) (e :: es) [] pos) (tCB r t):=by
 intro pins s σ H Q I h
 refine wpAny_Call_Name_kw (iT I hg hm hv ?_ hn hdb)
 exact PyProof.Rows.callWith_builtin1 (thA (ha pos pins s σ H _ I h) fun us s1 vs H1 I1 r1 q1=>hc pins s1 σ H1 vs us Q I1 r1 q1) he hpl
theorem HS (hc:dj X (.type T) r) (hg:Gl X x) (hm:X.mg x=none) (hv:bootBuiltins x=some (.type T)) (ha:PA X (e :: es) t) (hn:x ≠ "__name__" := by decide) (hdb:(x == ("__debug__" : Str))=false:=by decide)
  (he:starEach (e :: es) X.env=(false,eval e X.env) :: starEach es X.env:=by rfl) (hpl:(backTo pos (starEach es X.env)).any (·.1)=false:=by rfl):PE X (.Call (.Name x p) (e :: es) [] pos) (tCB r t):=by
 intro pins s σ H Q I h
 refine wpAny_Call_Name_kw (iT I hg hm hv ?_ hn hdb)
 exact PyProof.Rows.callWith_type1 (thA (ha pos pins s σ H _ I h) fun us s1 vs H1 I1 r1 q1=>hc pins s1 σ H1 vs us Q I1 r1 q1) he hpl
end
end L2
namespace HT
open PySem PyProof.Rows
section
open PySem.SeqAt
open PySem.AutoSeq1 (wpAny_loadPart')
open PySem.MeetsSeq PySem.MeetsSeq2 PySem.MeetsSeq3
end
section
variable {prog:Program}{w:World}{A:Around}{E:Value->Shared->Prop}{s:Shared}
def sIx (n d:Nat):Option Int->Nat
 | none=>d
 | some v=>if v < 0 then (v + (n:Int)).toNat else min v.toNat n
theorem Vw (n d:Nat) (hd:d<=n) (o:Option Int):sIx n d o<=n:=by
 cases o with
 | none=>exact hd
 | some v=>
  show (if v < 0 then (v + (n:Int)).toNat else min v.toNat n)<=n
  by_cases hv:v < 0
  ·rw[if_pos hv]; omega
  ·rw[if_neg hv]; exact Nat.min_le_right _ _
theorem Gz (v:Int) (n d:Nat):(if v < 0 then max (v + (n:Int)) 0 else min v (n:Int))=((sIx n d (some v):Nat):Int):=by
 show (if v < 0 then max (v + (n:Int)) 0 else min v (n:Int))=(((if v < 0 then (v + (n:Int)).toNat else min v.toNat n):Nat):Int)
 by_cases hv:v < 0
 ·simp only[if_pos hv]; omega
 ·simp only[if_neg hv]; omega
theorem Fd (lo hi:Option Int) (n:Nat):Builtin.Slice.sliceAdjust lo hi 1 (n:Int)=(((sIx n 0 lo:Nat):Int),((sIx n n hi:Nat):Int)):=by
 have h1:¬ ((1:Int) < 0):=by omega
 unfold Builtin.Slice.sliceAdjust
 simp only[h1,if_false]
 refine Prod.ext ?_ ?_
 ·cases lo with
  | none=>rfl
  | some v=>exact Gz v n 0
 ·cases hi with
  | none=>rfl
  | some v=>exact Gz v n n
theorem Dr (i j:Nat):Builtin.Slice.slicePlaces (i:Int) (j:Int) 1=j - i:=by
 unfold Builtin.Slice.slicePlaces
 have h1:(1:Int) > 0:=by omega
 simp only[h1,if_true,Int.ediv_one]
 split <;> omega
theorem uz {v:Value}{o:Option Int}{Q:Option Int->Shared->Prop}(p:IsPart v o) (h:Q o s):wpAny (model prog w) A (Builtin.Slice.slicePartIndex v) Q E s:=by
 cases p with
 | none=>exact slicePart_none h
 | int i t=>exact slicePart_int h
theorem qW {sl:Addr}{vl vu:Value}{lo hi:Option Int}{n:Nat}{Q:Int×Int×Nat->Shared->Prop}(hs:s.heap.IsSliceOf sl vl vu .none) (pl:IsPart vl lo) (pu:IsPart vu hi)
  (h:Q (((sIx n 0 lo:Nat):Int),1,sIx n n hi - sIx n 0 lo) s):wpAny (model prog w) A (Builtin.Slice.sliceApplied (.ref sl) (pure (n:Int))) Q E s:=by
 obtain ⟨os,hos,hcs,hds⟩:=id hs
 unfold Builtin.Slice.sliceApplied Builtin.Slice.sliceFields
 refine wpAny_bind (wpAny_bind (wpAny_field hos hds (x:=vl) rfl (wpAny_bind (wpAny_field hos hds (x:=vu) rfl (wpAny_bind (wpAny_field hos hds (x:=.none) rfl (wpAny_pure ?_)))))))
 refine wpAny_bind (slicePart_none ?_)
 show wpAny _ _ (if ((1:Int) == 0)=true then _ else _) _ _ s
 rw[if_neg δ]
 refine wpAny_bind (uz pl (wpAny_bind (uz pu (wpAny_bind (wpAny_pure ?_)))))
 show wpAny _ _ (match Builtin.Slice.sliceAdjust lo hi 1 (n:Int) with | (lo,hi)=>pure (lo,(1:Int),Builtin.Slice.slicePlaces lo hi 1)) _ _ s
 rw[Fd lo hi n]
 show wpAny _ _ (pure (((sIx n 0 lo:Nat):Int),(1:Int),Builtin.Slice.slicePlaces ((sIx n 0 lo:Nat):Int) ((sIx n n hi:Nat):Int) 1)) _ _ s
 rw[Dr]
 exact wpAny_pure h
theorem Ly (xs:Array Value) (i k:Nat):((List.range k).filterMap fun (m:Nat)=>xs[((i:Int) + (m:Int) * 1).toNat]?).toArray=((xs.toList.drop i).take k).toArray:=by
 have e:(fun (m:Nat)=>xs[((i:Int) + (m:Int) * 1).toNat]?)=fun m=>xs[i + m]?:=by
  funext m
  have:((i:Int) + (m:Int) * 1).toNat=i + m:=by omega
  rw[this]
 rw[e]
 have:=pick_run xs i k
 rw[List.filterMap_map] at this
 have e2:((fun x=>xs[x]?) ∘ fun x=>i + x)=fun m=>xs[i + m]?:=rfl
 rw[e2] at this
 rw[this]
theorem qz {t sl:Addr}{items:Array Value}{vl vu:Value}{lo hi:Option Int}{Q:Value->Shared->Prop}(ht:IsTup s.heap t items) (hs:s.heap.IsSliceOf sl vl vu .none) (pl:IsPart vl lo) (pu:IsPart vu hi)
  (hw:¬ (sIx items.size 0 lo=0/\sIx items.size items.size hi=items.size))
  (h:Q (.ref s.heap.objs.size) { s with heap:=s.heap.push { cls:=.type "tuple",data:=.seq ((items.toList.drop (sIx items.size 0 lo)).take (sIx items.size items.size hi - sIx items.size 0 lo)).toArray } })
  (hsz:items.size<=sizeLine):wpAny (model prog w) A (getItem (.ref t) (.ref sl)) Q E s:=by
 have htake:sizeOk (.seq ((items.toList.drop (sIx items.size 0 lo)).take (sIx items.size items.size hi - sIx items.size 0 lo)).toArray):=by
  show ((items.toList.drop (sIx items.size 0 lo)).take (sIx items.size items.size hi - sIx items.size 0 lo)).toArray.size<=sizeLine
  rw[List.size_toArray,List.length_take,List.length_drop,Array.length_toList]
  omega
 have hj:sIx items.size items.size hi<=items.size:=Vw _ _ (Nat.le_refl _) hi
 obtain ⟨os,hos,hcs,hds⟩:=id hs
 have hTs:s.TypeIs (.ref sl) "slice" := ⟨os,hos,hcs⟩
 unfold getItem
 try with_reducible refine wpAny_holding ?_
 first | refine wpAny_bind (wpAny_pure ?_) | skip
 refine wpAny_bind (wpAny_sequenceKey ht.typeIs δ ?_)
 refine wpAny_bind (wpAny_callSpecial?_slot (name:=Str.ofString "__getitem__") ht.typeIs PyProof.Rows.slot_tuple_getitem
  (wpAny_call_entry PyProof.Rows.slot_tuple_getitem ht.typeIs entry_tuple_getitem ?_ (args_tuple_getitem _ _)))
 show wpAny _ _ (Builtin.Tuple.tupleItemsOf (.ref t) >>= _) _ _ s
 refine wpAny_bind (tupleItemsOf_ ht ?_)
 refine wpAny_bind (wpAny_typeOf hTs ?_)
 rw[if_pos δ]
 refine wpAny_bind (qW hs pl pu ?_)
 have hno:¬ ((((sIx items.size 0 lo:Nat):Int) == 0 && (1:Int) == 1 && (sIx items.size items.size hi - sIx items.size 0 lo) == items.size)=true):=by
  intro q
  rw[Bool.and_eq_true,Bool.and_eq_true] at q
  have q1:((sIx items.size 0 lo:Nat):Int)=0:=eq_of_beq q.1.1
  have q2:sIx items.size items.size hi - sIx items.size 0 lo=items.size:=eq_of_beq q.2
  exact hw ⟨ω,ω⟩
 show wpAny _ _ (if (((sIx items.size 0 lo:Nat):Int) == 0 && (1:Int) == 1 && (sIx items.size items.size hi - sIx items.size 0 lo) == items.size)=true then _ else _) _ _ s
 rw[if_neg hno,Ly]
 first
  | exact wpAny_bind (m:=Builtin.Tuple.tupleExact _) (wpAny_newObj_type (wpAny_pure ⟨_,rfl,wpAny_pure h⟩) htake)
  | exact wpAny_bind (m:=Builtin.Tuple.tupleExact _) (wpAny_newObj_type (wpAny_bind (wpAny_pure (wpAny_pure ⟨_,rfl,wpAny_pure h⟩))) htake)
  | exact wpAny_bind (wpAny_bind (m:=Builtin.Tuple.tupleExact _) (wpAny_newObj_type (wpAny_pure (wpAny_pure ⟨_,rfl,wpAny_pure h⟩)) htake))
  | exact wpAny_bind (wpAny_bind (m:=Builtin.Tuple.tupleExact _) (wpAny_newObj_type (wpAny_pure ⟨_,rfl,wpAny_pure h⟩) htake))
end
end HT
namespace L2
open PySem PySem.Spec PyProof.Rows
abbrev TO:=St->Hp->(Option Int->Hp->Prop)->Prop
def PO (X:Cx) (e:Option Expr) (t:TO):Prop:=
 ∀ (pins:List (Addr×Obj)) (s:Shared) (σ:St) (H:Hp) (Q:Option Int->Hp->Prop),Inv X pins σ H s->t σ H Q ->
  wpAny (model X.prog X.w) X.A (evalPart e X.env) (fun u s'=>∃ o H',Inv X pins σ H' s'/\IsPart u o/\Q o H') X.xe s
def yc:TO:=fun _ H Q=>Q none H
def J0 (t:TE):TO:=fun σ H Q=>t σ H fun x H1=>∃ i,x=.int i/\Q (some i) H1
section
variable {X:Cx}{e:Expr}{te:TE}{lo hi:Option Expr}{tl th:TO}{pos p2:Pos}
theorem Rz:PO X none yc:=by
 intro pins s σ H Q I h
 rw[evalPart_none]
 exact wpAny_pure ⟨none,H,I,.none,h⟩
theorem Ry (h:PE X e te):PO X (some e) (J0 te):=by
 intro pins s σ H Q I hw
 rw[evalPart_some]
 refine thE (h pins s σ H _ I hw) fun u s1 x H1 I1 r1 q1=>?_
 obtain ⟨i,rfl,q⟩:=q1
 obtain ⟨t,rfl⟩:=r1
 exact ⟨some i,H1,I1,.int i t,q⟩
def SlR (X:Cx) (r:V->Option Int->Option Int->Hp->VK->Prop):Prop:=
 ∀ (pins:List (Addr×Obj)) (s:Shared) (σ:St) (H:Hp) (x:V) (v vl vu:Value) (lo hi:Option Int) (sl:Addr) (Q:VK),Inv X pins σ H s->RelV x v->s.heap.IsSliceOf sl vl vu .none->IsPart vl lo->IsPart vu hi->r x lo hi H Q ->
  ∃ T id,typeLookup (.type T) "__getitem__" = pure (some (.builtin id))/\s.TypeIs v T/\wpAny (model X.prog X.w) X.A (getItem v (.ref sl)) (EP X pins σ Q) X.xe s
def tSl (r:V->Option Int->Option Int->Hp->VK->Prop) (te:TE) (tl th:TO):TE:=fun σ H Q=>te σ H fun x H1=>tl σ H1 fun l H2=>th σ H2 fun u H3=>r x l u H3 Q
theorem LR {r:V->Option Int->Option Int->Hp->VK->Prop}(hr:SlR X r) (he:PE X e te) (hl:PO X lo tl) (hu:PO X hi th):PE X (.Subscript e (.Slice lo hi none p2) pos) (tSl r te tl th):=by
 intro pins s σ H Q I h
 refine Subscript_ (thE (he pins s σ H _ I h) fun v s1 x H1 I1 r1 q1=>?_)
 refine wpAny_Slice (thn (hl pins s1 σ H1 _ I1 q1) fun vl s2 ⟨l,H2,I2,pl,q2⟩=>thn (hu pins s2 σ H2 _ I2 q2) fun vu s3 ⟨u,H3,I3,pu,q3⟩=>?_)
 rw[evalPart_none]
 refine wpAny_pure ?_
 have I4:Inv X pins σ H3 { s3 with heap:=s3.heap.push { cls:=.type "slice",data:=.fields #[vl,vu,.none] } }:=I3.kept (t':=s3.toks) fun b ob q=>Heap.get?_push_of_some _ q
 obtain ⟨T,id,hT,ht,hg⟩:=hr pins { s3 with heap:=s3.heap.push { cls:=.type "slice",data:=.fields #[vl,vu,.none] } } σ H3 x v vl vu l u s3.heap.objs.size Q I4 r1 (Heap.IsSliceOf.new ..) pl pu q3
 show wpAny (model X.prog X.w) X.A (subscriptTail e (.Slice lo hi none p2) v (.ref s3.heap.objs.size)) (EP X pins σ Q) X.xe { s3 with heap:=s3.heap.push { cls:=.type "slice",data:=.fields #[vl,vu,.none] } }
 exact tail_any (ops:=[.ref s3.heap.objs.size,v]) ht hT hg (by with_unfolding_all rfl)
def rQ (xs:List V) (lo hi:Option Int):List V:=(xs.drop (HT.sIx xs.length 0 lo)).take (HT.sIx xs.length xs.length hi - HT.sIx xs.length 0 lo)
theorem sU (xs:List V) (lo hi:Option Int):(rQ xs lo hi).length<=xs.length:=by
 unfold rQ
 rw[List.length_take,List.length_drop]
 omega
def Zb (K:PySem.W.Frag):V->Option Int->Option Int->Hp->VK->Prop:=fun x lo hi H Q=>∃ a xs,x=.ref a/\SqT K H a xs /\
 ¬ (HT.sIx xs.length 0 lo=0/\HT.sIx xs.length xs.length hi=xs.length)/\∀ p,H p=none->Q (.ref p) (upd H p (.tup (rQ xs lo hi)))
theorem Vv:SlR X (Zb X.K):=by
 intro pins s σ H x v vl vu lo hi sl Q I rx hs pl pu h
 obtain ⟨a,xs,rfl,hx,hw,q⟩:=h
 cases rx
 obtain ⟨its,r,ht,hz⟩:=I.tuple hx
 have hlen:its.toArray.size=xs.length:=by rw[List.size_toArray]; exact r.length.symm
 refine ⟨"tuple",_,PyProof.Rows.slot_tuple_getitem.lookup,ht.typeIs,?_⟩
 refine HT.qz ht hs pl pu (by rw[hlen]; exact hw) ?_ (by rw[hlen]; exact hz)
 rw[hlen]
 refine ⟨.ref s.heap.objs.size,_,I.laid (t':=s.toks) (o:=.tup (rQ xs lo hi)) (fun b ob q=>Heap.get?_push_of_some _ q) (Nat.le_refl _) ?_,rfl,q _ (I.hok.fresh (Nat.le_refl _))⟩
 exact ⟨Nat.le_trans (sU xs lo hi) hz,_,(r.drop (HT.sIx xs.length 0 lo)).take (HT.sIx xs.length xs.length hi - HT.sIx xs.length 0 lo),IsTup.new _ _⟩
end
def ixN (n:Nat) (i:Int):Option Nat:=if 0<=i then (if i < n then some i.toNat else none) else if -(n:Int)<=i then some (i + n).toNat else none
def atI {α:Type} (xs:List α) (i:Int):Option α:=(ixN xs.length i).bind fun j=>xs[j]?
theorem Gm {n:Nat}{i:Int}{j:Nat}(h:ixN n i=some j):seqIndex? i n=some j/\j < n/\-(n:Int)<=i/\i < n:=by
 unfold ixN at h
 by_cases h0:0<=i
 ·rw[if_pos h0] at h
  by_cases h1:i < n
  ·rw[if_pos h1] at h
   have e:i.toNat=j:=Option.some.inj h
   exact ⟨by rw[seqIndex_of h0 h1,e],ω,ω,h1⟩
  ·rw[if_neg h1] at h; cases h
 ·rw[if_neg h0] at h
  by_cases h1:-(n:Int)<=i
  ·rw[if_pos h1] at h
   have e:(i + n).toNat=j:=Option.some.inj h
   exact ⟨by rw[seqIndex_neg ω h1,e],ω,h1,ω⟩
  ·rw[if_neg h1] at h; cases h
theorem GP {α:Type}{xs:List α}{i:Int}{v:α}(h:atI xs i=some v):∃ j,seqIndex? i xs.length=some j/\xs[j]?=some v/\j < xs.length/\-(xs.length:Int)<=i/\i < xs.length:=by
 unfold atI at h
 cases e:ixN xs.length i with
 | none=>rw[e] at h; cases h
 | some j=>
  rw[e] at h
  obtain ⟨h1,h2,h3,h4⟩:=Gm e
  exact ⟨j,h1,h,h2,h3,h4⟩
theorem fD {α:Type}{xs:List α}{j:Nat}{v:α}(h:xs[j]?=some v):atI xs (j:Int)=some v:=by
 have hj:j < xs.length:=(List.getElem?_eq_some_iff.mp h).1
 have e:ixN xs.length (j:Int)=some j:=by
  unfold ixN
  rw[if_pos ω,if_pos ω]; simp
 unfold atI; rw[e]; exact h
def GQ (b:Expr):Prop:=∀ o i,subscripted b false o i=operate [o,i] (getItem o i)
def IxR (X:Cx) (r:R2):Prop:=
 ∀ (value slice:Expr) (pins:List (Addr×Obj)) (s:Shared) (σ:St) (H:Hp) (x y:V) (v u:Value) (Q:VK),Inv X pins σ H s->RelV x v->RelV y u->r x y H Q ->
  subscripted slice false v u=operate [v,u] (getItem v u)->wpAny (model X.prog X.w) X.A (subscriptTail value slice v u) (EP X pins σ Q) X.xe s
section
variable {X:Cx}{a b:Expr}{ta tb:TE}{pos:Pos}
theorem Yp {r:R2} (hr:IxR X r) (ha:PE X a ta) (hb:PE X b tb) (hs:GQ b):PE X (.Subscript a b pos) (tOp r ta tb):=by
 intro pins s σ H Q I h
 exact Subscript_ (XQ ha hb I h fun v u s2 x y H2 I2 rx ry q=>hr a b pins s2 σ H2 x y v u Q I2 rx ry q (hs _ _))
def Yh (K:PySem.W.Frag):R2:=fun x y H Q=>∃ p xs i v,x=.ref p/\y=.int i/\SqL K H p xs/\atI xs i=some v/\Q v H
def Ze (K:PySem.W.Frag):R2:=fun x y H Q=>∃ p xs i v,x=.ref p/\y=.int i/\SqT K H p xs/\atI xs i=some v/\Q v H
theorem Gk:IxR X (Yh X.K):=by
 intro value slice pins s σ H x y v u Q I rx ry h hs
 obtain ⟨p,xs,i,z,rfl,rfl,hq,he,q⟩:=h
 cases rx
 obtain ⟨t,rfl⟩:=ry
 obtain ⟨its,r,pl,hz⟩:=I.list hq
 obtain ⟨j,h1,h2,h3,h4,h5⟩:=GP he
 obtain ⟨w,ew,rw'⟩:=r.get h2
 have hl:=r.length
 have hn:=u5
 have fin:EP X pins σ Q w s:=⟨z,H,I,rw',q⟩
 by_cases h0:0<=i
 ·have hj:i.toNat=j:=by
   rw[seqIndex_of h0 h5] at h1
   exact Option.some.inj h1
  exact item_listR pl.isList h0 ω (by rw[hj]; simpa using ew) fin hs
 ·have hj:(i + (its.toArray.size:Int)).toNat=j:=by
   rw[seqIndex_neg ω h4] at h1
   rw[List.size_toArray,<- hl]
   exact Option.some.inj h1
  exact subscriptTail_builtinR (x:=w) pl.isList.typeIs slot_list_getitem.lookup
   (wpAny_getItem_list_neg (Q:=fun r s'=>r=w/\EP X pins σ Q r s') pl.isList ω (by rw[List.size_toArray] <;> omega) ω (by rw[hj]; simpa using ew) ⟨rfl,fin⟩) hs
theorem Xj:IxR X (Ze X.K):=by
 intro value slice pins s σ H x y v u Q I rx ry h hs
 obtain ⟨p,xs,i,z,rfl,rfl,hq,he,q⟩:=h
 cases rx
 obtain ⟨t,rfl⟩:=ry
 obtain ⟨its,r,pl,hz⟩:=I.tuple hq
 obtain ⟨j,h1,h2,h3,h4,h5⟩:=GP he
 obtain ⟨w,ew,rw'⟩:=r.get h2
 have hl:=r.length
 have hn:=u5
 have fin:EP X pins σ Q w s:=⟨z,H,I,rw',q⟩
 exact subscriptTail_builtinR (x:=w) pl.typeIs slot_tuple_getitem.lookup
  (getItem_tuple (j:=j) (Q:=fun r s'=>r=w/\EP X pins σ Q r s') pl ω ω (by rw[List.size_toArray,<- hl]; exact h1) (by simpa using ew) ⟨rfl,fin⟩) hs
theorem DN (its:List Value) (n j:Nat) (u:Value):Obj.mapSeq (·.setIfInBounds j u) { cls:=.type "list",data:=.seq its.toArray n }={ cls:=.type "list",data:=.seq (its.set j u).toArray n }:=by
 simp [Obj.mapSeq]
theorem Inv.lst {pins:List (Addr×Obj)}{σ:St}{H:Hp}{s:Shared}{p:Addr}{xs:List V}(I:Inv X pins σ H s) (h:H p=some (.lst xs)) :
  ∃ (its:List Value) (n:Nat),Vals xs its/\s.heap.get? p=some { cls:=.type "list",data:=.seq its.toArray n }/\xs.length<=sizeLine:=by
 obtain ⟨z,its,n,r,e⟩:=I.hok p _ h
 exact ⟨its,n,r,e,z⟩
theorem Inv.W9 {pins:List (Addr×Obj)}{σ:St}{H:Hp}{s:Shared}{p:Addr}{xs ys:List V}{its its':List Value}{n n':Nat}{f:Obj->Obj}(I:Inv X pins σ H s) (h:H p=some (.lst xs))
  (ho:s.heap.get? p=some { cls:=.type "list",data:=.seq its.toArray n }) (hf:f { cls:=.type "list",data:=.seq its.toArray n }={ cls:=.type "list",data:=.seq its'.toArray n' }) (r:Vals ys its') (hz:ys.length<=sizeLine) (t:Nat) :
  Inv X pins σ (upd H p (.lst ys)) { s with heap:=s.heap.update p f,toks:=t }:=by
 have e:(s.heap.update p f).get? p=some { cls:=.type "list",data:=.seq its'.toArray n' }:=by
  rw[Heap.get?_update_self f ho (by rw[hf] <;> rfl),hf]
 refine I.write (x:=p) (e:=p) (by rw[h]; trivial) (.inl rfl) (fun b u hb q=>(Heap.get?_update_other _ _ (Ne.symm hb)).trans q) ⟨_,e⟩ ?_
 exact ⟨hz,its',n',r,e⟩
def Yg:V->V->V->Hp->(Hp->Prop)->Prop:=fun o i v H Q=>∃ p xs k j,o=.ref p/\i=.int k/\H p=some (.lst xs)/\ixN xs.length k=some j/\Q (upd H p (.lst (xs.set j v)))
theorem set_list:PL X Yg:=by
 intro pins s σ H o i v ov iv u Q I ro ri rv h
 obtain ⟨p,xs,k,j,rfl,rfl,hp,hj,q⟩:=h
 cases ro
 obtain ⟨t,rfl⟩:=ri
 obtain ⟨its,n,r,ho,hz⟩:=I.lst hp
 obtain ⟨h1,h2,h3,h4⟩:=Gm hj
 have hl:=r.length
 have hn:=u5
 have I':Inv X pins σ (upd H p (.lst (xs.set j v))) { s with heap:=s.heap.update p (Obj.mapSeq (·.setIfInBounds j u)) }:=
  I.W9 hp ho (DN its n j u) (r.set rv j) (by rw[List.length_set]; exact hz) s.toks
 by_cases h0:0<=k
 ·have hk:k.toNat=j:=by
   rw[seqIndex_of h0 h4] at h1
   exact Option.some.inj h1
  exact PySem.W.ki_setAt ho h0 ω (by rw[List.size_toArray,<- hl]; exact h4) (by rw[hk]; exact ⟨_,I',q⟩)
 ·have hk:(k + (its.toArray.size:Int)).toNat=j:=by
   rw[seqIndex_neg ω h3] at h1
   rw[List.size_toArray,<- hl]
   exact Option.some.inj h1
  exact PySem.W.ki_setBack ho ω (by rw[List.size_toArray,<- hl]; exact h3) ω (by rw[hk]; exact ⟨_,I',q⟩)
theorem yj (lo hi:Option Int) (n:Nat):(sliceBounds lo hi none n).1=((HT.sIx n 0 lo:Nat):Int)/\(sliceBounds lo hi none n).2.1=((HT.sIx n n hi:Nat):Int)/\(sliceBounds lo hi none n).2.2=1:=by
 refine ⟨?_,?_,rfl⟩
 ·cases lo with
  | none=>simp [sliceBounds,HT.sIx]
  | some i=>
   simp only[sliceBounds,HT.sIx,Option.getD_none,show (1:Int) > 0 by decide,if_true]
   by_cases h:i < 0
   ·simp only[h,if_true] <;> omega
   ·simp only[h,if_false] <;> omega
 ·cases hi with
  | none=>simp [sliceBounds,HT.sIx]
  | some i=>
   simp only[sliceBounds,HT.sIx,Option.getD_none,show (1:Int) > 0 by decide,if_true]
   by_cases h:i < 0
   ·simp only[h,if_true] <;> omega
   ·simp only[h,if_false] <;> omega
theorem vY (its:List Value) (lo hi:Option Int):slicePick its.toArray lo hi none=((its.drop (HT.sIx its.length 0 lo)).take (HT.sIx its.length its.length hi - HT.sIx its.length 0 lo)).toArray:=by
 obtain ⟨h1,h2,h3⟩:=yj lo hi its.toArray.size
 unfold slicePick
 rw[h1,h2,h3]
 simp only[sliceRange_one,pick_run,List.size_toArray] <;> rfl
def Zc (K:PySem.W.Frag):V->Option Int->Option Int->Hp->VK->Prop:=fun x lo hi H Q=>∃ a xs,x=.ref a/\SqL K H a xs/\∀ p,H p=none->Q (.ref p) (upd H p (.lst (rQ xs lo hi)))
theorem Qx:SlR X (Zc X.K):=by
 intro pins s σ H x v vl vu lo hi sl Q I rx hs pl pu h
 obtain ⟨a,xs,rfl,hx,q⟩:=h
 cases rx
 obtain ⟨its,r,ht,hz⟩:=I.list hx
 have hlen:=r.length
 refine ⟨"list",_,slot_list_getitem.lookup,ht.isList.typeIs,?_⟩
 refine wpAny_getItem_list_slice ht.isList hs pl pu .none (by simp) ?_ (by rw[List.size_toArray] <;> omega)
 rw[vY,<- hlen]
 refine ⟨.ref s.heap.objs.size,_,I.laid (t':=s.toks) (o:=.lst (rQ xs lo hi)) (fun b ob q=>Heap.get?_push_of_some _ q) (Nat.le_refl _) ?_,rfl,q _ (I.hok.fresh (Nat.le_refl _))⟩
 exact ⟨Nat.le_trans (sU xs lo hi) hz,_,0,(r.drop (HT.sIx xs.length 0 lo)).take (HT.sIx xs.length xs.length hi - HT.sIx xs.length 0 lo),Heap.get?_push_size _ rfl⟩
def gM:V->Bool
 | .non=>true
 | .bl _=>true
 | .int _=>true
 | .str _=>true
 | _=>false
def eqV:V->V->Bool
 | .non,.non=>true
 | .bl a,.bl b=>a == b
 | .bl a,.int b=>(if a then 1 else 0) == b
 | .int a,.bl b=>a == (if b then 1 else 0)
 | .int a,.int b=>a == b
 | .str a,.str b=>a == b
 | _,_=>false
theorem Oq {A:Around}{s:Shared}{y x:V}{u v:Value}(ry:RelV y u) (rx:RelV x v) (fy:gM y=true) (fx:gM x=true):SeqAt.EqAt A s u v (eqV y x):=by
 cases y with
 | non=>
  cases ry
  cases x with
  | non=>cases rx; exact SeqAt.EqAt.same _
  | bl b=>cases rx; exact SeqAt.EqAt.none_bool b
  | int b=>obtain ⟨t,rfl⟩:=rx; exact SeqAt.EqAt.none_int b t
  | str b=>obtain ⟨t,rfl⟩:=rx; exact SeqAt.EqAt.none_str b t
  | _=>exact absurd (show false=true from fx) Bool.false_ne_true
 | bl a=>
  cases ry
  cases x with
  | non=>cases rx; exact SeqAt.EqAt.bool_none a
  | bl b=>cases rx; exact SeqAt.EqAt.bool_bool a b
  | int b=>obtain ⟨t,rfl⟩:=rx; exact SeqAt.EqAt.bool_int a b t
  | str b=>obtain ⟨t,rfl⟩:=rx; exact SeqAt.EqAt.bool_str a b t
  | _=>exact absurd (show false=true from fx) Bool.false_ne_true
 | int a=>
  obtain ⟨t',rfl⟩:=ry
  cases x with
  | non=>cases rx; exact SeqAt.EqAt.int_none a t'
  | bl b=>cases rx; exact SeqAt.EqAt.int_bool a t' b
  | int b=>obtain ⟨t,rfl⟩:=rx; exact SeqAt.EqAt.int_int a t' b t
  | str b=>obtain ⟨t,rfl⟩:=rx; exact SeqAt.EqAt.int_str a t' b t
  | _=>exact absurd (show false=true from fx) Bool.false_ne_true
 | str a=>
  obtain ⟨t',rfl⟩:=ry
  cases x with
  | non=>cases rx; exact SeqAt.EqAt.str_none a t'
  | bl b=>cases rx; exact SeqAt.EqAt.str_bool a t' b
  | int b=>obtain ⟨t,rfl⟩:=rx; exact SeqAt.EqAt.str_int a t' b t
  | str b=>obtain ⟨t,rfl⟩:=rx; exact SeqAt.EqAt.str_str a t' b t
  | _=>exact absurd (show false=true from fx) Bool.false_ne_true
 | _=>exact absurd (show false=true from fy) Bool.false_ne_true
def eqU (x:V) (u:Value):Bool:=match u with
 | .none=>eqV .non x
 | .bool b=>eqV (.bl b) x
 | .int i _=>eqV (.int i) x
 | .str z _=>eqV (.str z) x
 | _=>false
theorem Oo {x y:V}{u:Value}(r:RelV y u) (f:gM y=true):eqU x u=eqV y x:=by
 cases y with
 | non=>cases r; rfl
 | bl b=>cases r; rfl
 | int i=>obtain ⟨t,rfl⟩:=r; rfl
 | str z=>obtain ⟨t,rfl⟩:=r; rfl
 | _=>exact absurd (show false=true from f) Bool.false_ne_true
theorem zE {x:V}:∀ {xs:List V}{us:List Value},Vals xs us->xs.all gM=true->us.any (eqU x)=xs.any fun y=>eqV y x
 | _,_,.nil,_=>rfl
 | y :: xs,u :: us,.cons r t,f=>by
  rw[List.all_cons,Bool.and_eq_true] at f
  rw[List.any_cons,List.any_cons,Oo r f.1,zE t f.2]
theorem uY {A:Around}{s:Shared}{x:V}{v:Value}(rx:RelV x v) (fx:gM x=true):∀ {xs:List V}{us:List Value},Vals xs us->xs.all gM=true->∀ u∈us,SeqAt.EqAt A s u v (eqU x u)
 | _,_,.nil,_=>fun u hu=>by cases hu
 | y :: xs,u :: us,.cons r t,f=>fun u' hu=>by
  rw[List.all_cons,Bool.and_eq_true] at f
  rcases List.mem_cons.mp hu with rfl | hu
  ·rw[Oo r f.1]; exact Oq r rx f.1 fx
  ·exact uY rx fx t f.2 u' hu
def inV (x:V) (xs:List V):Bool:=xs.any fun y=>eqV y x
def rIn (K:PySem.W.Frag) (neg:Bool):R2:=fun x y H Q=>∃ p xs,y=.ref p/\(SqL K H p xs\/SqT K H p xs)/\gM x=true/\xs.all gM=true/\Q (.bl (if neg then !inV x xs else inV x xs)) H
theorem yH:OpR X (compareOp .NotIn) (rIn X.K true):=by
 intro pins s σ H x y v u Q I rx ry h
 obtain ⟨p,xs,rfl,hq,fx,fs,q⟩:=h
 cases ry
 rcases hq with hq | hq
 ·obtain ⟨its,r,pl,hz⟩:=I.list hq
  refine SeqAt.notIn_listAt (eqU x) pl.isList (fun w hw=>uY rx fx r fs w (by simpa using hw)) ⟨.bl _,H,I,rfl,?_⟩
  rw[show its.toArray.any (eqU x)=its.any (eqU x) by simp,zE r fs]
  exact q
 ·obtain ⟨its,r,pl,hz⟩:=I.tuple hq
  refine SeqAt.notIn_tupleAt (eqU x) pl (fun w hw=>uY rx fx r fs w (by simpa using hw)) ⟨.bl _,H,I,rfl,?_⟩
  rw[show its.toArray.any (eqU x)=its.any (eqU x) by simp,zE r fs]
  exact q
theorem jj:dj X (.builtin "len") (fun xs H Q=>∃ p ys,xs=[.ref p]/\(SqL X.K H p ys\/SqT X.K H p ys)/\Q (.int ys.length) H):=by
 intro pins s σ H xs us Q I r h
 obtain ⟨p,ys,rfl,hq,q⟩:=h
 obtain ⟨u,rfl,rx⟩:=vals1 r
 cases rx
 have hn:=u5
 rcases hq with hq | hq
 ·obtain ⟨its,r',pl,hz⟩:=I.list hq
  have hlen:=r'.length
  exact Calls.call_len_list pl.isList (by simp only[List.size_toArray] <;> omega) ⟨.int ys.length,H,I.tok _,⟨s.toks + 1,by rw[List.size_toArray,hlen]⟩,q⟩
 ·obtain ⟨its,r',pl,hz⟩:=I.tuple hq
  have hlen:=r'.length
  exact len_tuple pl (by simp only[List.size_toArray] <;> omega) ⟨.int ys.length,H,I.tok _,⟨s.toks + 1,by rw[List.size_toArray,hlen]⟩,q⟩
theorem zm:dj X (.type "list") (fun xs H Q=>∃ p ys,xs=[.ref p]/\(SqL X.K H p ys\/SqT X.K H p ys)/\∀ l,H l=none->Q (.ref l) (upd H l (.lst ys))):=by
 intro pins s σ H xs us Q I r h
 obtain ⟨p,ys,rfl,hq,q⟩:=h
 obtain ⟨u,rfl,rx⟩:=vals1 r
 cases rx
 have fin:∀ (its:List Value),Vals ys its->ys.length<=sizeLine->∀ (h':Heap) (c':Nat),(∀ b o',s.heap.get? b=some o'->h'.get? b=some o') ->
   h'.get? s.heap.objs.size=some { cls:=.type "list",dict:=none,data:=.seq its.toArray c',slots:=#[] }->EP X pins σ Q (.ref s.heap.objs.size) { s with heap:=h' }:=fun its r' hz h' c' kp e=>
  ⟨.ref s.heap.objs.size,_,I.laid (t':=s.toks) kp (Nat.le_refl _) (show cA X.prog X.w _ h' _ (.lst ys) from ⟨hz,its,c',r',e⟩),rfl,q _ (I.hok.fresh (Nat.le_refl _))⟩
 rcases hq with hq | hq
 ·obtain ⟨its,r',pl,hz⟩:=I.list hq
  have hlen:=r'.length
  obtain ⟨o,ho,hc,n,hd⟩:=pl.isList
  exact call_list_seq p (.inl rfl) ho hc hd (fun h' c' kp e=>fin its r' hz h' c' kp e) (by simp only[List.size_toArray] <;> omega)
 ·obtain ⟨its,r',pl,hz⟩:=I.tuple hq
  have hlen:=r'.length
  obtain ⟨o,ho,hc,n,hd⟩:=pl
  exact call_list_seq p (.inr rfl) ho hc hd (fun h' c' kp e=>fin its r' hz h' c' kp e) (by simp only[List.size_toArray] <;> omega)
def tyV (K:PySem.W.Frag) (T:String) (x:V) (H:Hp):Prop:=match x with
 | .str _=>T = "str"
 | .int _=>T = "int"
 | .ref p=>(T = "list" /\ ∃ xs,SqL K H p xs)\/(T = "tuple" /\ ∃ o,K.lookup p=some o/\o.cls=.type "tuple" /\ o.dict=none) \/
   (T = "dict" /\ ((∃ kvs,H p=some (.dK kvs))\/∃ kvs,H p=some (.dT kvs)))\/(T = "set" /\ ∃ S n,H p=some (.set S n))
 | _=>False
theorem JR {pins:List (Addr×Obj)}{σ:St}{H:Hp}{s:Shared}{T:String}{x:V}{v:Value}(I:Inv X pins σ H s) (r:RelV x v) (ty:tyV X.K T x H) :
  s.TypeIs v T/\∀ a,v=.ref a->∃ ob,s.heap.get? a=some ob/\ob.dict=none:=by
 cases x with
 | str z=>
  obtain ⟨t,rfl⟩:=r
  cases (show T = "str" from ty)
  exact ⟨typeIs_str s z t,fun _ e=>nomatch e⟩
 | int i=>
  obtain ⟨t,rfl⟩:=r
  cases (show T = "int" from ty)
  exact ⟨typeIs_int s i t,fun _ e=>nomatch e⟩
 | ref p=>
  cases r
  rcases ty with ⟨rfl,xs,hq⟩ | ⟨rfl,o,hk,hc,hd⟩ | ⟨rfl,hk⟩ | ⟨rfl,S,n,hk⟩
  ·obtain ⟨its,_,pl,_⟩:=I.list hq
   refine ⟨pl.isList.typeIs,fun a e=>?_⟩
   cases e
   obtain ⟨o,n,e,c,hd,_⟩:=pl
   exact ⟨o,e,hd⟩
  ·refine ⟨⟨o,I.kIn p o hk,hc⟩,fun a e=>?_⟩
   cases e
   exact ⟨o,I.kIn _ o hk,hd⟩
  ·have z:∃ o,s.heap.get? p=some o/\o.ExactDict:=by
    rcases hk with ⟨kvs,hk⟩ | ⟨kvs,hk⟩
    ·obtain ⟨_,_,_,_,o,_,_,e,ex,_⟩:=I.hok p _ hk
     exact ⟨o,e,ex⟩
    ·obtain ⟨_,_,_,_,o,_,_,e,ex,_⟩:=I.hok p _ hk
     exact ⟨o,e,ex⟩
   obtain ⟨o,e,ex⟩:=z
   refine ⟨⟨o,e,ex.1⟩,fun a e2=>?_⟩
   cases e2
   exact ⟨o,e,ex.2.1⟩
  ·obtain ⟨o,_,_,_,e,ex,_⟩:=I.hok p _ hk
   refine ⟨⟨o,e,ex.1⟩,fun a e2=>?_⟩
   cases e2
   exact ⟨o,e,ex.2.1⟩
 | _=>exact False.elim ty
variable {o e:Expr}{es:List Expr}{to:TE}{t:TA}{name:Str}{apos cpos:Pos}{T id:String}{r:V->List V->Hp->VK->Prop}
end
def MtM (X:Cx) (id:String) (r:V->List V->Hp->VK->Prop):Prop:=
 ∀ (pins:List (Addr×Obj)) (s:Shared) (σ:St) (H:Hp) (x:V) (xs:List V) (v:Value) (us:List Value) (Q:VK),Inv X pins σ H s->RelV x v->Vals xs us->r x xs H Q ->
  wpAny (model X.prog X.w) X.A (call (.builtin id) (v :: us)) (EP X pins σ Q) X.xe s
theorem Vals.one:∀ {x:V}{us:List Value},Vals [x] us->∃ u,us=[u]/\RelV x u:=fun h=>by
 cases h with
 | cons r h=>
  cases h
  exact ⟨_,rfl,r⟩
theorem Vals.rep {xs:List V}{us:List Value}(h:Vals xs us):∀ k:Nat,Vals (List.replicate k xs).flatten (List.replicate k us).flatten
 | 0=>.nil
 | k + 1=>by
  rw[List.replicate_succ,List.replicate_succ,List.flatten_cons,List.flatten_cons]
  exact Vals.append h (Vals.rep h k)
theorem foldl_rep (its:List Value):∀ (k:Nat) (acc:List Value),
  List.foldl (fun x1 x2=>x1 ++ x2) acc.toArray (List.replicate k its.toArray)=(acc ++ (List.replicate k its).flatten).toArray
 | 0,acc=>by simp
 | k + 1,acc=>by
  have e:acc.toArray ++ its.toArray=(acc ++ its).toArray:=by simp
  have e2:(acc ++ its) ++ (List.replicate k its).flatten=acc ++ (List.replicate (k + 1) its).flatten:=by
   rw[List.replicate_succ,List.flatten_cons,List.append_assoc]
  rw[<- e2,<- foldl_rep its k (acc ++ its),<- e,List.replicate_succ,List.foldl_cons]
section
variable {X:Cx}{pins:List (Addr×Obj)}{σ:St}{H:Hp}{s:Shared}{l b:Addr}{xs ys zs:List V}
theorem Inv.YH {its its':List Value}{n:Nat}{f:Array Value->Array Value}{t':Nat}(I:Inv X pins σ H s) (hH:H l=some (.lst xs))
  (e:s.heap.get? l=some { cls:=.type "list",data:=.seq its.toArray n }) (hf:f its.toArray=its'.toArray) (hv:Vals ys its') (hz:ys.length<=sizeLine) :
  Inv X pins σ (upd H l (.lst ys)) { s with heap:=s.heap.update l (Obj.mapSeq f),toks:=t' }:=by
 have q:=PySem.IsL.update e f
 rw[hf] at q
 refine I.write (x:=l) (e:=l) (by rw[hH]; exact trivial) (.inl rfl) (fun b' u hb hu=>(Heap.get?_update_other s.heap (Obj.mapSeq f) (Ne.symm hb)).trans hu) ⟨_,q⟩ ?_
 exact ⟨hz,its',_,hv,q⟩
theorem Inv.YJ {its:List Value}{t':Nat}(I:Inv X pins σ H s) (hv:Vals ys its) (hz:ys.length<=sizeLine) :
  Inv X pins σ (upd H s.heap.objs.size (.lst ys)) { s with heap:=s.heap.push { cls:=.type "list",data:=.seq its.toArray },toks:=t' }:=
 I.laid (fun _ _ q=>Heap.get?_push_of_some _ q) (Nat.le_refl _) ⟨hz,its,0,hv,Heap.get?_push_size _ rfl⟩
theorem Inv.fresh (I:Inv X pins σ H s):H s.heap.objs.size=none:=I.hok.fresh (Nat.le_refl _)
theorem Inv.Iu (I:Inv X pins σ H s) (hH:H l=some (.lst xs)):xs.length<=sizeLine/\∃ (its:List Value) (n:Nat),Vals xs its/\xs.length=its.length/\s.heap.get? l=some { cls:=.type "list",data:=.seq its.toArray n }:=by
 obtain ⟨z,its,n,r,e⟩:=I.hok l _ hH
 exact ⟨z,its,n,r,r.length,e⟩
theorem Ar {n:Nat}(h:n<=sizeLine):Builtin.List.listTooLong n=false:=by
 unfold Builtin.List.listTooLong
 exact decide_eq_false ω
end
section
variable {X:Cx}
def Q6:V->List V->Hp->VK->Prop:=fun x vs H Q=>∃ l xs y,x=.ref l/\vs=[y]/\H l=some (.lst xs)/\xs.length < sizeLine/\Q .non (upd H l (.lst (xs ++ [y])))
theorem Ip:MtM X "list.append" Q6:=by
 intro pins s σ H x vs v us Q I rx rv h
 obtain ⟨l,xs,y,rfl,rfl,hH,hz,q⟩:=h
 cases rx
 obtain ⟨u,rfl,ru⟩:=rv.one
 obtain ⟨z,its,n,r,hl,e⟩:=I.Iu hH
 refine call_meets F.slot_list_append ⟨_,e,rfl⟩ F.entry_list_append (F.args_list_append_2 _ _) (PySem.list_append l its.toArray n u (by rw[List.size_toArray]; omega)) ⟨e,?_⟩
 refine ⟨.non,_,I.YH (its':=its ++ [u]) hH e (by simp) (r.append (.cons ru .nil)) ?_,rfl,q⟩
 rw[List.length_append,List.length_singleton]
 omega
def QV:V->List V->Hp->VK->Prop:=fun x vs H Q=>∃ l b xs zs,x=.ref l/\vs=[.ref b]/\H l=some (.lst xs)/\H b=some (.lst zs)/\xs.length + zs.length<=sizeLine/\Q .non (upd H l (.lst (xs ++ zs)))
theorem Io:MtM X "list.extend" QV:=by
 intro pins s σ H x vs v us Q I rx rv h
 obtain ⟨l,b,xs,zs,rfl,rfl,hH,hB,hz,q⟩:=h
 cases rx
 obtain ⟨u,rfl,ru⟩:=rv.one
 cases ru
 obtain ⟨z,its,n,r,hl,e⟩:=I.Iu hH
 obtain ⟨z2,its2,n2,r2,hl2,e2⟩:=I.Iu hB
 have hsz:its.toArray.size + its2.toArray.size<=sizeLine:=by rw[List.size_toArray,List.size_toArray]; omega
 have hlong:¬ (!its.toArray.isEmpty && Builtin.List.listTooLong (its.toArray.size + its2.toArray.size))=true:=by
  rw[Ar hsz,Bool.and_false]
  exact Bool.false_ne_true
 refine call_meets F.slot_list_extend ⟨_,e,rfl⟩ F.entry_list_extend (F.args_list_extend_2 _ _)
  (AutoSeq1.list_extend_list_list_0 l its.toArray n b its2.toArray n2 hlong (by rw[List.size_toArray]; omega) ω) ⟨e,e2,?_⟩
 refine ⟨.non,_,I.YH (its':=its ++ its2) hH e (by simp) (r.append r2) ?_,rfl,q⟩
 rw[List.length_append]
 omega
def Zg:R2:=fun x y H Q=>∃ l b xs zs,x=.ref l/\y=.ref b/\H l=some (.lst xs)/\H b=some (.lst zs)/\xs.length + zs.length<=sizeLine/\∀ p,H p=none->Q (.ref p) (upd H p (.lst (xs ++ zs)))
theorem Wx:OpR X (binaryOp .Add) Zg:=by
 intro pins s σ H x y v u Q I rx ry h
 obtain ⟨l,b,xs,zs,rfl,rfl,hH,hB,hz,q⟩:=h
 cases rx
 cases ry
 obtain ⟨z,its,n,r,hl,e⟩:=I.Iu hH
 obtain ⟨z2,its2,n2,r2,hl2,e2⟩:=I.Iu hB
 refine PySem.P.add_list e e2 ?_ (by rw[List.size_toArray,List.size_toArray]; omega)
 have ea:its.toArray ++ its2.toArray=(its ++ its2).toArray:=by simp
 rw[ea]
 exact ⟨.ref _,_,I.YJ (t':=s.toks) (r.append r2) (by rw[List.length_append]; omega),rfl,q _ I.fresh⟩
def Zd:R2:=fun x y H Q=>∃ l k xs,x=.ref l/\y=.int k/\H l=some (.lst xs)/\-(2 ^ 63)<=k/\k < 2 ^ 63/\xs.length * k.toNat<=sizeLine /\
 ∀ p,H p=none->Q (.ref p) (upd H p (.lst (List.replicate k.toNat xs).flatten))
theorem len_rep {α:Type}(xs:List α) (k:Nat):(List.replicate k xs).flatten.length=k * xs.length:=by
 induction k with
 | zero=>simp
 | succ k ih=>rw[List.replicate_succ,List.flatten_cons,List.length_append,ih,Nat.succ_mul,Nat.add_comm]
theorem Wt:OpR X (binaryOp .Mult) Zd:=by
 intro pins s σ H x y v u Q I rx ry h
 obtain ⟨l,k,xs,rfl,rfl,hH,h1,h2,hz,q⟩:=h
 cases rx
 obtain ⟨t,rfl⟩:=ry
 obtain ⟨z,its,n,r,hl,e⟩:=I.Iu hH
 have hlen:its.toArray.size * k.toNat<=sizeLine:=by rw[List.size_toArray,<- hl]; exact hz
 have hcap:¬ its.toArray.size * k.toNat > (2 ^ 63 - 1) / 8:=by
  have:(sizeLine:Nat)<=(2 ^ 63 - 1) / 8:=by decide
  omega
 have hfit:¬ (!Builtin.List.listFitsIndex k)=true:=by
  rw[fitsIndex_both h1 h2]
  exact Bool.false_ne_true
 have hlong:¬ Builtin.List.listTooLong (its.toArray.size * k.toNat)=true:=by
  rw[Ar hlen]
  exact Bool.false_ne_true
 have hnew:List.foldl (fun x1 x2=>x1 ++ x2) #[] (List.replicate (if its.toArray.isEmpty=true then 0 else k.toNat) its.toArray)=(List.replicate k.toNat its).flatten.toArray:=by
  have f0:∀ m:Nat,List.foldl (fun x1 x2=>x1 ++ x2) #[] (List.replicate m its.toArray)=(List.replicate m its).flatten.toArray:=fun m=>by
   have:=foldl_rep its m []
   rw[List.nil_append] at this
   exact this
  rw[f0]
  cases its with
  | nil=>simp
  | cons a r'=>rw[if_neg (by simp)]
 refine wpAny_binaryOp_repeat_ref (T := "list") (U := "int") δ ⟨_,e,rfl⟩ (fun s'=>typeIs_int s' k t) noFill_list_mul F.fills_int_mul F.slot_int_rmul repeat_list F.slot_int_index.lookup
  (call_meets F.slot_int_rmul (typeIs_int s k t) F.entry_int_rmul (F.args_int_rmul_2 _ _) (int___rmul___int_list k t l its.toArray n)
   ⟨e,rfl,⟨_,e,rfl⟩,call_meets F.slot_list_mul ⟨_,e,rfl⟩ F.entry_list_mul (F.args_list_mul_2 _ _) (AutoListH.list___mul___list_int_3 l its.toArray n k t hfit hcap hlong) ⟨e,?_⟩⟩)
 rw[hnew]
 exact ⟨.ref _,_,I.YJ (t':=s.toks) (r.rep k.toNat) (by rw[len_rep,Nat.mul_comm]; exact hz),rfl,q _ I.fresh⟩
end
section
variable {prog:Program}{w:World}{A:Around}{E:Value->Shared->Prop}{s:Shared}
end
section
variable {X:Cx}
end
end L2
namespace Att
open PySem PySem.W PySem.Calls PyProof.Rows
theorem tD {P:Params}{h:Heap}:∀ (ns:List Int) (vs:List Value),WellAll P h vs (ns.map WData.int)->IntsAre vs ns:=by
 intro ns
 induction ns with
 | nil=>
  intro vs w
  rw[List.map_nil] at w
  cases w
  exact .nil
 | cons n ns ih=>
  intro vs w
  rw[List.map_cons] at w
  cases w with
  | cons a b=>
   cases a
   exact .cons _ _ (ih _ b)
theorem Hi {l:OpenLaw}{n:Nat}(hn:l.most=some n) {P:Params}{h:Heap}{args:List WData}{vals:List Value}
  (hpre:l.row.toRowW.claim.pre args=true) (hwl:WellAll P h vals args) :
  ∃ a vs ns,vals=[Value.ref a]/\args=[WData.list (ns.map WData.int)]/\h.get? a=some { cls:=.type "list",data:=.seq vs.toArray }/\IntsAre vs ns/\ns.length<=n:=by
 have hsh:WShape.hasAll [] args [.list .int]=true:=(pre_splitW hpre).1
 have hc:l.pre.holds [] { args:=args }=true:=(pre_splitW hpre).2
 obtain ⟨d,r,rfl,h1,h2⟩:=hasAllW_cons hsh
 obtain rfl:=hasAllW_nil h2
 obtain ⟨xs,rfl,h3⟩:=hasW_list h1
 obtain ⟨ns,rfl⟩:=items_int h3
 have hlen:ns.length<=n:=by
  unfold OpenLaw.pre at hc
  have h4:(WTm.not (.lt (.lit (.int (n:Int))) (.len (.arg 0)))).holds [] { args:=[.list (ns.map .int)] }=true:=by
   have h4:=(holds_andW hc).1
   rw[hn] at h4
   exact h4
  have h5:=condW_of h4 (w_not (w_lt w_lit (w_len_list (w_arg rfl))))
  rw[List.length_map] at h5
  refine Nat.le_of_not_lt fun q=>?_
  have q':(n:Int) < ((ns.length:Nat):Int):=by omega
  first
   | (rw[decide_eq_true q'] at h5; exact absurd h5 δ)
   | (simp at h5; omega)
 cases hwl with
 | cons w1 w2=>
  cases w2
  cases w1 with
  | list ho hall=>exact ⟨_,_,ns,rfl,rfl,ho,tD ns _ hall,hlen⟩
theorem HB (l:OpenLaw) (args:List WData):l.row.toRowW.claim.post args (.bool true) args=true:=
 postW_of (r:=l.row.toRowW) (X:=(true == true))
  (show WShape.has [] (.bool true) .bool=true by first | rfl | decide | simp [WShape.has,WShape.arms,WShape.armsAll])
  (show (WTm.eq .res (.lit (.bool true))).value [] { args:=args,res:=some (.bool true),after:=args }=some (.bool (true == true)) from w_eq_bool (w_res rfl) w_lit) rfl
theorem Cu {l:OpenLaw}{n:Nat}{q:Program}{loose:List Str}{XP:(Str->Option Value)->Heap->Prop}{YP:World->Heap->Prop}{d:DefRec}
  (hn:l.most=some n) (hdf:d.params.defaults=[])
  (call:∀ (w:World) (s₀ s₁:Shared) (mg mb:Str->Option Value) (fa:Addr) (o:Obj) (pm cd doc:Value) (a:Addr) (vs:List Value) (ns:List Int),
   Ground q loose [] XP w s₀ mg mb s₁.heap->YP w s₁.heap ->
   s₁.heap.get? fa=some o->o.data=.func (docDef d.name d.params d.body d.scope pm cd doc)->s₁.heap.CodeRec cd d.name->mg d.name=some (.ref fa) ->
   s₁.heap.get? a=some { cls:=.type "list",data:=.seq vs.toArray }->IntsAre vs ns->ns.length<=n->s₁.gens=#[] ->
   codeAny (model l.prog w) callerA (.call (.ref fa) ⟨[.ref a],[]⟩) (fun r s'=>r=.ok (.ret (.bool true))/\OldK s₁.heap s'.heap/\s'.os=s₁.os/\AllBare s'.gens) s₁) :
  WalkO q loose XP YP l.row.toRowW d [] (fun f vs=>PySem.call f vs):=by
 intro w s₀ s₁ mg mb G Y fa o pm cd doc dV kV ho hd hcd hD hmg hg args vals as hpre hlay hrd hwl hlo
 obtain rfl:dV=.none:=Dflts.none hD hdf
 obtain rfl:kV=.none:=Dflts.noKw hD
 obtain ⟨a,vs,ns,rfl,rfl,hobj,hints,hlen⟩:=Hi hn hpre hwl
 refine enter_call (codeAny_mono (call w s₀ s₁ mg mb fa o pm cd doc a vs ns G Y ho (fd_plain hd) hcd hmg hobj hints hlen hg) fun r s' hq=>?_)
 obtain ⟨rfl,h2,h3,h4⟩:=hq
 exact ⟨.inl ⟨.bool true,.bool true,[],rfl,fun _=>rfl,.bool true,HB l _,fun _=>⟨List.Pairwise.nil,fun _ hm=>(nomatch hm)⟩⟩,h2,h3,h4⟩
section
variable {prog:Program}{w:World}{A:Around}{E:Value->Shared->Prop}{s:Shared}{K:Frag}
end
end Att
namespace L2
open PySem PySem.Spec PyProof.Rows
theorem wF:∀ {vs:List Value}{ns:List Int},IntsAre vs ns->Vals (ns.map V.int) vs
 | _,_,.nil=>.nil
 | _,_,.cons n t h=>.cons ⟨t,rfl⟩ (wF h)
def Only (H:Hp):Prop:=∀ b,H b=none\/∃ o xs,H b=some (.frz o (.lst xs))
theorem Ng {P:Program}{w:World}{K:PySem.W.Frag}{mg mb:Str->Option Value}{CX:CXT}{k:Nat}{fa a:Addr}{fd:FuncData}{x:Str}{sp:Sp}{s₁:Shared}{vs:List Value}{ns:List Int}
  (KX:K.In s₁.heap) (hns:s₁.heap.Ns mainGlobals mg) (hb:s₁.heap.Ns builtinsNs mb) (hbb:∀ x:Str,x ≠ "__name__" -> mb x=bootBuiltins x) (hlim:s₁.heap.NoLimit) (hg:s₁.gens=#[])
  (ha:s₁.heap.get? a=some { cls:=.type "list",data:=.seq vs.toArray }) (hi:IntsAre vs ns) (hl:ns.length<=sizeLine) (hr:iV k callerA)
  (F:∀ base:Heap,K.In base->base.Ns mainGlobals mg->dO P w K mg base CX k fa fd [x] sp) (hbind:∀ (s:Shared) (u:Value),BindsTo s fd ⟨[u],[]⟩ [(x,u)])
  (hsp:∀ H:Hp,Only H->SqL K H a (ns.map V.int)->sp [.ref a] H (fun v _=>v=.bl true) fun _ _ _=>False)
  (hCX:∀ H e s',CX [] H s₁ (fun _ _ _=>False) e s'->False) :
  codeAny (model P w) callerA (.call (.ref fa) ⟨[.ref a],[]⟩) (fun r s'=>r=.ok (.ret (.bool true))/\OldK s₁.heap s'.heap/\s'.os=s₁.os/\AllBare s'.gens) s₁:=by
 have rv:=wF hi
 have lenV:=hi.length
 -- from an abstract heap in which nothing but the script may be tracked
 have core:∀ H:Hp,Only H->SqL K H a (ns.map V.int)->HOk P w H s₁.heap->(∀ b,H b≠none->b=a)->(H a≠none->K.lookup a=none) ->
   codeAny (model P w) callerA (.call (.ref fa) ⟨[.ref a],[]⟩) (fun r s'=>r=.ok (.ret (.bool true))/\OldK s₁.heap s'.heap/\s'.os=s₁.os/\AllBare s'.gens) s₁:=by
  intro H hO hS hok hA hK
  have base_of:∀ {b:Addr} {o:Obj},s₁.heap.get? b=some o->H b=none->(yX s₁.heap H).get? b=some o:=fun e n=>NP e n
  have noA:∀ {b:Addr} {o:Obj} {es:Array DictEntry} {ep:Nat},s₁.heap.get? b=some o->o.data=.dict es ep->H b=none:=fun {b o es ep} e d=>by
   cases q:H b with
   | none=>rfl
   | some u=>
    have e':b=a:=hA b (by rw[q]; simp)
    subst e'
    rw[ha] at e; cases e
    have d':Data.seq vs.toArray _=Data.dict es ep:=d
    cases d'
  have nsK:∀ {b:Addr} {m:Str->Option Value},s₁.heap.Ns b m->(yX s₁.heap H).Ns b m:=fun {b m} ⟨o,es,ep,e,d,r⟩=>⟨o,es,ep,base_of e (noA e d),d,r⟩
  have hKb:K.In (yX s₁.heap H):=fun b o e=>base_of (KX b o e) (by
   cases q:H b with
   | none=>rfl
   | some u=>
    have e':b=a:=hA b (by rw[q]; simp)
    subst e'
    rw[hK (by rw[q]; simp)] at e; cases e)
  have hM:Mod K mg (yX s₁.heap H):=⟨hKb,nsK hns,⟨mb,nsK hb,hbb⟩,let ⟨mc,h1,h2⟩:=hlim; ⟨mc,nsK h1,h2⟩⟩
  have e0:U0 P w K mg (yX s₁.heap H) callerA [] s₁ H:=⟨rfl,hM,fun b o e=>Sw e,Nat.le_of_eq (Jd _ _),trivial,fun b hb=>absurd (show b∈([]:List Addr) from hb) (by simp),hok,.of_eq hg⟩
  refine codeAny_mono ((F _ hKb (nsK hns)).run callerA [] s₁ H ⟨[.ref a],[]⟩ [.ref a] [.ref a] _ _ hr e0 (hbind s₁ (.ref a)) (.cons rfl .nil) (hsp H hO hS)) fun r s' h=>?_
  cases r with
  | error e=>exact (hCX H e s' h).elim
  | ok fl=>
   cases fl with
   | next=>exact False.elim h
   | brk=>exact False.elim h
   | cont=>exact False.elim h
   | ret u=>
    obtain ⟨v,H',os,bare,un,hok',r',q⟩:=h
    have q':v=.bl true:=q
    subst q'
    obtain rfl:u=Value.bool true:=r'
    refine ⟨rfl,OldK.of_keep fun b o e=>?_,os,bare⟩
    cases q:H b with
    | none=>exact un.keep b o e q (by intro z; exact absurd (show b∈([]:List Addr) from z) (by simp)) (by simp)
    | some u=>
     rcases hO b with z | ⟨ob,xs,z⟩
     ·rw[q] at z; cases z
     ·have z2:=un.frzs b ob _ z
      obtain ⟨e1,_⟩:=hok b _ z
      obtain ⟨e2,_⟩:=hok' b _ z2
      rw[e] at e1; cases e1
      exact e2
 cases hk:K.lookup a with
 | some o=>
  -- the script is one of the module's own objects
  have e:=KX a o hk
  rw[ha] at e
  cases e
  refine core (fun _=>none) (fun _=>.inl rfl) (.inr ⟨_,vs.toArray,_,hk,rfl,rfl,rfl,by rw[List.size_toArray,lenV]; exact hl,by simpa using rv⟩) (fun b u z=>by have z':(none:Option HO)=some u:=z; cases z') (fun b z=>absurd rfl z) fun z=>absurd rfl z
 | none=>
  refine core (fun b=>if b=a then some (.frz { cls:=.type "list",data:=.seq vs.toArray } (.lst (ns.map V.int))) else none) (fun b=>?_) (.inl (.inr ⟨{ cls:=.type "list",data:=.seq vs.toArray },if_pos rfl⟩)) (fun b u z=>?_) (fun b z=>?_) fun _=>hk
  ·by_cases hb:b=a
   ·exact .inr ⟨_,_,if_pos hb⟩
   ·exact .inl (if_neg hb)
  ·by_cases hb:b=a
   ·have z':=(if_pos hb).symm.trans z
    cases z'
    subst hb
    exact ⟨ha,by rw[List.length_map]; exact hl,vs,_,rv,ha⟩
   ·have z':=(if_neg hb).symm.trans z
    cases z'
  ·by_cases hb:b=a
   ·exact hb
   ·exact absurd (if_neg hb) z
theorem Qg {l:PySem.W.OpenLaw}{n k:Nat}{q:Program}{loose:List Str}{XP:(Str->Option Value)->Heap->Prop}{YP:World->Heap->Prop}{d:DefRec}{K:Params->PySem.W.Frag}{CX:World->CXT}{sp:World->Sp}{x:Str}
  (hn:l.most=some n) (hn2:n<=sizeLine) (hdf:d.params.defaults=[]) (hr:iV k callerA)
  (hY:∀ (w:World) (h:Heap),YP w h->(K w.params).In h)
  (F:∀ (w:World) (mg:Str->Option Value) (fa:Addr) (h:Heap),(K w.params).In h->h.Ns mainGlobals mg->mg d.name=some (.ref fa) ->
   ∃ fd:FuncData,(∀ (s:Shared) (u:Value),BindsTo s fd ⟨[u],[]⟩ [(x,u)]) /\
    ∀ base:Heap,(K w.params).In base->base.Ns mainGlobals mg->dO l.prog w (K w.params) mg base (CX w) k fa fd [x] (sp w))
  (hsp:∀ (w:World) (H:Hp) (a:Addr) (ns:List Int),ns.length<=n->Only H->SqL (K w.params) H a (ns.map V.int)->sp w [.ref a] H (fun v _=>v=.bl true) fun _ _ _=>False)
  (hCX:∀ (w:World) (H:Hp) (s:Shared) (e:Value) (s':Shared),CX w [] H s (fun _ _ _=>False) e s'->False) :
  PySem.W.WalkO q loose XP YP l.row.toRowW d [] (fun f vs=>PySem.call f vs):=by
 refine Att.Cu hn hdf fun w s₀ s₁ mg mb fa o pm cd doc a vs ns G Y ho hd hcd hmg hobj hints hlen hg=>?_
 have KX:=hY w _ Y
 obtain ⟨fd,hb,hF⟩:=F w mg fa _ KX G.T.g hmg
 exact Ng KX G.T.g G.T.b G.T.builtins G.T.nolimit hg hobj hints (Nat.le_trans hlen hn2) hr hF hb (fun H hO hS=>hsp w H a ns hlen hO hS) fun H e s'=>hCX w H s₁ e s'
def bw (s:Stmt):Arguments:=match s with
 | .FunctionDef _ a _ _ _ _ _ _ _ _=>a
 | _=>{ posonlyargs:=[],args:=[],vararg:=none,kwonlyargs:=[],kw_defaults:=[],kwarg:=none,defaults:=[] }
def bf (s:Stmt):List Stmt:=match s with
 | .FunctionDef _ _ b _ _ _ _ _ _ _=>b
 | _=>[]
def aj (s:Stmt):Scope:=match s with
 | .FunctionDef _ _ _ _ _ _ sc _ _ _=>sc
 | _=>{ kind:=.function,names:=[],isGenerator:=false,isCoroutine:=false }
abbrev CX0:CXT:=fun _ _ _ _ _ _=>False
abbrev E0:XK:=fun _ _ _=>False
theorem Yv {X:Cx}:Fe CX0 X E0:=fun _ _ _ _ _ _ _ h=>h.elim
structure Fun (K:PySem.W.Frag) (x qual:Str) (st:Stmt) (f:Addr) (fd:FuncData):Prop where
 ex:∃ (oc:Value) (od:Option Addr) (kV doc pm:Value) (an:Option Addr) (cdv ct:Value) (osl:Array (Option Value)),
  fd=PySem.W.fnOf x qual (bw st) (bf st) (aj st) .none kV doc pm an cdv ct/\K.lookup f=some ⟨oc,od,.func fd,osl⟩/\PySem.W.codeIn K cdv qual=true
 kp:PySem.W.keepIn K (.ref f)=true
section
variable {P:Program}{w:World}{K:PySem.W.Frag}{mg:Str->Option Value}{base:Heap}
theorem Fun.ok {x qual:Str}{st:Stmt}{f:Addr}{fd:FuncData}{N ps:List Str}{k:Nat}{sp:Sp}(F:Fun K x qual st f fd) (S:bJ N ps (aj st)) (len:∀ vs H Q E,sp vs H Q E->vs.length=ps.length)
  (hbody:∀ (cdv:Value) (A:Around) (outer:List Env) (s:Shared) (H:Hp) (vs:List V) (Q:VK) (E:XK),iV k (A.deeper (envOfC qual (aj st) s.heap.objs.size f cdv))->sp vs H Q E ->
   ∃ t,PSs (En CX0 P w K mg base N qual (aj st) f cdv A outer s H E).nox (bf st) t/\t { nx:=fun _ H'=>Q .non H',rt:=Q } (start N vs) H):dO P w K mg base CX0 (k + 1) f fd ps sp:=by
 obtain ⟨oc,od,kV,doc,pm,an,cdv,ct,osl,rfl,lk,hcd⟩:=F.ex
 refine YS lk hcd S len fun A outer s H vs Q E hr hsp=>?_
 obtain ⟨t,h,q⟩:=hbody cdv A outer s H vs Q E hr hsp
 exact ⟨t,h.nox,q⟩
theorem Fun.binds {x qual:Str}{st:Stmt}{f:Addr}{fd:FuncData}{ps:List Str}(F:Fun K x qual st f fd)
  (h:∀ (kV doc pm:Value) (an:Option Addr) (cdv ct:Value) (us:List Value),us.length=ps.length->bindArgs (PySem.W.fnOf x qual (bw st) (bf st) (aj st) .none kV doc pm an cdv ct) ⟨us,[]⟩=pure (ps.zip us)):Binds K fd ps []:=by
 obtain ⟨oc,od,kV,doc,pm,an,cdv,ct,osl,rfl,lk,hcd⟩:=F.ex
 exact .all (h kV doc pm an cdv ct)
theorem N7 {x qual:Str}{st:Stmt}{f:Addr}{oc:Value}{od an:Option Addr}{osl:Array (Option Value)}{kV doc pm cdv ct:Value}(l:K.lookup f=some ⟨oc,od,.func (PySem.W.fnOf x qual (bw st) (bf st) (aj st) .none kV doc pm an cdv ct),osl⟩)
  (c:PySem.W.codeIn K cdv qual=true) (k:PySem.W.keepIn K (.ref f)=true):Fun K x qual st f (PySem.W.fnOf x qual (bw st) (bf st) (aj st) .none kV doc pm an cdv ct):=⟨⟨oc,od,kV,doc,pm,an,cdv,ct,osl,rfl,l,c⟩,k⟩
end
section
variable {X:Cx}
end
def Same (H H':Hp):Prop:=∀ b o,H b=some o->H' b=some o
theorem Same.refl (H:Hp):Same H H:=fun _ _ h=>h
theorem Same.trans {H H1 H2:Hp}(a:Same H H1) (b:Same H1 H2):Same H H2:=fun c o h=>b c o (a c o h)
theorem Same.seq {K:PySem.W.Frag}{H H':Hp}{a:Addr}{xs:List V}(e:Same H H') (h:SqL K H a xs):SqL K H' a xs:=by
 rcases h with (h | ⟨o,h⟩) | h
 ·exact .inl (.inl (e _ _ h))
 ·exact .inl (.inr ⟨o,e _ _ h⟩)
 ·exact .inr h
end L2
set_option maxHeartbeats 4000000
namespace L2
open PySem PySem.Spec PyProof.Rows
theorem vI {env:Env}:∀ (names:List (Str×NameKind)) (acc:List (Str×Addr)),
  (∀ y∈names,y.2=.free->∃ c,env.cells.lookup y.1=some c)->(∀ x c,acc.lookup x=some c->env.cells.lookup x=some c) ->
  ∃ cl,(forIn names acc fun (y:Str×NameKind) (r:List (Str×Addr))=>(match y with
   | (name,kind)=>if (kind == .free)=true then (do let a <- cellOf env name; pure (ForInStep.yield ((name,a) :: r))) else pure (ForInStep.yield r):Sem (ForInStep (List (Str×Addr)))))=pure cl /\
   (∀ x c,cl.lookup x=some c->env.cells.lookup x=some c)/\(∀ y∈names,y.2=.free->∃ c,cl.lookup y.1=some c)/\(∀ x c,acc.lookup x=some c->∃ c',cl.lookup x=some c')
 | [],acc,_,ha=>⟨acc,rfl,ha,fun _ h=>(nomatch h),fun x c h=>⟨c,h⟩⟩
 | (n,k) :: r,acc,hf,ha=>by
  have hf':∀ y∈r,y.2=.free->∃ c,env.cells.lookup y.1=some c:=fun y hy=>hf y (List.mem_cons_of_mem _ hy)
  by_cases hk:k=.free
  ·subst hk
   obtain ⟨c0,e0⟩:=hf (n,.free) List.mem_cons_self rfl
   have hce:cellOf env n=pure c0:=by unfold cellOf; rw[e0]
   have ha2:∀ x c,((n,c0) :: acc).lookup x=some c->env.cells.lookup x=some c:=fun x c h=>by
    rw[List.lookup_cons] at h
    cases hx:x == n with
    | true=>
     rw[hx] at h
     have e1:x=n:=by simpa using hx
     rw[e1,e0]
     exact h
    | false=>
     rw[hx] at h
     exact ha x c h
   obtain ⟨cl,e,h1,h2,h3⟩:=vI r ((n,c0) :: acc) hf' ha2
   refine ⟨cl,?_,h1,fun y hy hz=>?_,fun x c h=>?_⟩
   ·rw[List.forIn_cons]
    simp only[beq_self_eq_true,if_true,hce]
    exact e
   ·rcases List.mem_cons.mp hy with q | q
    ·subst q
     exact h3 n c0 (by simp)
    ·exact h2 y q hz
   ·cases hx:x == n with
    | true=>exact h3 x c0 (by rw[List.lookup_cons,hx])
    | false=>exact h3 x c (by rw[List.lookup_cons,hx]; exact h)
  ·have hb:(k == NameKind.free)=false:=by simpa using hk
   obtain ⟨cl,e,h1,h2,h3⟩:=vI r acc hf' ha
   refine ⟨cl,?_,h1,fun y hy hz=>?_,h3⟩
   ·rw[List.forIn_cons]
    simp only[hb,Bool.false_eq_true,if_false]
    exact e
   ·rcases List.mem_cons.mp hy with q | q
    ·subst q
     exact absurd hz hk
    ·exact h2 y q hz
theorem Gy {env:Env}{scope:Scope}(hf:∀ y∈scope.names,y.2=.free->∃ c,env.cells.lookup y.1=some c) :
  ∃ cl,closureFor scope env=pure cl/\(∀ x c,cl.lookup x=some c->env.cells.lookup x=some c)/\(∀ y∈scope.names,y.2=.free->∃ c,cl.lookup y.1=some c):=by
 obtain ⟨cl,e,h1,h2,_⟩:=vI (env:=env) scope.names [] hf (fun x c h=>by simp at h)
 refine ⟨cl,?_,h1,h2⟩
 unfold closureFor
 show (forIn scope.names [] _ >>= fun r=>pure r)=_
 rw[show (forIn scope.names ([]:List (Str×Addr)) fun (y:Str×NameKind) (r:List (Str×Addr))=>(match y with
   | (name,kind)=>if (kind == .free)=true then (do let a <- cellOf env name; pure (ForInStep.yield ((name,a) :: r))) else pure (ForInStep.yield r):Sem (ForInStep (List (Str×Addr)))))=pure cl from e]
 rfl
section
variable {prog:Program}{w:World}{A:Around}{R:Result->Shared->Prop}{s:Shared}
theorem xO {elt tg iter:Expr}{ifs:List Expr}{scope:Scope}{pos:Pos}{it acc:Value}{env:Env}(J:Nat->Shared->Prop)
  (turn:∀ n s,J n s->wpAny (model prog w) A (pyNext it) (fun r s1=>match r with
   | none=>R (.ok .next) s1
   | some v=>wpAny (model prog w) A (letOwnedTupleGo tg it v) (fun _ s1'=>wpAny (model prog w) A (assign tg env v) (fun _ s2=>
     wpAny (model prog w) A (forIn ifs true fun c r=>if r=true then do let ok <- isTrue c env (eval c env); pure (ForInStep.yield ok) else pure (ForInStep.yield r)) (fun ok s3=>
      if ok=true then wpAny (model prog w) A (eval elt env) (fun x s4=>
       wpAny (model prog w) A (call (.builtin "list.append") [acc,x]) (fun _ s5=>∃ m,m < n/\J m s5) (notedBy (model prog w) A env fun e z=>R (.error e) z) s4) (notedBy (model prog w) A env fun e z=>R (.error e) z) s3
      else ∃ m,m < n/\J m s3) (notedBy (model prog w) A env fun e z=>R (.error e) z) s2) (notedBy (model prog w) A env fun e z=>R (.error e) z) s1') (notedBy (model prog w) A env fun e z=>R (.error e) z) s1) (notedBy (model prog w) A env fun e z=>R (.error e) z) s)
  (n:Nat) (h:J n s):codeAny (model prog w) A (.compLoop (.ListComp elt [⟨tg,iter,ifs,0⟩] scope pos) 0 it acc env) R s:=by
 refine codeAny_loop rfl J (fun n z hJ=>?_) n h
 show wpAny _ A ((compTurn (.ListComp elt [⟨tg,iter,ifs,0⟩] scope pos) 0 it acc env).onRaise (fun y=>do noteFrame y env; theTreesLotGoes y)) _ _ z
 refine wpAny_noted ?_
 rw[compTurn_list]
 refine wpAny_bind (wpAny_standAt (wpAny_bind (wpAny_mono (turn n z hJ) (fun r s1 h1=>?_) fun _ _ q=>q)))
 cases r with
 | none=>exact wpAny_pure h1
 | some v=>
  refine wpAny_bind (wpAny_mono h1 (fun _ s1' h1'=>?_) fun _ _ q=>q)
  refine wpAny_bind (wpAny_mono h1' (fun _ s2 h2=>wpAny_bind (wpAny_mono h2 (fun ok s3 h3=>?_) fun _ _ q=>q)) fun _ _ q=>q)
  cases ok with
  | false=>exact wpAny_pure ⟨rfl,h3⟩
  | true=>
   exact wpAny_bind (wpAny_bind (wpAny_mono h3 (fun x s4 h4=>wpAny_bind (wpAny_mono h4 (fun _ s5 h5=>wpAny_pure (wpAny_pure ⟨rfl,h5⟩)) fun _ _ q=>q)) fun _ _ q=>q))
end
def lW (mp:List (Option Nat)) (σ:St):St:=mp.map fun o=>match o with
 | some j=>(σ[j]?).join
 | none=>none
def cu (X:Cx) (N:List Str) (scope:Scope) (cl:List (Str×Addr)) (C:Addr) (s:Shared) (H:Hp) (fp:List Addr):Cx:=
 { X with N:=N,s₀:=s,H₀:=H,env:=compEnvC scope cl C X.env,outer:=X.stack,stack:=X.stack,ex:=fp,fn:=fun _=>false,pn:=[],xe:=fun _ _=>False }
def ou (NX:List Str) (names:List (Str×NameKind)):List Str->List (Option Nat)->Bool
 | [],[]=>true
 | x :: r,o :: q=>(match o with
   | none=>names.lookup x == some .local
   | some j=>NX[j]? == some x && names.lookup x == some .free) && ou NX names r q
 | _,_=>false
theorem wY {NX:List Str}{names:List (Str×NameKind)}:∀ {N:List Str}{mp:List (Option Nat)}{i j:Nat}{x:Str},ou NX names N mp=true->N[i]?=some x->mp[i]?=some (some j)->NX[j]?=some x/\names.lookup x=some .free
 | [],_,i,_,_,_,h,_=>by simp at h
 | _ :: _,[],_,_,_,h,_,_=>by simp [ou] at h
 | y :: r,o :: q,0,j,x,h,h1,h2=>by
  simp at h1 h2
  subst h1 h2
  unfold ou at h
  simp only[Bool.and_eq_true,beq_iff_eq] at h
  exact h.1
 | y :: r,o :: q,i + 1,j,x,h,h1,h2=>by
  unfold ou at h
  rw[Bool.and_eq_true] at h
  exact wY (i:=i) h.2 (by simpa using h1) (by simpa using h2)
theorem wX {NX:List Str}{names:List (Str×NameKind)}:∀ {N:List Str}{mp:List (Option Nat)},ou NX names N mp=true->mp.length=N.length
 | [],[],_=>rfl
 | [],_ :: _,h=>by simp [ou] at h
 | _ :: _,[],h=>by simp [ou] at h
 | _ :: r,_ :: q,h=>by
  unfold ou at h
  rw[Bool.and_eq_true] at h
  simp [wX h.2]
structure xX (NX:List Str) (kX:List (Str×NameKind)) (N:List Str) (mp:List (Option Nat)) (scope:Scope):Prop where
 kind:scope.kind=.function
 nocell:∀ y∈scope.names,y.2≠.cell
 locs:∀ y∈scope.names,y.2=.local->scope.names.lookup y.1=some .local
 fre:∀ y∈scope.names,y.2=.free->kX.lookup y.1=some .cell\/kX.lookup y.1=some .free
 map:ou NX scope.names N mp=true
def PTs (X:Cx) (cs:List Expr) (t:TT):Prop:=
 ∀ (pins:List (Addr×Obj)) (s:Shared) (σ:St) (H:Hp) (Q:Bool->Hp->Prop),Inv X pins σ H s->t σ H Q ->
  wpAny (model X.prog X.w) X.A (forIn cs true fun c r=>if r=true then do let ok <- isTrue c X.env (eval c X.env); pure (ForInStep.yield ok) else pure (ForInStep.yield r)) (TP X pins σ Q) X.xe s
def Ql:TT:=fun _ H Q=>Q true H
theorem Rp {X:Cx}:PTs X [] Ql:=fun _ _ _ H _ I h=>wpAny_tests_nil ⟨H,I,h⟩
theorem Ro {X:Cx}{c:Expr}{t:TT}(h:PT X c t):PTs X [c] t:=fun pins s σ H Q I q=>wpAny_tests_one (h pins s σ H Q I q)
def wH (mp:List (Option Nat)) (wi:TI) (g:TG) (tc:TT) (te:TE):TE:=fun σ H Q=>wi σ H fun J H1=>
 ∃ W:Nat->Nat->List V->St->Hp->Prop,(∃ m,W 0 m [] (lW mp σ) H1)/\∀ i m acc τ H2,W i m acc τ H2 ->
  (J.stop i H2/\∀ d,H2 d=none->Q (.ref d) (upd H2 d (.lst acc))) \/
  (J.go i H2/\acc.length < sizeLine/\∃ N:List V->St->Hp->Prop,(∀ acc' τ' H',N acc' τ' H'->∃ m',m' < m/\W (i + 1) m' acc' τ' H')/\∀ x H3,J.yld i H2 x H3->g x τ H3 fun τ1 H4=>tc τ1 H4 fun b H5=>
   if b=true then te τ1 H5 fun v H6=>N (acc ++ [v]) τ1 H6 else N acc τ1 H5)
theorem gK {env:Env}:∀ {names:List (Str×NameKind)}{x:Str}{k:NameKind},(names.map fun (n,k)=>if (k == NameKind.free && env.scope.kind == .function && env.kindOf n == some .cell) then (n,NameKind.cell) else (n,k)).lookup x=some k ->
  names.lookup x=some k\/(k=.cell/\names.lookup x=some .free)
 | [],_,_,h=>by simp at h
 | (n,k0) :: r,x,k,h=>by
  have ih:=@gK env r x k
  rw[List.map_cons] at h
  by_cases hc:(k0 == NameKind.free && env.scope.kind == .function && env.kindOf n == some .cell)=true
  ·simp only[hc,if_true] at h
   cases hx:x == n with
   | true=>
    rw[List.lookup_cons,hx] at h
    have hk:k0=.free:=by
     rw[Bool.and_eq_true,Bool.and_eq_true] at hc
     simpa using hc.1.1
    right
    refine ⟨(Option.some.inj h).symm,?_⟩
    rw[List.lookup_cons,hx,hk]
   | false=>
    rw[List.lookup_cons,hx] at h
    rw[List.lookup_cons,hx]
    exact ih h
  ·simp only[hc,if_false] at h
   cases hx:x == n with
   | true=>
    rw[if_neg (by simp),List.lookup_cons,hx] at h
    rw[List.lookup_cons,hx]
    exact .inl h
   | false=>
    rw[if_neg (by simp),List.lookup_cons,hx] at h
    rw[List.lookup_cons,hx]
    exact ih h
theorem na0 {b D E:Nat}(h:b < E) (hD:E=D):b≠D:=by omega
theorem na1 {b D E C:Nat}(h:b < E) (hD:E=D) (hC:C=D + 1):b≠C:=by omega
theorem na2 {C D:Nat}(hC:C=D + 1):D≠C:=by omega
theorem na3 {C D E:Nat}(hD:E=D) (hC:C=D + 1):E<=C:=by omega
theorem na4 {D E:Nat}(hD:E=D):E<=D:=by omega
section
variable {X:Cx}{NX N:List Str}{kX:List (Str×NameKind)}{mp:List (Option Nat)}{scope:Scope}{pins:List (Addr×Obj)}{σ:St}{s s':Shared}{H:Hp}{fp:List Addr}{cl:List (Str×Addr)}{C:Addr}
theorem Ep (hkX:X.env.scope.names=kX) (S:xX NX kX N mp scope) (I:Inv X pins σ H s) (hfp:∀ b∈fp,rZ X pins H b) (hold:∀ b∈fp,b < s.heap.objs.size) (hC:s.heap.objs.size<=C)
  (hsub:∀ x c,cl.lookup x=some c->X.env.cells.lookup x=some c) (hhas:∀ y∈scope.names,y.2=.free->∃ c,cl.lookup y.1=some c):(cu X N scope cl C s H fp).Ok where
 mod:=I.ok.mod
 kind:=S.kind
 glob:=I.ok.glob
 blt:=I.ok.blt
 above:=hC
 inj:=fun x y c h1 h2=>I.ok.inj x y c (hsub x c h1) (hsub y c h2)
 has:=fun x h=>by
  have key:scope.names.lookup x=some .free:=by
   rcases h with h | h
   ·rcases gK (env:=X.env) (names:=scope.names) h with q | ⟨_,q⟩
    ·exact absurd rfl (S.nocell _ (PySem.mem_of_lookup q))
    ·exact q
   ·rcases gK (env:=X.env) (names:=scope.names) h with q | ⟨q,_⟩
    ·exact q
    ·cases q
  exact hhas _ (PySem.mem_of_lookup key) rfl
 cab:=fun x c h=>by cases h
 hd:=I.ok.hd
 frames:=I.ok.frames
 stk:=.inl rfl
 exf:=fun b hb=>⟨Nat.ne_of_lt (Nat.lt_of_lt_of_le (hold b hb) hC),fun x c e=>(hfp b hb).2.2.2.2.1 x c (hsub x c e)⟩
 bs:=I.bs
 bsz:=Nat.le_trans I.ok.bsz I.sz
 noex:=fun b o e hb=>by
  rcases (hfp b hb).2.2.2.1 with q | q
  ·exact I.ok.noex b o e q
  ·exact absurd (Nat.lt_of_lt_of_le (Nat.lt_of_lt_of_le (Heap.lt_size e) I.ok.bsz) q) (Nat.lt_irrefl _)
 exfs:=fun b hb hz=>by
  obtain ⟨_,h1,h2,_⟩:=hfp b hb
  rcases List.mem_cons.mp (I.ux b hz) with q | q
  ·exact h1 q
  ·exact h2 q
 tK:=I.stack
 frf:=I.Fo
theorem Gx (hNX:X.N=NX) (hkX:X.env.scope.names=kX) (S:xX NX kX N mp scope) (I:Inv X pins σ H s) (hfp:∀ b∈fp,rZ X pins H b) (hold:∀ b∈fp,b < s.heap.objs.size) (hC:s.heap.objs.size<=C)
  (hsub:∀ x c,cl.lookup x=some c->X.env.cells.lookup x=some c) (hhas:∀ y∈scope.names,y.2=.free->∃ c,cl.lookup y.1=some c)
  (ho:s'.os=s.os) (hg:s'.gens=s.gens) (hn:∃ m,s'.heap.Ns C m) (hk:∀ b o,s.heap.get? b=some o->s'.heap.get? b=some o) {pl:List (Addr×Obj)}
  (hp:∀ p∈pl,s'.heap.get? p.1=some p.2/\H p.1=none/\p.1≠C/\p.1∉frs X.stack/\∀ v,p.2.data≠.cell v) :
  Inv (cu X N scope cl C s H fp) pl (lW mp σ) H s' where
 ok:=Ep hkX S I hfp hold hC hsub hhas
 os:=ho
 bare:=by rw[hg]; exact I.bare
 base:=Un.kept hk
 loc:=by
  obtain ⟨m,hm⟩:=hn
  refine ⟨m,hm,fun i x v h1 h2 h3=>?_⟩
  have h2':(mp.map fun o=>match o with | some j=>(σ[j]?).join | none=>none)[i]?=some (some v):=h2
  rw[List.getElem?_map] at h2'
  cases e:mp[i]? with
  | none=>rw[e] at h2'; cases h2'
  | some o=>
   rw[e] at h2'
   cases o with
   | none=>cases h2'
   | some j=>
    have h4:(σ[j]?).join=some v:=by simpa using h2'
    have h5:σ[j]?=some (some v):=by
     cases q:σ[j]? with
     | none=>rw[q] at h4; cases h4
     | some z=>rw[q] at h4; rw[show z=some v from h4]
    obtain ⟨g1,g2⟩:=wY S.map h1 e
    have fk:=S.fre _ (PySem.mem_of_lookup g2) rfl
    obtain ⟨m0,_,hl⟩:=I.loc
    have vis:Vis X.env.scope x:=by
     rcases fk with q | q
     ·exact .inr (.inl (by rw[hkX]; exact q))
     ·exact .inr (.inr (by rw[hkX]; exact q))
    obtain ⟨u,r,l⟩:=hl j x v (by rw[hNX]; exact g1) h5 vis
    refine ⟨u,r,.inr ?_⟩
    have l':∃ c,X.env.cells.lookup x=some c/\s.heap.IsCell c (some u):=by
     rcases l with ⟨q,_⟩ | ⟨_,q⟩
     ·have q':X.env.scope.names.lookup x=some .local:=q
      rw[hkX] at q'
      rcases fk with z | z
      ·rw[q'] at z; cases z
      ·rw[q'] at z; cases z
     ·exact q
    obtain ⟨c,hc,oc,hoc,hd⟩:=l'
    obtain ⟨c',hc'⟩:=hhas _ (PySem.mem_of_lookup g2) rfl
    have ec:c'=c:=by
     have:=hsub x c' hc'
     rw[hc] at this
     exact (Option.some.inj this).symm
    subst ec
    refine ⟨?_,c',hc',oc,hk _ _ hoc,hd⟩
    rcases h3 with q | q | q
    ·rcases gK (env:=X.env) (names:=scope.names) q with z | ⟨z,_⟩
     ·rw[g2] at z; cases z
     ·cases z
    ·exact .inl q
    ·exact .inr q
 cell:=fun x c e=>by
  obtain ⟨v,o,h1,h2⟩:=I.cell x c (hsub x c e)
  exact ⟨v,o,hk _ _ h1,h2⟩
 free:=I.hok.fresh hC
 freeC:=fun x c e=>I.freeC x c (hsub x c e)
 pin:=fun p hpp=>hp p (by simpa [cu] using hpp)
 hok:=I.hok.kept hk
 len:=by
  show (mp.map _).length=N.length
  rw[List.length_map]
  exact wX S.map
set_option maxHeartbeats 8000000 in
theorem RT {tg iter elt:Expr}{ifs:List Expr}{pos:Pos}{wi:TI}{g:TG}{tc:TT}{te:TE}(N:List Str) (mp:List (Option Nat)) (hNX:X.N=NX) (hkX:X.env.scope.names=kX) (S:xX NX kX N mp scope) (hc:X.calm=true)
  (hi:PI X tg iter wi) (hg:∀ cl C s H fp,PG (cu X N scope cl C s H fp) tg g) (ht:∀ cl C s H fp,PTs (cu X N scope cl C s H fp) ifs tc) (he:∀ cl C s H fp,PE (cu X N scope cl C s H fp) elt te)
  (hs:∀ x,foldedSetIterable iter X.env x=pure x:=by intro _; rfl):PE X (.ListComp elt [⟨tg,iter,ifs,0⟩] scope pos) (wH mp wi g tc te):=by
 intro pins s σ H Q I h
 obtain ⟨cl,hcl,hsub,hhas⟩:=Gy (env:=X.env) (scope:=scope) fun y hy hf=>I.ok.has y.1 (by
  rcases S.fre y hy hf with q | q
  ·exact .inl (show X.env.scope.names.lookup y.1=_ by rw[hkX]; exact q)
  ·exact .inr (show X.env.scope.names.lookup y.1=_ by rw[hkX]; exact q))
 rw[eval_ListComp]
 refine wpAny_comprehension_free (use:=none) rfl hs hcl S.kind S.locs ?_
 refine thn (hi pins s σ H _ I h) fun v s1 h1=>thn h1 fun itv s2 h2=>?_
 obtain ⟨it,fp,tn,J,H2,e,I2,T,st2,f2,W,⟨m0,w0⟩,turn⟩:=h2
 subst e
 refine wpAny_newObj_type (wpAny_newFunctionEnv S.nocell (by intro y hy; simp at hy) (fun h3 hns hsb=>?_) S.kind)
 dsimp only at hns hsb |-
 have hold:∀ b∈fp,b < s2.heap.objs.size:=fun b hb=>by
  obtain ⟨o,q,_⟩:=T.obj _ _ st2 b hb
  exact Heap.lt_size q
 generalize hD:s2.heap.objs.size=D at hns hsb
 generalize hH2:s2.heap.push { cls:=.type "list",dict:=none,data:=.seq ([]:List Value).toArray }=P2 at hns hsb |-
 have hC:P2.objs.size=D + 1:=by rw[<- hH2,Heap.size_push,hD]
 generalize hC':P2.objs.size=C at hns hsb |-
 rw[hC'] at hC
 have old:∀ b o,s2.heap.get? b=some o->h3.get? b=some o:=fun b o q=>by
  have hb:=Heap.lt_size q
  exact hsb.extBut b o (na1 hb hD hC) (Heap.get?_push_of_some _ (hH2 ▸ Heap.get?_push_of_some _ q))
 have accD:h3.get? D=some { cls:=.type "list",data:=.seq ([]:List Value).toArray }:=
  hsb.extBut _ _ (na2 hC) (Heap.get?_push_of_some _ (by rw[<- hH2,<- hD]; exact Heap.get?_push_size _ rfl))
 have hfr:D∉frs X.stack:=fun z=>by
  rcases List.mem_cons.mp (I2.ux D z) with q | q
  ·exact na0 I2.lt hD q.symm
  ·exact I2.WR (na4 hD) q
 have I0:Inv (cu X N scope cl C s2 H2 fp) [(D,{ cls:=.type "list",data:=.seq ([]:List Value).toArray })] (lW mp σ) H2 { s2 with heap:=h3,toks:=s2.toks + ([]:List (Str×Value)).length }:=
  Gx (s':={ s2 with heap:=h3,toks:=s2.toks + ([]:List (Str×Value)).length }) hNX hkX S I2 f2 hold (na3 hD hC) hsub hhas rfl rfl ⟨_,hns⟩ old fun p hp=>by
   have ep:=List.mem_singleton.mp hp
   subst ep
   exact ⟨accD,I2.hok.fresh (na4 hD),na2 hC,hfr,fun v z=>by cases z⟩
 have T0:tn 0 h3:=T.keep _ _ _ st2 fun b _ o q=>old b o q
 have loop:∀ z:Shared,z={ s2 with heap:=h3,toks:=s2.toks + ([]:List (Str×Value)).length } ->
   codeAny (model X.prog X.w) X.A (.compLoop (.ListComp elt [⟨tg,iter,ifs,0⟩] scope pos) 0 (.ref it) (.ref D) (compEnvC scope cl C X.env))
    (compPost (model X.prog X.w) X.A X.xe none (EP X pins σ Q) (.ref D) C) z:=by
  rintro z rfl
  have stat:∀ {H':Hp} {pl:List (Addr×Obj)},(∀ b∈fp,H' b=none)->(∀ p∈pl,p.1=D)->∀ b∈fp,rZ (cu X N scope cl C s2 H2 fp) pl H' b:=fun hn hp b hb=>by
   have hb2:=hold b hb
   refine ⟨hn b hb,na1 hb2 hD hC,(Ep hkX S I2 f2 hold (na3 hD hC) hsub hhas).exfs b hb,.inl hb,fun x c q=>(f2 b hb).2.2.2.2.1 x c (hsub x c q),fun p hpp=>?_⟩
   have hpD:=hp p (by simpa [cu] using hpp)
   rw[hpD]
   exact (na0 hb2 hD).symm
  refine xO (env:=compEnvC scope cl C X.env) (fun n z=>∃ i acc τ H' its k,Inv (cu X N scope cl C s2 H2 fp) [(D,{ cls:=.type "list",data:=.seq (List.toArray its) k })] τ H' z/\tn i z.heap/\(∀ b∈fp,H' b=none)/\Vals acc its/\acc.length<=sizeLine/\W i n acc τ H')
   ?_ m0 ⟨0,[],_,H2,[],0,I0,T0,fun b hb=>(f2 b hb).1,.nil,Nat.zero_le _,w0⟩
  rintro n s5 ⟨i,acc,τ,H5,its,k,I5,st5,fr5,va,hz,w5⟩
  rcases turn i n acc τ H5 w5 with ⟨stop,qn⟩ | ⟨go,hz2,N9,hN9,step⟩
  ·refine thn (T.done (cu X N scope cl C s2 H2 fp) rfl rfl rfl hc i _ s5 τ H5 _ I5 (stat fr5 (by simp)) st5 stop) fun r s6 ⟨hr,I6⟩=>?_
   subst hr
   obtain ⟨m6,hn6,_⟩:=I6.loc
   refine ⟨m6,hn6,fun h' sb=>?_⟩
   obtain ⟨dD,nD,_,_,_⟩:=I6.pin (D,_) (List.mem_append_right _ (List.mem_singleton.mpr rfl))
   have U:=I6.base
   have nC:H5 C=none:=I6.free
   have ne:∀ b o,s2.heap.get? b=some o->b≠C/\b≠D:=fun b o q=>by
    exact ⟨na1 (Heap.lt_size q) hD hC,na0 (Heap.lt_size q) hD⟩
   have keepC:∀ b o,b≠C->s6.heap.get? b=some o->h'.get? b=some o:=fun b o hb q=>(sb.2 b hb).trans q
   have U':Un (frs X.stack) fp H2 (upd H5 D (.lst acc)) s2.heap h':=by
    refine ⟨fun b o q n1 hb hx=>keepC b o (ne b o q).1 (U.keep b o q n1 hb hx),fun b o q n1 hb hx=>?_,fun b o q n1 hx=>?_,fun b o q hx=>?_,fun b xs q=>?_,fun b o xs q=>?_,fun b ps q=>?_⟩
    ·obtain ⟨sl,z⟩:=U.slot b o q n1 hb hx
     exact ⟨sl,keepC b _ (ne b o q).1 z⟩
    ·rw[aH (ne b o q).2]
     exact U.free b o q n1 hx
    ·obtain ⟨o',z⟩:=U.there b o q hx
     exact ⟨o',keepC b _ (ne b o q).1 z⟩
    ·have z:=U.tups b xs q
     rw[aH (aF z nD)]
     exact z
    ·have z:=U.frzs b o xs q
     rw[aH (aF z nD)]
     exact z
    ·obtain ⟨more,z⟩:=U.tbls b ps q
     exact ⟨more,by rw[aH (aF z nD)]; exact z⟩
   have hok:HOk X.prog X.w (upd H5 D (.lst acc)) h':=fun b u q=>by
    by_cases hb:b=D
    ·subst hb
     rw[aB] at q
     cases q
     exact ⟨hz,its,k,va,keepC _ _ (na2 hC) dD⟩
    ·rw[aH hb] at q
     refine (I6.hok b u q).stay (fun c v hcc z=>keepC c v ?_ z) (fun c z=>by rw[aH (aF z nD)]; exact z) fun c xs z=>by rw[aH (aF z nD)]; exact z
     rcases hcc with z1 | z1
     ·subst z1
      exact aF q nC
     ·exact aF z1 nC
   have I7:Inv X pins σ (upd H5 D (.lst acc)) { s6 with heap:=h' }:=I2.call' (s':={ s6 with heap:=h' }) (ch:=fp) I6.os U' hok I6.bare fun b hb=>by
    obtain ⟨_,a2,_,a4,a5,a6⟩:=f2 b hb
    exact ⟨a4,a2,a5,a6⟩
   exact ⟨.ref D,_,I7,rfl,qn D nD⟩
  ·refine thn (T.item (cu X N scope cl C s2 H2 fp) rfl rfl rfl hc i _ s5 τ H5 _ I5 (stat fr5 (by simp)) st5 go) fun r s6 ⟨u,hr,h6⟩=>?_
   subst hr
   refine thn h6 fun _ s7 ⟨x,H7,I7,r7,y7,st7,fr7⟩=>?_
   have I7':=I7.pinned (stat fr7 (by simp)) (T.obj _ _ st7)
   have no:∀ {α:Type} {t:Sem α} {Q1 Q2:α->Shared->Prop} {E:Value->Shared->Prop} {z:Shared},wpAny (model X.prog X.w) X.A t Q1 (fun _ _=>False) z->(∀ a z,Q1 a z->Q2 a z)->wpAny (model X.prog X.w) X.A t Q2 E z:=
    fun q f=>wpAny_mono q f fun _ _ z=>z.elim
   refine no (hg cl C s2 H2 fp _ s7 τ H7 x u _ I7' r7 (step x H7 y7)) fun _ s8 ⟨τ1,H8,I8,q8⟩=>?_
   refine no (ht cl C s2 H2 fp _ s8 τ1 H8 _ I8 q8) fun ok s9 ⟨H9,I9,q9⟩=>?_
   have again:∀ {H':Hp} {z:Shared} {its':List Value} {k':Nat},Inv (cu X N scope cl C s2 H2 fp) ([(D,{ cls:=.type "list",data:=.seq (List.toArray its') k' })] ++ jO fp s7.heap) τ1 H' z ->
     tn (i + 1) z.heap/\(∀ b∈fp,H' b=none)/\Inv (cu X N scope cl C s2 H2 fp) [(D,{ cls:=.type "list",data:=.seq (List.toArray its') k' })] τ1 H' z:=fun {H' z its' k'} Iz=>by
    have get:∀ b∈fp,∀ o,s7.heap.get? b=some o->z.heap.get? b=some o/\H' b=none:=fun b hb o q=>by
     obtain ⟨a1,a2,_⟩:=Iz.pin (b,o) (List.mem_append_right _ (List.mem_append_right _ (lH hb q)))
     exact ⟨a1,a2⟩
    refine ⟨T.keep _ _ _ st7 fun b hb o q=>(get b hb o q).1,fun b hb=>?_,Iz.mF⟩
    obtain ⟨o,q,_⟩:=T.obj _ _ st7 b hb
    exact (get b hb o q).2
   cases ok with
   | false=>
    rw[if_neg Bool.false_ne_true] at q9 |-
    obtain ⟨m',hm,w9⟩:=hN9 _ _ _ q9
    obtain ⟨a1,a2,a3⟩:=again I9
    exact ⟨m',hm,i + 1,acc,τ1,H9,its,k,a3,a1,a2,va,hz,w9⟩
   | true=>
    rw[if_pos rfl] at q9 |-
    refine no (he cl C s2 H2 fp _ s9 τ1 H9 _ I9 q9) fun y s10 ⟨v,H10,I10,rv,q10⟩=>?_
    obtain ⟨m',hm,w10⟩:=hN9 _ _ _ q10
    obtain ⟨a1,a2,a3⟩:=again I10
    obtain ⟨dD,nD,_,_,_⟩:=a3.pin (D,_) (List.mem_append_right _ (List.mem_singleton.mpr rfl))
    have hlen:=va.length
    refine call_meets F.slot_list_append ⟨_,dD,rfl⟩ F.entry_list_append (F.args_list_append_2 _ _) (PySem.list_append D its.toArray k y (by rw[List.size_toArray]; omega)) ⟨dD,?_⟩
    obtain ⟨k',q⟩:∃ k',(s10.heap.update D (Obj.mapSeq fun a=>a.push y)).get? D=some { cls:=.type "list",data:=.seq (its ++ [y]).toArray k' }:=by
     have q:=PySem.IsL.update dD (fun a=>a.push y)
     rw[show its.toArray.push y=(its ++ [y]).toArray by simp] at q
     exact ⟨_,q⟩
    have a4:Inv (cu X N scope cl C s2 H2 fp) (jO fp s7.heap) τ1 H10 s10:=I10.nQ fun p hp=>I10.pin p (List.mem_append_right _ (List.mem_append_right _ hp))
    have a5:Inv (cu X N scope cl C s2 H2 fp) (jO fp s7.heap) τ1 H10 { s10 with heap:=s10.heap.update D (Obj.mapSeq fun a=>a.push y),toks:=s10.toks }:=
     a4.turned (it:=D) (fun b o hb z=>(Heap.get?_update_other _ _ (Ne.symm hb)).trans z) nD (na2 hC) (.inr (na4 hD))
      (fun x c z=>by
       obtain ⟨_,o,h1,_⟩:=I2.cell x c (hsub x c z)
       exact na0 (Heap.lt_size h1) hD) fun p hp=>by
       have hb:=(rz (by simpa [cu] using hp)).1
       exact na0 (hold _ hb) hD
    obtain ⟨b1,b2,b3⟩:=(show tn (i + 1) (s10.heap.update D (Obj.mapSeq fun a=>a.push y))/\(∀ b∈fp,H10 b=none)/\True from
     ⟨T.keep _ _ _ a1 fun b hb o z=>(Heap.get?_update_other _ _ (na0 (hold b hb) hD).symm).trans z,a2,trivial⟩)
    refine ⟨m',hm,i + 1,acc ++ [v],τ1,H10,its ++ [y],k',a5.nQ fun p hp=>?_,b1,b2,va.append (.cons rv .nil),by rw[List.length_append,List.length_singleton]; omega,w10⟩
    have ep:=List.mem_singleton.mp hp
    subst ep
    exact ⟨q,nD,na2 hC,hfr,fun v z=>by cases z⟩
 have e1:{ newEnv scope C X.env.globals cl X.env.qual none .none (some X.env) X.env.builtins with scope:=relabel scope X.env }=compEnvC scope cl C X.env:=rfl
 exact codeAny_compStart_list (loop _ rfl) (T.self _ 0 _ _ _ T0 (loop _ rfl))
end
section
variable {X:Cx}{pins:List (Addr×Obj)}{σ:St}{H:Hp}{s:Shared}
theorem Inv.JV {ch:List Addr}{h':Heap}{t':Nat}(I:Inv X pins σ H s) (hf:∀ b∈ch,rZ X pins H b) (k:∀ b o,b∉ch->s.heap.get? b=some o->h'.get? b=some o):Inv X pins σ H { s with heap:=h',toks:=t' }:=by
 have nit:∀ b u,H b=some u->b∉ch:=fun b u e z=>by rw[(hf b z).1] at e; cases e
 refine I.step (g':=s.gens) (d':=s.drawn) (ch:=ch) (fun b hb=>?_) (fun b o _ _ hc e _=>k b o hc e) (fun b o _ _ hc e _=>⟨o.slots,k b o hc e⟩) (fun _ _ _ _ n=>n)
  (fun b o hc e=>⟨o,k b o hc e⟩) (fun _ _ e=>e) (fun _ _ _ e=>e) (fun b ps e=>⟨#[],by rw[e]; simp⟩) (fun m hm=>?_) (fun b u e=>?_) I.bare
 ·obtain ⟨_,a2,_,a4,a5,a6⟩:=hf b hb
  exact ⟨a4,a2,a5,a6⟩
 ·obtain ⟨o,es,ep,ho,r⟩:=hm
  exact ⟨o,es,ep,k _ o (fun z=>(hf _ z).2.1 rfl) ho,r⟩
 ·refine (I.hok b u e).stay (fun c v hc q=>k c v ?_ q) (fun _ q=>q) fun _ _ q=>q
  rcases hc with z | z
  ·rw[z]; exact nit b u e
  ·exact nit c _ z
theorem Inv.JT {ch:List Addr}{h':Heap}{t':Nat}{p:Addr}{o:HO}(I:Inv X pins σ H s) (hf:∀ b∈ch,rZ X pins H b) (k:∀ b o,b∉ch->s.heap.get? b=some o->h'.get? b=some o) (hp:s.heap.objs.size<=p)
  (new:cA X.prog X.w (upd H p o) h' p o):Inv X pins σ (upd H p o) { s with heap:=h',toks:=t' }:=by
 have hn:H p=none:=I.hok.fresh hp
 have nit:∀ b u,H b=some u->b∉ch:=fun b u e z=>by rw[(hf b z).1] at e; cases e
 have lt:∀ b u,s.heap.get? b=some u->b≠p:=fun b u e=>Nat.ne_of_lt (Nat.lt_of_lt_of_le (Heap.lt_size e) hp)
 refine I.step (g':=s.gens) (d':=s.drawn) (ch:=ch) (fun b hb=>?_) (fun b o _ _ hc e _=>k b o hc e) (fun b o _ _ hc e _=>⟨o.slots,k b o hc e⟩) (fun b o _ e n=>by rw[aH (lt b o e)]; exact n)
  (fun b o hc e=>⟨o,k b o hc e⟩) (fun b xs e=>by rw[aH (aF e hn)]; exact e) (fun b u xs e=>by rw[aH (aF e hn)]; exact e) (fun b ps e=>⟨#[],by rw[aH (aF e hn),e]; simp⟩) (fun m hm=>?_) (fun b u e=>?_) I.bare
 ·obtain ⟨_,a2,_,a4,a5,a6⟩:=hf b hb
  exact ⟨a4,a2,a5,a6⟩
 ·obtain ⟨o,es,ep,ho,r⟩:=hm
  exact ⟨o,es,ep,k _ o (fun z=>(hf _ z).2.1 rfl) ho,r⟩
 ·by_cases hb:b=p
  ·subst hb
   rw[aB] at e
   cases e
   exact new
  ·rw[aH hb] at e
   refine (I.hok b u e).stay (fun c v hc q=>k c v ?_ q) (fun c q=>by rw[aH (aF q hn)]; exact q) fun c xs q=>by rw[aH (aF q hn)]; exact q
   rcases hc with z | z
   ·rw[z]; exact nit b u e
   ·exact nit c _ z
end
def Itz (K:PySem.W.Frag) (a b:Addr):It:=
 ⟨fun i H=>∃ xs ys x y,SqL K H a xs/\SqL K H b ys/\xs[i]?=some x/\ys[i]?=some y,
  fun i H v H'=>∃ p x y,v=.ref p/\H p=none/\H'=upd H p (.tup [x,y])/\(∀ xs,SqL K H a xs->xs[i]?=some x)/\∀ ys,SqL K H b ys->ys[i]?=some y,
  fun i H=>∃ xs ys,SqL K H a xs/\SqL K H b ys/\(xs[i]?=none\/ys[i]?=none)⟩
theorem JS {P:Program}{w:World}{K:PySem.W.Frag}{es:List Expr}{kk:Nat}{tpos:Pos}{z TI TO i1 i2 l1 l2:Addr}(D:ZipApart z TI TO i1 i2 l1 l2) :
  Turn P w K (.Tuple es kk tpos) (Itz K l1 l2) [z,TI,TO,i1,i2] z (fun i h=>IsZip h z TI TO .none/\IsPair h TI (.ref i1) (.ref i2)/\(∃ a b,IsPair h TO a b)/\h.IsListIter i1 l1 i/\h.IsListIter i2 l2 i) where
 mem:=by simp
 obj:=fun i h st b hb=>by
  obtain ⟨hz,hTI,⟨a,b',hTO⟩,⟨o1,e1,c1,d1⟩,⟨o2,e2,c2,d2⟩⟩:=st
  simp only[List.mem_cons,List.not_mem_nil,or_false] at hb
  rcases hb with rfl | rfl | rfl | rfl | rfl
  ·exact ⟨_,hz,fun v q=>by cases q⟩
  ·exact ⟨_,hTI,fun v q=>by cases q⟩
  ·exact ⟨_,hTO,fun v q=>by cases q⟩
  ·exact ⟨o1,e1,fun v q=>by rw[d1] at q; cases q⟩
  ·exact ⟨o2,e2,fun v q=>by rw[d2] at q; cases q⟩
 keep:=fun i h h' st k=>by
  obtain ⟨hz,hTI,⟨a,b',hTO⟩,h1,h2⟩:=st
  exact ⟨k z (by simp) _ hz,k TI (by simp) _ hTI,⟨a,b',k TO (by simp) _ hTO⟩,h1.at fun o e=>k i1 (by simp) o e,h2.at fun o e=>k i2 (by simp) o e⟩
 item:=by
  intro X hP hw hK hc i pins s σ H E I hf st hg
  subst hP hw hK
  obtain ⟨xs,ys,x,y,q1,q2,hx,hy⟩:=hg
  obtain ⟨its1,rv1,p1,hz1⟩:=I.list q1
  obtain ⟨its2,rv2,p2,hz2⟩:=I.list q2
  obtain ⟨u1,hu1,ru1⟩:=rv1.get hx
  obtain ⟨u2,hu2,ru2⟩:=rv2.get hy
  obtain ⟨hz,hTI,⟨a,b',hTO⟩,h1,h2⟩:=st
  refine wpAny_pyNext_zip_item D hz hTI hTO h1 h2 p1.isList p2.isList (x:=u1) (y:=u2) (by simpa using hu1) (by simpa using hu2) fun h' a1 a2 a3 a4 a5 a6 hk=>?_
  have new:cA X.prog X.w (upd H s.heap.objs.size (.tup [x,y])) h' s.heap.objs.size (.tup [x,y]):=⟨by show 2<=sizeLine; decide,[u1,u2],.cons ru1 (.cons ru2 .nil),_,a5,rfl,_,rfl⟩
  have I1:Inv X pins σ (upd H s.heap.objs.size (.tup [x,y])) { s with heap:=h' }:=I.JT (t':=s.toks) (ch:=[z,TO,i1,i2]) (fun b hb=>hf b (by
   simp only[List.mem_cons,List.not_mem_nil,or_false] at hb |-
   rcases hb with r | r | r | r <;> simp [r]))
   (fun b o hb e=>hk b o (fun q=>hb (by simp [q])) (fun q=>hb (by simp [q])) (fun q=>hb (by simp [q])) (fun q=>hb (by simp [q])) e) (Nat.le_refl _) new
  have hTI':IsPair h' TI (.ref i1) (.ref i2):=hk _ _ D.TIz D.TITO D.TIi1 D.TIi2 hTI
  have hsz:∀ b,b∈[z,TI,TO,i1,i2]->b≠s.heap.objs.size:=fun b hb=>by
   obtain ⟨_,_,hlt,_⟩:=hf b hb
   have lt:∃ o,s.heap.get? b=some o:=by
    simp only[List.mem_cons,List.not_mem_nil,or_false] at hb
    rcases hb with rfl | rfl | rfl | rfl | rfl
    ·exact ⟨_,hz⟩
    ·exact ⟨_,hTI⟩
    ·exact ⟨_,hTO⟩
    ·obtain ⟨o,e,_⟩:=h1; exact ⟨o,e⟩
    ·obtain ⟨o,e,_⟩:=h2; exact ⟨o,e⟩
   obtain ⟨o,e⟩:=lt
   exact Nat.ne_of_lt (Heap.lt_size e)
  refine ⟨_,rfl,wpAny_letOwnedTupleGo_zip (s:={ s with heap:=h' }) a1 fun h'' z2 sb=>?_⟩
  have fz:=hf z (by simp)
  have I2:Inv X pins σ (upd H s.heap.objs.size (.tup [x,y])) { s with heap:=h'' }:=Inv.turned (s:={ s with heap:=h' }) (it:=z) (t':=s.toks) I1 (fun b o hb e=>(sb.2 b hb).trans e) (by rw[aH (hsz z (by simp))]; exact fz.1) fz.2.1 fz.2.2.2.1 fz.2.2.2.2.1 fz.2.2.2.2.2
  refine ⟨.ref s.heap.objs.size,_,I2,rfl,⟨_,x,y,rfl,I.fresh,rfl,fun xs' q=>by rw[I.qy q q1]; exact hx,fun ys' q=>by rw[I.qy q q2]; exact hy⟩,
   ⟨z2,(sb.2 _ D.TIz).trans hTI',⟨_,_,(sb.2 _ D.TOz).trans a2⟩,a3.extBut sb.extBut D.i1z,a4.extBut sb.extBut D.i2z⟩,fun b hb=>by rw[aH (hsz b hb)]; exact (hf b hb).1⟩
 done:=by
  intro X hP hw hK hc i pins s σ H E I hf st hg
  subst hP hw hK
  obtain ⟨xs,ys,q1,q2,hx⟩:=hg
  obtain ⟨its1,rv1,p1,hz1⟩:=I.list q1
  obtain ⟨its2,rv2,p2,hz2⟩:=I.list q2
  obtain ⟨hz,hTI,⟨a,b',hTO⟩,h1,h2⟩:=st
  have hend:its1.toArray[i]?=none\/its2.toArray[i]?=none:=by
   rcases hx with r | r
   ·exact .inl (by simpa using rv1.none_of r)
   ·exact .inr (by simpa using rv2.none_of r)
  refine wpAny_pyNext_zip_end (I.ok.hd hc) D hz hTI hTO h1 h2 p1.isList p2.isList hend fun h' hk=>⟨rfl,?_⟩
  exact I.JV (t':=s.toks) (ch:=[z,TO,i1,i2]) (fun b hb=>hf b (by
   simp only[List.mem_cons,List.not_mem_nil,or_false] at hb |-
   rcases hb with r | r | r | r <;> simp [r]))
   (fun b o hb e=>hk b o (fun q=>hb (by simp [q])) (fun q=>hb (by simp [q])) (fun q=>hb (by simp [q])) (fun q=>hb (by simp [q])) e)
 self:=fun _ _ _ _ _ st h=>wpAny_pyIter_zip st.1 h
section
variable {X:Cx}
end
def Ite (K:PySem.W.Frag) (a:Addr):It:=
 ⟨fun i H=>∃ xs x,SqL K H a xs/\xs[i]?=some x,
  fun i H v H'=>∃ p x,v=.ref p/\H p=none/\H'=upd H p (.tup [.int (i:Nat),x])/\∀ xs,SqL K H a xs->xs[i]?=some x,
  fun i H=>∃ xs,SqL K H a xs/\xs[i]?=none⟩
theorem GZ {P:Program}{w:World}{K:PySem.W.Frag}{es:List Expr}{kk:Nat}{tpos:Pos}{e it l:Addr}(hne:e≠it) :
  Turn P w K (.Tuple es kk tpos) (Ite K l) [e,it] e (fun i h=>(∃ old,IsEnum h e it ((i:Nat):Int) old)/\h.IsListIter it l i) where
 mem:=by simp
 obj:=fun i h st b hb=>by
  obtain ⟨⟨old,he⟩,⟨o1,e1,c1,d1⟩⟩:=st
  simp only[List.mem_cons,List.not_mem_nil,or_false] at hb
  rcases hb with rfl | rfl
  ·exact ⟨_,he,fun v q=>by cases q⟩
  ·exact ⟨o1,e1,fun v q=>by rw[d1] at q; cases q⟩
 keep:=fun i h h' st k=>by
  obtain ⟨⟨old,he⟩,h1⟩:=st
  exact ⟨⟨old,k e (by simp) _ he⟩,h1.at fun o q=>k it (by simp) o q⟩
 item:=by
  intro X hP hw hK hc i pins s σ H E I hf st hg
  subst hP hw hK
  obtain ⟨xs,x,q1,hx⟩:=hg
  obtain ⟨its1,rv1,p1,hz1⟩:=I.list q1
  obtain ⟨u1,hu1,ru1⟩:=rv1.get hx
  obtain ⟨⟨old,he⟩,h1⟩:=st
  refine wpAny_pyNext_enum_item he h1 p1.isList (x:=u1) (by simpa using hu1) hne fun h' a1 a2 a3 a4 hk=>?_
  have new:cA X.prog X.w (upd H s.heap.objs.size (.tup [.int (i:Nat),x])) h' s.heap.objs.size (.tup [.int (i:Nat),x]):=⟨by show 2<=sizeLine; decide,[.int (i:Nat) s.toks,u1],.cons ⟨_,rfl⟩ (.cons ru1 .nil),_,a3,rfl,_,rfl⟩
  have I1:Inv X pins σ (upd H s.heap.objs.size (.tup [.int (i:Nat),x])) { s with heap:=h',toks:=s.toks + 1 }:=I.JT (ch:=[e,it]) hf
   (fun b o hb q=>hk b o (fun z=>hb (by simp [z])) (fun z=>hb (by simp [z])) q) (Nat.le_refl _) new
  have hsz:∀ b,b∈[e,it]->b≠s.heap.objs.size:=fun b hb=>by
   have lt:∃ o,s.heap.get? b=some o:=by
    simp only[List.mem_cons,List.not_mem_nil,or_false] at hb
    rcases hb with rfl | rfl
    ·exact ⟨_,he⟩
    ·obtain ⟨o,q,_⟩:=h1; exact ⟨o,q⟩
   obtain ⟨o,q⟩:=lt
   exact Nat.ne_of_lt (Heap.lt_size q)
  refine ⟨_,rfl,wpAny_letOwnedTupleGo_enum (s:={ s with heap:=h',toks:=s.toks + 1 }) a1 fun h'' z2 sb=>?_⟩
  have fz:=hf e (by simp)
  have I2:Inv X pins σ (upd H s.heap.objs.size (.tup [.int (i:Nat),x])) { s with heap:=h'',toks:=s.toks + 1 }:=Inv.turned (s:={ s with heap:=h',toks:=s.toks + 1 }) (it:=e) I1 (fun b o hb q=>(sb.2 b hb).trans q) (by rw[aH (hsz e (by simp))]; exact fz.1) fz.2.1 fz.2.2.2.1 fz.2.2.2.2.1 fz.2.2.2.2.2
  refine ⟨.ref s.heap.objs.size,_,I2,rfl,⟨_,x,rfl,I.fresh,rfl,fun xs' q=>by rw[I.qy q q1]; exact hx⟩,
   ⟨⟨_,by simpa using z2⟩,a2.extBut sb.extBut hne.symm⟩,fun b hb=>by rw[aH (hsz b hb)]; exact (hf b hb).1⟩
 done:=by
  intro X hP hw hK hc i pins s σ H E I hf st hg
  subst hP hw hK
  obtain ⟨xs,q1,hx⟩:=hg
  obtain ⟨its1,rv1,p1,hz1⟩:=I.list q1
  obtain ⟨⟨old,he⟩,h1⟩:=st
  refine wpAny_pyNext_enum_end (I.ok.hd hc) he h1 p1.isList (by simpa using rv1.none_of hx) fun h' hk=>⟨rfl,?_⟩
  exact I.JV (t':=s.toks) (ch:=[e,it]) hf (fun b o hb q=>hk b o (fun z=>hb (by simp [z])) q)
 self:=fun _ _ _ _ _ st h=>by
  obtain ⟨⟨old,he⟩,_⟩:=st
  exact wpAny_pyIter_enum he h
def xH (K:PySem.W.Frag) (ta:TA):TI:=fun σ H R=>ta σ H fun vs H1=>∃ a,vs=[.ref a]/\(∃ xs,SqL K H1 a xs)/\R (Ite K a) H1
section
variable {X:Cx}
theorem RK {es:List Expr}{kk:Nat}{tpos:Pos}{a:Expr}{ta:TA}{p pos:Pos}(hg:Gl X "enumerate") (hm:X.mg "enumerate" = none) (ha:PA X [a] ta) (hs:starEach [a] X.env=[(false,eval a X.env)]:=by rfl) :
  PI X (.Tuple es kk tpos) (.Call (.Name "enumerate" p) [a] [] pos) (xH X.K ta):=by
 intro pins s σ H R I h
 refine Call_ (iT I hg hm PyProof.Rows.Boot.«enumerate» (PyProof.Rows.callWith_type1 (thA (ha pos pins s σ H _ I h) fun us s1 vs H1 I1 r1 q1=>?_) hs rfl))
 obtain ⟨l1,e,⟨xs,g1⟩,q⟩:=q1
 subst e
 cases r1 with
 | cons r rr=>
  cases rr
  cases r
  obtain ⟨its1,rv1,p1,hz1⟩:=I1.list g1
  refine call_enumerate_list p1.isList fun h' b1 b2 b3 hk=>?_
  refine wpAny_pyIter_enum (s:={ s1 with heap:=h' }) b1 ?_
  have I2:Inv X pins σ H1 { s1 with heap:=h' }:=I1.kept (t':=s1.toks) hk
  refine ⟨_,_,_,_,H1,rfl,I2,GZ (Nat.ne_of_gt (Nat.lt_succ_self _)),⟨⟨_,b1⟩,b2⟩,fun b hb=>?_,q⟩
  have hle:s1.heap.objs.size<=b:=by
   simp only[List.mem_cons,List.not_mem_nil,or_false] at hb
   rcases hb with rfl | rfl <;> simp
  exact I1.Ob hle (I1.hok.fresh hle)
end
theorem Vals.bools:∀ {bs:List Bool}{us:List Value},Vals (bs.map V.bl) us->us=bs.map Value.bool
 | [],_,.nil=>rfl
 | _ :: _,_,.cons r t=>by rw[Vals.bools t,(show _=Value.bool _ from r)]; rfl
section
variable {X:Cx}
theorem Jz (bs:List Bool):((List.range bs.length).all fun i=>(bs[i]?).getD true)=bs.all id:=by
 rw[Bool.eq_iff_iff,List.all_eq_true,List.all_eq_true]
 constructor
 ·intro h b hb
  obtain ⟨i,hi,rfl⟩:=List.getElem_of_mem hb
  have:=h i (List.mem_range.mpr hi)
  rw[List.getElem?_eq_getElem hi] at this
  exact this
 ·intro h i hi
  have hi':=List.mem_range.mp hi
  rw[List.getElem?_eq_getElem hi']
  exact h _ (List.getElem_mem hi')
theorem Jy (bs:List Bool):((List.range bs.length).any fun i=>(bs[i]?).getD false)=bs.any id:=by
 rw[Bool.eq_iff_iff,List.any_eq_true,List.any_eq_true]
 constructor
 ·intro ⟨i,hi,h⟩
  have hi':=List.mem_range.mp hi
  rw[List.getElem?_eq_getElem hi'] at h
  exact ⟨_,List.getElem_mem hi',h⟩
 ·intro ⟨b,hb,h⟩
  obtain ⟨i,hi,rfl⟩:=List.getElem_of_mem hb
  exact ⟨i,List.mem_range.mpr hi,by rw[List.getElem?_eq_getElem hi]; exact h⟩
def K5 (K:PySem.W.Frag) (f:List Bool->Bool):List V->Hp->VK->Prop:=fun xs H Q=>∃ p bs,xs=[.ref p]/\SqL K H p (List.map V.bl bs)/\Q (.bl (f bs)) H
theorem O2 (hc:X.calm=true):dj X (.builtin "all") (K5 X.K fun bs=>bs.all id):=by
 intro pins s σ H xs us Q I r h
 obtain ⟨p,bs,rfl,hq,q⟩:=h
 cases r with
 | cons r rr=>
  cases rr
  cases r
  obtain ⟨its,rv,pl,hz⟩:=I.list hq
  have e:=rv.bools
  subst e
  have lt:p < s.heap.objs.size:=by obtain ⟨_,e,_⟩:=pl.isList; exact Heap.lt_size e
  refine call_all_walk (wpAny_pyIter_list pl.isList ?_)
  refine ⟨s.heap.objs.size,[s.heap.objs.size,p],[s.heap.objs.size],(bs.map Value.bool).toArray.size,_,_,fun i=>(bs[i]?).getD true,rfl,Walks.list (A:=X.A.in1) (I.ok.hd hc) _ p (Nat.ne_of_lt lt) _,
   ⟨⟨_,Heap.get?_push_size _ rfl,rfl,rfl⟩,pl.isList.push _⟩,fun i v s' Q' E' hP hQ=>?_,fun h' tk hk=>?_⟩
  ·have e:(bs.map Value.bool)[i]?=some v:=by simpa using hP
   rw[List.getElem?_map] at e
   cases z:bs[i]? with
   | none=>rw[z] at e; cases e
   | some b=>
    rw[z] at e
    have e':Value.bool b=v:=Option.some.inj e
    subst e'
    dsimp only at hQ
    rw[z] at hQ
    exact wpAny_truthy_bool hQ
  ·rw[List.size_toArray,List.length_map,Jz]
   refine ⟨.bl _,H,I.kept fun b o e=>hk b o (fun hm=>?_) (Heap.get?_push_of_some _ e),rfl,q⟩
   rw[List.mem_singleton.mp hm] at e
   exact Nat.lt_irrefl _ (Heap.lt_size e)
theorem O1 (hc:X.calm=true):dj X (.builtin "any") (K5 X.K fun bs=>bs.any id):=by
 intro pins s σ H xs us Q I r h
 obtain ⟨p,bs,rfl,hq,q⟩:=h
 cases r with
 | cons r rr=>
  cases rr
  cases r
  obtain ⟨its,rv,pl,hz⟩:=I.list hq
  have e:=rv.bools
  subst e
  have lt:p < s.heap.objs.size:=by obtain ⟨_,e,_⟩:=pl.isList; exact Heap.lt_size e
  refine call_any_walk (wpAny_pyIter_list pl.isList ?_)
  refine ⟨s.heap.objs.size,[s.heap.objs.size,p],[s.heap.objs.size],(bs.map Value.bool).toArray.size,_,_,fun i=>(bs[i]?).getD false,rfl,Walks.list (A:=X.A.in1) (I.ok.hd hc) _ p (Nat.ne_of_lt lt) _,
   ⟨⟨_,Heap.get?_push_size _ rfl,rfl,rfl⟩,pl.isList.push _⟩,fun i v s' Q' E' hP hQ=>?_,fun h' tk hk=>?_⟩
  ·have e:(bs.map Value.bool)[i]?=some v:=by simpa using hP
   rw[List.getElem?_map] at e
   cases z:bs[i]? with
   | none=>rw[z] at e; cases e
   | some b=>
    rw[z] at e
    have e':Value.bool b=v:=Option.some.inj e
    subst e'
    dsimp only at hQ
    rw[z] at hQ
    exact wpAny_truthy_bool hQ
  ·rw[List.size_toArray,List.length_map,Jy]
   refine ⟨.bl _,H,I.kept fun b o e=>hk b o (fun hm=>?_) (Heap.get?_push_of_some _ e),rfl,q⟩
   rw[List.mem_singleton.mp hm] at e
   exact Nat.lt_irrefl _ (Heap.lt_size e)
def Zf (K:PySem.W.Frag):List V->Hp->VK->Prop:=fun xs H Q=>∃ x T t b,xs=[x,.ty T]/\n6 K H x t/\PySem.W.kitOne K t (.type T)=some b/\Q (.bl b) H
theorem OJ:dj X (.builtin "isinstance") (Zf X.K):=by
 intro pins s σ H xs us Q I r h
 obtain ⟨x,T,t,b,rfl,ty,e,q⟩:=h
 cases r with
 | cons r rr=>
  cases rr with
  | cons r' rr=>
   cases rr
   cases (show _=Value.type T from r')
   exact Jb I r ty e fun tk=>⟨.bl b,H,I.tok tk,rfl,q⟩
def Yi (K:PySem.W.Frag):List V->Hp->VK->Prop:=fun xs H Q=>∃ x p Ts t b,xs=[x,.ref p]/\SqT K H p (List.map V.ty Ts)/\n6 K H x t/\PySem.W.kitAny K t (Ts.map Value.type)=some b/\Q (.bl b) H
theorem Vals.types:∀ {bs:List String}{us:List Value},Vals (bs.map V.ty) us->us=bs.map Value.type
 | [],_,.nil=>rfl
 | _ :: _,_,.cons r t=>by rw[Vals.types t,(show _=Value.type _ from r)]; rfl
theorem Zk {x:V}{u t:Value}{pins:List (Addr×Obj)}{σ:St}{H:Hp}{s:Shared}(I:Inv X pins σ H s) (rx:RelV x u) (ty:n6 X.K H x t) (hl:∀ a C dx fs,H a=some (.ins C dx fs)->x≠.ref a) :
  ∃ Hh:Heap->Prop,PySem.W.KitX X.K u t Hh/\Hh s.heap/\u≠.builtin "__main__.__loader__#opaque" := by
 cases ty with
 | non=>cases (show u=Value.none from rx); exact ⟨_,PySem.W.kitx_none,True.intro,fun z=>nomatch z⟩
 | bl y=>cases (show u=Value.bool y from rx); exact ⟨_,PySem.W.kitx_bool,True.intro,fun z=>nomatch z⟩
 | int i=>obtain ⟨t,q⟩:=(show ∃ t,u=Value.int i t from rx); cases q; exact ⟨_,PySem.W.kitx_int,True.intro,fun z=>nomatch z⟩
 | str y=>obtain ⟨t,q⟩:=(show ∃ t,u=Value.str y t from rx); cases q; exact ⟨_,PySem.W.kitx_str,True.intro,fun z=>nomatch z⟩
 | flt y=>obtain ⟨t,q⟩:=(show ∃ t,u=Value.float y t from rx); cases q; exact ⟨_,PySem.W.kitx_float,True.intro,fun z=>nomatch z⟩
 | @lst a xs ea=>
  cases (show u=Value.ref a from rx)
  obtain ⟨_,_,n,_,h1⟩:=(show cA X.prog X.w H s.heap a (.lst xs) from I.hok a _ ea)
  exact ⟨_,PySem.W.kitx_list,⟨_,h1,rfl⟩,fun z=>nomatch z⟩
 | @frz a ob xs ea=>
  cases (show u=Value.ref a from rx)
  obtain ⟨_,_,_,n,_,h1⟩:=(show cA X.prog X.w H s.heap a (.frz ob (.lst xs)) from I.hok a _ ea)
  exact ⟨_,PySem.W.kitx_list,⟨_,h1,rfl⟩,fun z=>nomatch z⟩
 | @tup a xs ea=>
  cases (show u=Value.ref a from rx)
  obtain ⟨_,_,_,p⟩:=(show cA X.prog X.w H s.heap a (.tup xs) from I.hok a _ ea)
  obtain ⟨o,h1,h2,_⟩:=p
  exact ⟨_,PySem.W.kitx_tuple,⟨o,h1,h2⟩,fun z=>nomatch z⟩
 | @dK a kvs ea=>
  cases (show u=Value.ref a from rx)
  obtain ⟨_,_,vs,_,p⟩:=(show cA X.prog X.w H s.heap a (.dK kvs) from I.hok a _ ea)
  obtain ⟨o,es,ep,h1,h2,_⟩:=p
  exact ⟨_,PySem.W.kitx_dict,⟨o,h1,h2.1⟩,fun z=>nomatch z⟩
 | @dT a kvs ea=>
  cases (show u=Value.ref a from rx)
  obtain ⟨_,_,xs,_,o,es,ep,h1,h2,_⟩:=(show cA X.prog X.w H s.heap a (.dT kvs) from I.hok a _ ea)
  exact ⟨_,PySem.W.kitx_dict,⟨o,h1,h2.1⟩,fun z=>nomatch z⟩
 | @ins a C dx fs ea cl ha hn htk hm=>exact absurd rfl (hl a C dx fs ea)
theorem Jr:dj X (.builtin "isinstance") (fun xs H Q=>Yi X.K xs H Q/\∀ a C dx fs,H a=some (.ins C dx fs)->xs.head?≠some (.ref a)):=by
 intro pins s σ H xs us Q I r h
 obtain ⟨⟨x,p,Ts,t,b,rfl,hq,ty,e,q⟩,hl⟩:=h
 cases r with
 | cons r rr=>
  cases rr with
  | cons r' rr=>
   cases rr
   cases r'
   obtain ⟨Hh,Z,hh,ne⟩:=Zk I r ty fun a C dx fs z w'=>hl a C dx fs z (by rw[w']; rfl)
   obtain ⟨its,rv,⟨o,ho,hcl,n,hd⟩,hz⟩:=I.tuple hq
   have ei:=rv.types
   subst ei
   obtain ⟨c0,d0,dt0,sl0⟩:=o
   cases (show c0=Value.type "tuple" from hcl)
   cases (show dt0=Data.seq (List.map Value.type Ts).toArray n from hd)
   exact PySem.W.kia_tup Z I.kIn hh ho e ne fun tk=>⟨.bl b,H,I.tok tk,rfl,q⟩
end
inductive Tn (H:Hp):V->String->Prop where
 | non:Tn H .non "NoneType"
 | bl (b:Bool):Tn H (.bl b) "bool"
 | int (i:Int):Tn H (.int i) "int"
 | str (x:Str):Tn H (.str x) "str"
 | lst {a:Addr} {xs:List V} (e:H a=some (.lst xs)):Tn H (.ref a) "list"
 | tup {a:Addr} {xs:List V} (e:H a=some (.tup xs)):Tn H (.ref a) "tuple"
theorem Tn.ty {K:PySem.W.Frag}{H:Hp}{x:V}{t:String}(h:Tn H x t):n6 K H x (.type t):=by
 cases h with
 | non=>exact .non
 | bl b=>exact .bl b
 | int i=>exact .int i
 | str x=>exact .str x
 | lst e=>exact .lst e
 | tup e=>exact .tup e
def gq (t T:String):Bool:=t == T || (t == "bool" && T == "int")
def dM:List String:=["NoneType", "bool", "int", "str", "list", "tuple"]
theorem Gi (K:PySem.W.Frag):∀ t∈dM,∀ T∈dM,PySem.W.kitOne K (.type t) (.type T)=some (gq t T):=by
 intro t ht T hT
 simp only[dM,List.mem_cons,List.not_mem_nil,or_false] at ht hT
 rcases ht with rfl | rfl | rfl | rfl | rfl | rfl <;> rcases hT with rfl | rfl | rfl | rfl | rfl | rfl <;> first | rfl | kernel_rfl
theorem Tn.known {H:Hp}{x:V}{t:String}(h:Tn H x t):t∈dM:=by cases h <;> decide
section
variable {X:Cx}
theorem Ju:dj X (.builtin "isinstance") (fun xs H Q=>∃ x T t,xs=[x,.ty T]/\Tn H x t/\T∈dM/\Q (.bl (gq t T)) H):=by
 intro pins s σ H xs us Q I r h
 obtain ⟨x,T,t,rfl,ty,hT,q⟩:=h
 exact OJ pins s σ H _ us Q I r ⟨x,T,_,_,rfl,ty.ty,Gi X.K t ty.known T hT,q⟩
theorem Gj (K:PySem.W.Frag) {t:String}(ht:t∈dM):∀ Ts:List String,(∀ T∈Ts,T∈dM)->PySem.W.kitAny K (.type t) (Ts.map Value.type)=some (Ts.any fun T=>gq t T)
 | [],_=>rfl
 | T :: r,h=>by
  have e:=Gi K t ht T (h T List.mem_cons_self)
  have ih:=Gj K ht r fun T' h'=>h T' (List.mem_cons_of_mem _ h')
  show (match PySem.W.kitOne K (.type t) (.type T) with | some true=>some true | some false=>PySem.W.kitAny K (.type t) (r.map Value.type) | none=>none)=_
  rw[e,List.any_cons]
  cases gq t T with
  | true=>rfl
  | false=>exact ih
theorem Jt:dj X (.builtin "isinstance") (fun xs H Q=>∃ x p Ts t,xs=[x,.ref p]/\H p=some (.tup (List.map V.ty Ts))/\Tn H x t/\(∀ T∈Ts,T∈dM)/\Q (.bl (Ts.any fun T=>gq t T)) H):=by
 intro pins s σ H xs us Q I r h
 obtain ⟨x,p,Ts,t,rfl,hp,ty,hT,q⟩:=h
 refine Jr pins s σ H _ us Q I r ⟨⟨x,p,Ts,_,_,rfl,SqT.of hp,ty.ty,Gj X.K ty.known Ts hT,q⟩,fun a C dx fs e z=>?_⟩
 have z':x=.ref a:=by simpa using z
 subst z'
 cases ty with
 | lst e'=>rw[e] at e'; cases e'
 | tup e'=>rw[e] at e'; cases e'
def Vg (i j:Int):Prop:=0 < j/\j < 2 ^ 70
theorem Aq:OpR X (binaryOp .FloorDiv) (rI Vg fun i j=>.int (i / j)):=opI fun i j _ _ _ _ _ hc q=>by
 have h1:(0:Int) < j:=hc.1
 have h2:j < 2 ^ 70:=hc.2
 refine floordiv_int ω (by rw[Int.fdiv_eq_ediv_of_nonneg i ω]; exact q) (.inl (PyProof.noPylong_of_log2 ?_))
 have h3:j.natAbs≠0:=by omega
 have h4:j.natAbs.log2 < 70:=(Nat.log2_lt h3).mpr ω
 omega
end
def cN (p:Addr) (H H':Hp):Prop:=∀ b o,b≠p->H b=some o->H' b=some o
theorem cN.trans {p:Addr}{H H1 H2:Hp}(a:cN p H H1) (b:cN p H1 H2):cN p H H2:=fun c o n h=>b c o n (a c o n h)
theorem cN.upd {p:Addr}{H:Hp}{o:HO}:cN p H (upd H p o):=fun b u n h=>by rw[aH n]; exact h
theorem Same.x {p:Addr}{H H':Hp}(h:Same H H'):cN p H H':=fun b o _ q=>h b o q
theorem aA {H:Hp}{p:Addr}{o:HO}(h:H p=none):Same H (upd H p o):=fun b u q=>by rw[aH (aF q h)]; exact q
structure Cal (P:Program) (w:World) (K:PySem.W.Frag) (mg:Str->Option Value) (base:Heap) (x:Str) (k:Nat) (ps:List Str) (sp:Sp):Prop where
 ex:∃ (f:Addr) (fd:FuncData),dO P w K mg base CX0 k f fd ps sp/\Binds K fd ps []/\PySem.W.keepIn K (.ref f)=true/\mg x=some (.ref f)
section
variable {X:Cx}{k:Nat}{ps:List Str}{sp:Sp}{x:Str}{p pos:Pos}{e:Expr}{es:List Expr}{t:TA}
theorem Wq (C:Cal X.prog X.w X.K X.mg X.base x k ps sp) (hr:iV k X.A) (hg:Gl X x) (ha:PA X (e :: es) t) (hdb:(x == ("__debug__" : Str))=false:=by decide)
  (he:starEach (e :: es) X.env=(false,eval e X.env) :: starEach es X.env:=by rfl) (hpl:(backTo pos (starEach es X.env)).any (·.1)=false:=by rfl):PE X (.Call (.Name x p) (e :: es) [] pos) (mG sp [] E0 t):=by
 obtain ⟨f,fd,F,b,kp,hm⟩:=C.ex
 exact RW F hr hg hm kp b .nil Yv ha hdb he hpl
end
structure X8 (K:PySem.W.Frag) (mg:Str->Option Value) (x:Str) (st:Stmt) (ps:List Str) (f:Addr) (fd:FuncData):Prop where
 fn:Fun K x x st f fd
 bd:Binds K fd ps []
 nm:mg x=some (.ref f)
theorem X8.cal {P:Program}{w:World}{K:PySem.W.Frag}{mg:Str->Option Value}{base:Heap}{x:Str}{st:Stmt}{ps:List Str}{f:Addr}{fd:FuncData}{k:Nat}{sp:Sp}(D:X8 K mg x st ps f fd) (F:dO P w K mg base CX0 k f fd ps sp):Cal P w K mg base x k ps sp:=
 ⟨f,fd,F,D.bd,D.fn.kp,D.nm⟩
theorem gh {k:Nat}(h:k<=40):(2:Int) ^ k<=1099511627776:=by
 have h1:(2:Nat) ^ k<=2 ^ 40:=Nat.pow_le_pow_right δ h
 have h2:((2 ^ k:Nat):Int)=(2:Int) ^ k:=by simp
 have h3:(2:Nat) ^ 40=1099511627776:=by decide
 omega
theorem KJ (i j:Int):Hj (.int i) (.int j)=true:=rfl
theorem Qy (i j:Bool):Hj (.bl i) (.bl j)=true:=rfl
theorem KD (i j:Str):Hj (.str i) (.str j)=true:=rfl
theorem KH:Hj .non .non=true:=rfl
theorem Vf {α:Type}(a:α) (r:List α):atI (a :: r) 0=some a:=fD (j:=0) rfl
theorem Y4 {α:Type}(a b:α) (r:List α):atI (a :: b :: r) 1=some b:=fD (j:=1) rfl
theorem Y0 {α:Type}(a b c:α) (r:List α):atI (a :: b :: c :: r) 2=some c:=fD (j:=2) rfl
theorem Nq:ixN 3 0=some 0/\ixN 3 1=some 1/\ixN 3 2=some 2:=⟨δ,δ,δ⟩
theorem aP {n:Nat}(h:n<=1000000):n<=sizeLine:=Nat.le_trans h δ
def ixq (o:Option HO) (i:Int) (H:Hp) (Q:VK):Prop:=match o with
 | some (.lst xs)=>∃ v,atI xs i=some v/\Q v H
 | some (.tup xs)=>∃ v,atI xs i=some v/\Q v H
 | _=>False
def stq (o:Option HO) (p:Addr) (k:Int) (v:V) (H:Hp) (Q:Hp->Prop):Prop:=match o with
 | some (.lst xs)=>∃ j,ixN xs.length k=some j/\Q (upd H p (.lst (xs.set j v)))
 | _=>False
def lnq (o:Option HO) (H:Hp) (Q:VK):Prop:=match o with
 | some (.lst ys)=>Q (.int ys.length) H
 | some (.tup ys)=>Q (.int ys.length) H
 | _=>False
def Dl:R2:=fun x y H Q=>match x,y with
 | .ref p,.int i=>ixq (H p) i H Q
 | _,_=>False
def K4:V->V->V->Hp->(Hp->Prop)->Prop:=fun o i v H Q=>match o,i with
 | .ref p,.int k=>stq (H p) p k v H Q
 | _,_=>False
def La:List V->Hp->VK->Prop:=fun xs H Q=>match xs with
 | [.ref p]=>lnq (H p) H Q
 | _=>False
theorem Lb (p:Addr) (i:Int) (H:Hp) (Q:VK):Dl (.ref p) (.int i) H Q=ixq (H p) i H Q:=rfl
theorem Hw (p:Addr) (k:Int) (v:V) (H:Hp) (Q:Hp->Prop):K4 (.ref p) (.int k) v H Q=stq (H p) p k v H Q:=rfl
theorem Hx (p:Addr) (H:Hp) (Q:VK):La [.ref p] H Q=lnq (H p) H Q:=rfl
theorem Qs (xs:List V) (p:Addr) (k:Int) (v:V) (H:Hp) (Q:Hp->Prop):stq (some (.lst xs)) p k v H Q=∃ j,ixN xs.length k=some j/\Q (upd H p (.lst (xs.set j v))):=rfl
theorem Tc (xs:List V) (H:Hp) (Q:VK):lnq (some (.lst xs)) H Q=Q (.int xs.length) H:=rfl
theorem S9 (xs:List V) (H:Hp) (Q:VK):lnq (some (.tup xs)) H Q=Q (.int xs.length) H:=rfl
section
variable {X:Cx}
theorem cQ:IxR X Dl:=by
 intro value slice pins s σ H x y v u Q I rx ry h hs
 unfold Dl at h
 split at h
 ·rename_i p i
  unfold ixq at h
  split at h
  ·rename_i xs e
   obtain ⟨z,hz,q⟩:=h
   exact Gk value slice pins s σ H _ _ v u Q I rx ry ⟨p,xs,i,z,rfl,rfl,SqL.of e,hz,q⟩ hs
  ·rename_i xs e
   obtain ⟨z,hz,q⟩:=h
   exact Xj value slice pins s σ H _ _ v u Q I rx ry ⟨p,xs,i,z,rfl,rfl,SqT.of e,hz,q⟩ hs
  ·exact h.elim
 ·exact h.elim
theorem Fw:PL X K4:=by
 intro pins s σ H o i v ov iv u Q I ro ri rv h
 unfold K4 at h
 split at h
 ·rename_i p k
  unfold stq at h
  split at h
  ·rename_i xs e
   obtain ⟨j,hj,q⟩:=h
   exact set_list pins s σ H _ _ v ov iv u Q I ro ri rv ⟨p,xs,k,j,rfl,rfl,e,hj,q⟩
  ·exact h.elim
 ·exact h.elim
theorem eV:dj X (.builtin "len") La:=by
 intro pins s σ H xs us Q I r h
 unfold La at h
 split at h
 ·rename_i p
  unfold lnq at h
  split at h
  ·rename_i ys e
   exact jj pins s σ H _ us Q I r ⟨p,ys,rfl,.inl (SqL.of e),h⟩
  ·rename_i ys e
   exact jj pins s σ H _ us Q I r ⟨p,ys,rfl,.inr (SqT.of e),h⟩
  ·exact h.elim
 ·exact h.elim
end
def Li:List V->Hp->VK->Prop:=fun xs H Q=>match xs with
 | [.int i]=>Q (.int i) H
 | [.bl k]=>Q (.int (if k then 1 else 0)) H
 | _=>False
theorem QM (k:Bool) (H:Hp) (Q:VK):Li [.bl k] H Q=Q (.int (if k then 1 else 0)) H:=rfl
theorem oU {X:Cx}:dj X (.type "int") Li:=by
 intro pins s σ H xs us Q I r h
 unfold Li at h
 split at h
 ·exact xQ pins s σ H _ us Q I r (.inl ⟨_,rfl,h⟩)
 ·exact xQ pins s σ H _ us Q I r (.inr ⟨_,rfl,h⟩)
 ·exact h.elim
theorem aM {t u:TS}{D:Ends}{σ:St}{H:Hp}(h:∀ k,k=u D->t { D with nx:=k } σ H):CT t u D σ H:=h _ rfl
theorem iY {wi:TI}{g:TG}{tb:TS}{D:Ends}{σ:St}{H:Hp}(h:∀ R:It->Hp->Prop,R=(fun J H1=>∃ W:Nat->Nat->St->Hp->Prop,(∃ m,W 0 m σ H1)/\∀ i m σ H,W i m σ H ->
  (J.stop i H/\D.nx σ H)\/(J.go i H/\∃ N:St->Hp->Prop,(∀ σ' H',N σ' H'->∃ m',m' < m/\W (i + 1) m' σ' H')/\∀ x H',J.yld i H x H'->g x σ H' fun σ2 H2=>tb { D with nx:=N,ct:=N,bk:=D.nx } σ2 H2))->wi σ H R):Qp wi g tb D σ H:=h _ rfl
theorem vD {lo:Int}{n:Nat}{g:TG}{tb:TS}{D:Ends}{σ:St}{H:Hp}{R:It->Hp->Prop}(hR:R=(fun J H1=>∃ W:Nat->Nat->St->Hp->Prop,(∃ m,W 0 m σ H1)/\∀ i m σ H,W i m σ H ->
  (J.stop i H/\D.nx σ H)\/(J.go i H/\∃ N:St->Hp->Prop,(∀ σ' H',N σ' H'->∃ m',m' < m/\W (i + 1) m' σ' H')/\∀ x H',J.yld i H x H'->g x σ H' fun σ2 H2=>tb { D with nx:=N,ct:=N,bk:=D.nx } σ2 H2)))
  (Pv:Nat->St->Hp->Prop) (h0:Pv 0 σ H) (hs:∀ i σ H,i < n->Pv i σ H->g (.int (lo + i)) σ H fun σ2 H2=>tb { D with nx:=Pv (i + 1),ct:=Pv (i + 1),bk:=D.nx } σ2 H2) (hd:∀ σ H,Pv n σ H->D.nx σ H):R (Itr lo n) H:=by
 subst hR
 exact Ji Pv h0 hs hd
theorem Bu {K:PySem.W.Frag}{a:Addr}{xs:List V}{g:TG}{tb:TS}{D:Ends}{σ:St}{H:Hp}{R:It->Hp->Prop}(hR:R=(fun J H1=>∃ W:Nat->Nat->St->Hp->Prop,(∃ m,W 0 m σ H1)/\∀ i m σ H,W i m σ H ->
  (J.stop i H/\D.nx σ H)\/(J.go i H/\∃ N:St->Hp->Prop,(∀ σ' H',N σ' H'->∃ m',m' < m/\W (i + 1) m' σ' H')/\∀ x H',J.yld i H x H'->g x σ H' fun σ2 H2=>tb { D with nx:=N,ct:=N,bk:=D.nx } σ2 H2)))
  (Pv:Nat->St->Hp->Prop) (h0:Pv 0 σ H) (hl:∀ i σ H,i<=xs.length->Pv i σ H->SqL K H a xs) (hs:∀ i x σ H,xs[i]?=some x->Pv i σ H->g x σ H fun σ2 H2=>tb { D with nx:=Pv (i + 1),ct:=Pv (i + 1),bk:=D.nx } σ2 H2) (hd:∀ σ H,Pv xs.length σ H->D.nx σ H):R (Itl K a) H:=by
 subst hR
 exact Oc Pv h0 hl hs hd
def CG (mp:List (Option Nat)) (g:TG) (tc:TT) (te:TE) (σ:St) (Q:VK) (J:It) (H1:Hp):Prop:=∃ W:Nat->Nat->List V->St->Hp->Prop,(∃ m,W 0 m [] (lW mp σ) H1)/\∀ i m acc τ H2,W i m acc τ H2 ->
  (J.stop i H2/\∀ d,H2 d=none->Q (.ref d) (upd H2 d (.lst acc))) \/
  (J.go i H2/\acc.length < sizeLine/\∃ N:List V->St->Hp->Prop,(∀ acc' τ' H',N acc' τ' H'->∃ m',m' < m/\W (i + 1) m' acc' τ' H')/\∀ x H3,J.yld i H2 x H3->g x τ H3 fun τ1 H4=>tc τ1 H4 fun b H5=>
   if b=true then te τ1 H5 fun v H6=>N (acc ++ [v]) τ1 H6 else N acc τ1 H5)
theorem iU {mp:List (Option Nat)}{wi:TI}{g:TG}{tc:TT}{te:TE}{σ:St}{H:Hp}{Q:VK}(h:∀ R:It->Hp->Prop,R=CG mp g tc te σ Q->wi σ H R):wH mp wi g tc te σ H Q:=h _ rfl
theorem qN {J:It}{mp:List (Option Nat)}{g:TG}{tc:TT}{te:TE}{σ:St}{H:Hp}{Q:VK}{R:It->Hp->Prop}(hR:R=CG mp g tc te σ Q) (n:Nat) (hz:n<=sizeLine) (Pv:Nat->List V->St->Hp->Prop) (h0:Pv 0 [] (lW mp σ) H)
  (hl:∀ i acc τ H,Pv i acc τ H->acc.length<=i) (hgo:∀ i acc τ H,i < n->Pv i acc τ H->J.go i H) (hst:∀ acc τ H,Pv n acc τ H->J.stop n H)
  (hs:∀ i acc τ H x H3,i < n->Pv i acc τ H->J.yld i H x H3->g x τ H3 fun τ1 H4=>tc τ1 H4 fun b H5=>if b=true then te τ1 H5 fun v H6=>Pv (i + 1) (acc ++ [v]) τ1 H6 else Pv (i + 1) acc τ1 H5)
  (hd:∀ acc τ H d,Pv n acc τ H->H d=none->Q (.ref d) (upd H d (.lst acc))):R J H:=by
 subst hR
 refine ⟨fun i m acc τ H2=>m=n - i/\i<=n/\Pv i acc τ H2,⟨_,rfl,Nat.zero_le _,h0⟩,?_⟩
 rintro i m acc τ H2 ⟨rfl,hi,p⟩
 have q3:=hl i acc τ H2 p
 by_cases hlt:i < n
 ·exact .inr ⟨hgo i acc τ H2 hlt p,ω,Pv (i + 1),fun acc' τ' H' q=>⟨_,ω,rfl,hlt,q⟩,fun x H3 y=>hs i acc τ H2 x H3 hlt p y⟩
 ·have e:i=n:=by omega
  subst e
  exact .inl ⟨hst acc τ H2 p,fun d hd'=>hd acc τ H2 d p hd'⟩
structure Nm (N:List Str) (sc:Scope) (i:Nat) (x:Str):Prop where
 hN:N[i]?=some x
 hv:Loc sc x
 hd:(x == ("__debug__" : Str))=false
 hcd:(x == ("__classdict__" : Str))=false
def YC (N:List Str) (sc:Scope) (i:Nat) (x:Str):Bool:=decide (N[i]?=some x) && (decide (sc.names.lookup x=some .local) || decide (sc.names.lookup x=some .cell)) && !(x == ("__debug__" : Str)) && !(x == ("__classdict__" : Str))
theorem Nm.of {N:List Str}{sc:Scope}{i:Nat}{x:Str}(h:YC N sc i x=true):Nm N sc i x:=by
 unfold YC at h
 rw[Bool.and_eq_true,Bool.and_eq_true,Bool.and_eq_true,Bool.or_eq_true] at h
 obtain ⟨⟨⟨h1,h2⟩,h3⟩,h4⟩:=h
 exact ⟨of_decide_eq_true h1,h2.elim (fun z=>.inl (of_decide_eq_true z)) (fun z=>.inr (of_decide_eq_true z)),by simpa using h3,by simpa using h4⟩
structure Bn (x:Str):Prop where
 hn:x ≠ "__name__"
 hd:(x == ("__debug__" : Str))=false
section
variable {X:Cx}{i:Nat}{x:Str}{pos pos' p:Pos}{e:Expr}{es:List Expr}{te:TE}{t:TA}{k:Nat}{ps:List Str}{sp:Sp}{id T:String}{r:List V->Hp->VK->Prop}
theorem pn (n:Nm X.N X.env.scope i x):PE X (.Name x pos) (JZ i):=LK n.hN (n.hv.elim .inl fun z=>.inr (.inl z)) n.hd n.hcd
theorem Yk (n:Nm X.N X.env.scope i x) (hN:X.N.Nodup) (he:PE X e te) (hs:swapsWith e (some (.Name x pos')) pos.line X.env=pure false:=by rfl) (hf:X.fn x=true\/X.env.scope.names.lookup x=some .local:=by exact .inl rfl) :
  PS X (.Assign [.Name x pos'] e pos) (sW te (ju i)):=V9 hN n.hN n.hv he hs hf
theorem Ym (n:Nm X.N X.env.scope i x) (hN:X.N.Nodup) (hf:X.fn x=true\/X.env.scope.names.lookup x=some .local:=by exact .inl rfl):PG X (.Name x pos) (ju i):=FZ hN n.hN n.hv hf
theorem Yr (C:Cal X.prog X.w X.K X.mg X.base x k ps sp) (hr:iV k X.A) (hg:Gl X x) (hdb:Bn x) (ha:PA X (e :: es) t)
  (he:starEach (e :: es) X.env=(false,eval e X.env) :: starEach es X.env:=by rfl) (hpl:(backTo pos (starEach es X.env)).any (·.1)=false:=by rfl):PE X (.Call (.Name x p) (e :: es) [] pos) (mG sp [] E0 t):=
 Wq C hr hg ha hdb.hd he hpl
theorem Ys (hc:dj X (.builtin id) r) (hg:Gl X x) (hm:X.mg x=none) (hv:bootBuiltins x=some (.builtin id)) (b:Bn x) (ha:PA X (e :: es) t)
  (he:starEach (e :: es) X.env=(false,eval e X.env) :: starEach es X.env:=by rfl) (hpl:(backTo pos (starEach es X.env)).any (·.1)=false:=by rfl):PE X (.Call (.Name x p) (e :: es) [] pos) (tCB r t):=Mg hc hg hm hv ha b.hn b.hd he hpl
theorem Yq (hc:dj X (.type T) r) (hg:Gl X x) (hm:X.mg x=none) (hv:bootBuiltins x=some (.type T)) (b:Bn x) (ha:PA X (e :: es) t)
  (he:starEach (e :: es) X.env=(false,eval e X.env) :: starEach es X.env:=by rfl) (hpl:(backTo pos (starEach es X.env)).any (·.1)=false:=by rfl):PE X (.Call (.Name x p) (e :: es) [] pos) (tCB r t):=HS hc hg hm hv ha b.hn b.hd he hpl
theorem Yt (n:String) (hg:Gl X x) (hm:X.mg x=none) (hv:bootBuiltins x=some (.type n)) (b:Bn x):PE X (.Name x pos) (tC (.ty n)):=RX hg hm hv rfl b.hn b.hd
end
theorem jT:Bn "len" := ⟨ψ,ψ⟩
theorem O5:Bn "abs" := ⟨ψ,ψ⟩
theorem Eu:Bn "min" := ⟨ψ,ψ⟩
theorem O4:Bn "max" := ⟨ψ,ψ⟩
theorem XJ:Bn "all" := ⟨ψ,ψ⟩
theorem XH:Bn "any" := ⟨ψ,ψ⟩
theorem bN:Bn "isinstance" := ⟨ψ,ψ⟩
theorem zp:Bn "int" := ⟨ψ,ψ⟩
theorem XF:Bn "sum" := ⟨ψ,ψ⟩
theorem tZ:Bn "list" := ⟨ψ,ψ⟩
theorem vK:Bn "tuple" := ⟨ψ,ψ⟩
theorem Et:Bn "str" := ⟨ψ,ψ⟩
theorem zu:Bn "bool" := ⟨ψ,ψ⟩
theorem JB:Bn "sorted" := ⟨ψ,ψ⟩
theorem GC:Bn "repr" := ⟨ψ,ψ⟩
def tyO:Option HO->Option String
 | some (.lst _)=>some "list"
 | some (.tup _)=>some "tuple"
 | _=>none
def tyN (x:V) (H:Hp):Option String:=match x with
 | .non=>some "NoneType"
 | .bl _=>some "bool"
 | .int _=>some "int"
 | .str _=>some "str"
 | .ref a=>tyO (H a)
 | _=>none
theorem Tn.of {x:V}{H:Hp}{t:String}(h:tyN x H=some t):Tn H x t:=by
 cases x with
 | non=>cases h; exact .non
 | bl b=>cases h; exact .bl b
 | int i=>cases h; exact .int i
 | str s=>cases h; exact .str s
 | ref a=>
  have h':tyO (H a)=some t:=h
  cases e:H a with
  | none=>rw[e] at h'; cases h'
  | some o=>
   rw[e] at h'
   cases o with
   | lst xs=>cases h'; exact .lst e
   | tup xs=>cases h'; exact .tup e
   | _=>cases h'
 | _=>cases h
def Lh:List V->Hp->VK->Prop:=fun xs H Q=>match xs with
 | [x,.ty T]=>∃ t,tyN x H=some t/\dM.contains T=true/\Q (.bl (gq t T)) H
 | _=>False
def i2q (o:Option HO) (x:V) (H:Hp) (Q:VK):Prop:=match o with
 | some (.tup [.ty T,.ty U])=>∃ t,tyN x H=some t/\dM.contains T=true/\dM.contains U=true/\Q (.bl (gq t T || gq t U)) H
 | _=>False
def Le:List V->Hp->VK->Prop:=fun xs H Q=>match xs with
 | [x,.ref p]=>i2q (H p) x H Q
 | _=>False
theorem dG {X:Cx}:dj X (.builtin "isinstance") Lh:=by
 intro pins s σ H xs us Q I r h
 unfold Lh at h
 split at h
 ·obtain ⟨t,e,k,q⟩:=h
  exact Ju pins s σ H _ us Q I r ⟨_,_,t,rfl,Tn.of e,by simpa using k,q⟩
 ·exact h.elim
theorem Js {X:Cx}:dj X (.builtin "isinstance") Le:=by
 intro pins s σ H xs us Q I r h
 unfold Le at h
 split at h
 ·rename_i x p
  unfold i2q at h
  split at h
  ·rename_i T U e
   obtain ⟨t,e1,k1,k2,q⟩:=h
   refine Jt pins s σ H _ us Q I r ⟨x,p,[T,U],t,rfl,e,Tn.of e1,fun z hz=>?_,by simpa using q⟩
   rcases List.mem_cons.mp hz with rfl | hz
   ·simpa using k1
   ·obtain rfl:=List.mem_singleton.mp hz
    simpa using k2
  ·exact h.elim
 ·exact h.elim
theorem Lg (x:V) (T:String) (H:Hp) (Q:VK):Lh [x,.ty T] H Q=∃ t,tyN x H=some t/\dM.contains T=true/\Q (.bl (gq t T)) H:=rfl
theorem Ld (x:V) (p:Addr) (H:Hp) (Q:VK):Le [x,.ref p] H Q=i2q (H p) x H Q:=rfl
theorem Xp (x:V) (T U:String) (H:Hp) (Q:VK):i2q (some (.tup [.ty T,.ty U])) x H Q=∃ t,tyN x H=some t/\dM.contains T=true/\dM.contains U=true/\Q (.bl (gq t T || gq t U)) H:=rfl
theorem Te:dM.contains "list" = true:=by decide
theorem Ni:dM.contains "tuple" = true:=by decide
theorem Xi:dM.contains "int" = true:=by decide
theorem Xh:dM.contains "str" = true:=by decide
theorem kc_bool:dM.contains "bool" = true:=by decide
theorem ty_int (i:Int) (H:Hp):tyN (.int i) H=some "int" := rfl
theorem Yc (i:Bool) (H:Hp):tyN (.bl i) H=some "bool" := rfl
theorem ty_str (i:Str) (H:Hp):tyN (.str i) H=some "str" := rfl
theorem Vm (H:Hp):tyN .non H=some "NoneType" := rfl
theorem Vl (p:Addr) (H:Hp):tyN (.ref p) H=tyO (H p):=rfl
theorem Qj (xs:List V):tyO (some (.lst xs))=some "list" := rfl
theorem Qi (xs:List V):tyO (some (.tup xs))=some "tuple" := rfl
theorem sX:gq "NoneType" "str" = false:=by decide
theorem qY:gq "NoneType" "list" = false:=by decide
theorem pI:gq "NoneType" "tuple" = false:=by decide
theorem yw:gq "bool" "bool" = true:=by decide
theorem Af:gq "bool" "str" = false:=by decide
theorem yu:gq "bool" "list" = false:=by decide
theorem v8:gq "bool" "tuple" = false:=by decide
theorem Ae:gq "int" "bool" = false:=by decide
theorem Di:gq "int" "int" = true:=by decide
theorem Dh:gq "int" "str" = false:=by decide
theorem Ad:gq "int" "list" = false:=by decide
theorem yt:gq "int" "tuple" = false:=by decide
theorem Dg:gq "str" "str" = true:=by decide
theorem Ac:gq "str" "list" = false:=by decide
theorem yq:gq "str" "tuple" = false:=by decide
theorem yr:gq "list" "list" = true:=by decide
theorem v7:gq "list" "tuple" = false:=by decide
theorem v5:gq "tuple" "list" = false:=by decide
theorem uD:gq "tuple" "tuple" = true:=by decide
def gtq (o:Option HO) (n:Nat) (t:TGs) (σ:St) (H:Hp) (Q:St->Hp->Prop):Prop:=match o with
 | some (.tup xs)=>xs.length=n/\t xs σ H Q
 | _=>False
def Gn (n:Nat) (t:TGs):TG:=fun v σ H Q=>match v with
 | .ref a=>gtq (H a) n t σ H Q
 | _=>False
theorem Je (n:Nat) (t:TGs) (a:Addr) (σ:St) (H:Hp) (Q:St->Hp->Prop):Gn n t (.ref a) σ H Q=gtq (H a) n t σ H Q:=rfl
theorem T4 (xs:List V) (n:Nat) (t:TGs) (σ:St) (H:Hp) (Q:St->Hp->Prop):gtq (some (.tup xs)) n t σ H Q=(xs.length=n/\t xs σ H Q):=rfl
def qtq (o:Option HO) (f:List Bool->Bool) (H:Hp) (Q:VK):Prop:=match o with
 | some (.lst xs)=>∃ bs,xs=List.map V.bl bs/\Q (.bl (f bs)) H
 | _=>False
def pJ (f:List Bool->Bool):List V->Hp->VK->Prop:=fun xs H Q=>match xs with
 | [.ref p]=>qtq (H p) f H Q
 | _=>False
theorem Aj (f:List Bool->Bool) (p:Addr) (H:Hp) (Q:VK):pJ f [.ref p] H Q=qtq (H p) f H Q:=rfl
theorem Q9 (f:List Bool->Bool) (xs:List V) (H:Hp) (Q:VK):qtq (some (.lst xs)) f H Q=∃ bs,xs=List.map V.bl bs/\Q (.bl (f bs)) H:=rfl
section
variable {X:Cx}{es:List Expr}{k:Nat}{t:TGs}{n:Nat}{pos:Pos}
theorem RM (hc:X.calm=true) (h:PGs X es t) (hn:(assignEach es X.env).length=n:=by rfl) (hst:(assignEach es X.env).findIdx? (·.1)=none:=by rfl):PG X (.Tuple es k pos) (Gn n t):=by
 intro pins s σ H v u Q I r hw
 unfold Gn at hw
 split at hw
 ·rename_i a
  unfold gtq at hw
  split at hw
  ·rename_i xs e
   exact Wh hc h hn hst pins s σ H _ u Q I r ⟨a,xs,rfl,SqT.of e,hw.1,hw.2⟩
  ·exact hw.elim
 ·exact hw.elim
theorem Jw (hc:X.calm=true):dj X (.builtin "all") (pJ fun bs=>bs.all id):=by
 intro pins s σ H xs us Q I r h
 unfold pJ at h
 split at h
 ·rename_i p
  unfold qtq at h
  split at h
  ·rename_i ys e
   obtain ⟨bs,rfl,q⟩:=h
   exact O2 hc pins s σ H _ us Q I r ⟨p,bs,rfl,SqL.of e,q⟩
  ·exact h.elim
 ·exact h.elim
theorem Jv (hc:X.calm=true):dj X (.builtin "any") (pJ fun bs=>bs.any id):=by
 intro pins s σ H xs us Q I r h
 unfold pJ at h
 split at h
 ·rename_i p
  unfold qtq at h
  split at h
  ·rename_i ys e
   obtain ⟨bs,rfl,q⟩:=h
   exact O1 hc pins s σ H _ us Q I r ⟨p,bs,rfl,SqL.of e,q⟩
  ·exact h.elim
 ·exact h.elim
end
def K7:List V->Hp->VK->Prop:=fun xs H Q=>match xs with
 | [.int i,.int j]=>Q (.int (if j < i then j else i)) H
 | _=>False
def K9:List V->Hp->VK->Prop:=fun xs H Q=>match xs with
 | [.int i,.int j]=>Q (.int (if j > i then j else i)) H
 | _=>False
theorem K6 (i j:Int) (H:Hp) (Q:VK):K7 [.int i,.int j] H Q=Q (.int (if j < i then j else i)) H:=rfl
theorem K8 (i j:Int) (H:Hp) (Q:VK):K9 [.int i,.int j] H Q=Q (.int (if j > i then j else i)) H:=rfl
theorem rT {X:Cx}(hc:X.calm=true):dj X (.builtin "min") K7:=by
 intro pins s σ H xs us Q I r h
 unfold K7 at h
 split at h
 ·exact Jp hc pins s σ H _ us Q I r ⟨_,_,rfl,h⟩
 ·exact h.elim
theorem xP {X:Cx}(hc:X.calm=true):dj X (.builtin "max") K9:=by
 intro pins s σ H xs us Q I r h
 unfold K9 at h
 split at h
 ·exact Jq hc pins s σ H _ us Q I r ⟨_,_,rfl,h⟩
 ·exact h.elim
structure QE (X:Cx) (e:Expr) (t:TE):Prop where
 h:PE X e t
structure QT (X:Cx) (e:Expr) (t:TT):Prop where
 h:PT X e t
structure QW (X:Cx) (e:Expr) (t:TT):Prop where
 h:PW X e t
structure QA (X:Cx) (es:List Expr) (t:TA):Prop where
 h:PA X es t
structure QS (X:Cx) (st:Stmt) (t:TS):Prop where
 h:PS X st t
structure QB (X:Cx) (st:List Stmt) (t:TS):Prop where
 h:PSs X st t
structure QG (X:Cx) (e:Expr) (t:TG):Prop where
 h:PG X e t
structure QGs (X:Cx) (es:List Expr) (t:TGs):Prop where
 h:PGs X es t
structure QI (X:Cx) (tg e:Expr) (t:TI):Prop where
 h:PI X tg e t
structure QC (X:Cx) (cs:List Expr) (t:TT):Prop where
 h:PTs X cs t
section
variable {X:Cx}{i:Nat}{x:Str}{pos pos' p tpos:Pos}{e a b c o:Expr}{es rest:List Expr}{te ta tb tc to ti:TE}{tA tB':TT}{t:TA}{k n kk:Nat}{ps:List Str}{sp:Sp}{id T:String}{r:List V->Hp->VK->Prop}{st:Stmt}{sts:List Stmt}{ts us:TS}{tg iter:Expr}{wi:TI}{g:TG}{gs:TGs}
theorem Zi (h:Nm X.N X.env.scope i x):QE X (.Name x pos) (JZ i):=⟨pn h⟩
theorem Zh (i:Nat) {x:Str}{pos:Pos}(hN:X.N[i]?=some x:=by rfl) (hv:Vis X.env.scope x:=by first | exact Or.inl rfl | exact Or.inr (Or.inl rfl) | exact Or.inr (Or.inr rfl)) (hd:(x == ("__debug__" : Str))=false:=by decide)
  (hcd:(x == ("__classdict__" : Str))=false:=by decide):QE X (.Name x pos) (JZ i):=⟨LK hN hv hd hcd⟩
theorem aq {i j pos}:QE X (.Constant (.int i) j pos) (tC (.int i)):=⟨Wo⟩
theorem uH {b j pos}:QE X (.Constant (.bool b) j pos) (tC (.bl b)):=⟨Yu⟩
theorem V2 {j pos}:QE X (.Constant .none j pos) (tC .non):=⟨Wm⟩
theorem iG {x j pos}:QE X (.Constant (.str x) j pos) (tC (.str x)):=⟨Wj⟩
theorem aG {op:Operator}{r:R2} (ho:OpR X (binaryOp op) r) (ha:QE X a ta) (hb:QE X b tb):QE X (.BinOp a op b pos) (tOp r ta tb):=⟨Yo ho ha.h hb.h⟩
theorem pK {op:UnaryOp}{r:V->Hp->VK->Prop}(ho:UnR X (unaryOp op) r) (ha:QE X a ta):QE X (.UnaryOp op a pos) (tUn r ta):=⟨Yn ho ha.h⟩
theorem V1 (ha:QE X a ta):QE X (.UnaryOp .Not a pos) (J2 ta):=⟨Wl ha.h⟩
theorem iH {op:CmpOp}{r:R2} (ho:OpR X (compareOp op) r) (ha:QE X a ta) (hb:QE X b tb) (hm:behindInMarks op b=false):QE X (.Compare a [op] [b] pos) (tOp r ta tb):=⟨RV ho ha.h hb.h hm⟩
theorem aU {op:CmpOp}{r:R2} (ho:OpR X (compareOp op) r) (ha:QE X a ta) (hb:QE X b tb) (hm:behindInMarks op b=false):QT X (.Compare a [op] [b] pos) (su (tOp r ta tb)):=⟨Rq ho ha.h hb.h hm⟩
theorem Lp {op op':CmpOp}{r r':R2} (ho:OpR X (compareOp op) r) (ho':OpR X (compareOp op') r') (ha:QE X a ta) (hb:QE X b tb) (hc:QE X c tc)
  (hm:lastMarks [op,op'] [b,c]=false:=by with_unfolding_all rfl):QE X (.Compare a [op,op'] [b,c] pos) (ur r r' ta tb tc):=⟨Mf ho ho' ha.h hb.h hc.h hm⟩
theorem Lj {op op':CmpOp}{r r':R2} (ho:OpR X (compareOp op) r) (ho':OpR X (compareOp op') r') (ha:QE X a ta) (hb:QE X b tb) (hc:QE X c tc)
  (hm:lastMarks [op,op'] [b,c]=false:=by with_unfolding_all rfl):QT X (.Compare a [op,op'] [b,c] pos) (su (ur r r' ta tb tc)):=⟨Lr ho ho' ha.h hb.h hc.h hm⟩
theorem yD {op}(h:QE X a ta):QE X (.BoolOp op [a] pos) ta:=⟨Wk h.h⟩
theorem uI (ha:QE X a ta) (hb:QE X (.BoolOp .And (b :: rest) pos) tb):QE X (.BoolOp .And (a :: b :: rest) pos) (Kf ta tb):=⟨Wr ha.h hb.h⟩
theorem pN (hc:QT X c tA) (ha:QE X a ta) (hb:QE X b tb):QE X (.IfExp c a b pos) (tIf tA ta tb):=⟨Ma hc.h ha.h hb.h⟩
theorem bI {r:R2} (hr:IxR X r) (ha:QE X a ta) (hb:QE X b tb) (hs:GQ b):QE X (.Subscript a b pos) (tOp r ta tb):=⟨Yp hr ha.h hb.h hs⟩
theorem cZ (h:QA X es t):QE X (.List es pos) (J3 t):=⟨Wn h.h⟩
theorem d8 {x1} (h:QA X es t):QE X (.Tuple es x1 pos) (G6 t):=⟨Wi h.h⟩
theorem au:QA X [] uq:=⟨Ws⟩
theorem ak (ha:QE X e te) (hr:QA X es t) (hs:starEach (e :: es) X.env=(false,eval e X.env) :: starEach es X.env:=by rfl):QA X (e :: es) (iW te t):=⟨R6 ha.h hr.h hs⟩
theorem bD (C:Cal X.prog X.w X.K X.mg X.base x k ps sp) (hr:iV k X.A) (hg:Gl X x) (hdb:Bn x) (ha:QA X (e :: es) t)
  (he:starEach (e :: es) X.env=(false,eval e X.env) :: starEach es X.env:=by rfl) (hpl:(backTo pos (starEach es X.env)).any (·.1)=false:=by rfl):QE X (.Call (.Name x p) (e :: es) [] pos) (mG sp [] E0 t):=⟨Yr C hr hg hdb ha.h he hpl⟩
theorem cG (hc:dj X (.builtin id) r) (hg:Gl X x) (hm:X.mg x=none) (hv:bootBuiltins x=some (.builtin id)) (b:Bn x) (ha:QA X (e :: es) t)
  (he:starEach (e :: es) X.env=(false,eval e X.env) :: starEach es X.env:=by rfl) (hpl:(backTo pos (starEach es X.env)).any (·.1)=false:=by rfl):QE X (.Call (.Name x p) (e :: es) [] pos) (tCB r t):=⟨Ys hc hg hm hv b ha.h he hpl⟩
theorem FW (hc:dj X (.type T) r) (hg:Gl X x) (hm:X.mg x=none) (hv:bootBuiltins x=some (.type T)) (b:Bn x) (ha:QA X (e :: es) t)
  (he:starEach (e :: es) X.env=(false,eval e X.env) :: starEach es X.env:=by rfl) (hpl:(backTo pos (starEach es X.env)).any (·.1)=false:=by rfl):QE X (.Call (.Name x p) (e :: es) [] pos) (tCB r t):=⟨Yq hc hg hm hv b ha.h he hpl⟩
theorem jZ (n:String) (hg:Gl X x) (hm:X.mg x=none) (hv:bootBuiltins x=some (.type n)) (b:Bn x):QE X (.Name x pos) (tC (.ty n)):=⟨Yt n hg hm hv b⟩
theorem VR (ha:QT X a tA):QT X (.UnaryOp .Not a pos) (Qo tA):=⟨V8 ha.h⟩
theorem kZ (h:QE X e te) (he:∀ whole,isTrue e X.env whole=(do let v <- whole; standAt e.pos; holding [v] (truthy v)):=by intro _; rfl):QT X e (tB te):=⟨V6 h.h he⟩
theorem tR (ha:QT X a tA):QW X (.BoolOp .And [a] pos) tA:=⟨Rm ha.h⟩
theorem qZ (ha:QT X a tA):QW X (.BoolOp .Or [a] pos) tA:=⟨V3 ha.h⟩
theorem uG (ha:QT X a tA) (hb:QW X (.BoolOp .And (b :: rest) pos) tB'):QW X (.BoolOp .And (a :: b :: rest) pos) (Qq tA tB'):=⟨V5 ha.h hb.h⟩
theorem uF (ha:QT X a tA) (hb:QW X (.BoolOp .Or (b :: rest) pos) tB'):QW X (.BoolOp .Or (a :: b :: rest) pos) (tOr tA tB'):=⟨Yj ha.h hb.h⟩
theorem v9 (h:QW X e tA):QT X e tA:=⟨h.h.pt⟩
theorem bZ:QB X [] zU:=⟨Rt⟩
theorem aJ (h:QS X st ts):QB X [st] ts:=⟨Rr h.h⟩
theorem aD (h:QS X st ts) (h2:QB X sts us):QB X (st :: sts) (CT ts us):=⟨Ls h.h h2.h⟩
theorem aR (he:QE X e te):QS X (.Return (some e) pos) (zT te):=⟨Wa he.h⟩
theorem cT {c:Expr}{a b:List Stmt}{tc:TT}(hc:QT X c tc) (ha:QB X a ts) (hb:QB X b us):QS X (.If c a b pos) (J5 tc ts us):=⟨Yl hc.h ha.h hb.h⟩
theorem jC (he:QE X e te) (hs:swapsWith e none pos.line X.env=pure false:=by rfl):QS X (.Expr e pos) (J8 te):=⟨Rw he.h hs⟩
theorem bQ (h:Nm X.N X.env.scope i x) (hN:X.N.Nodup) (he:QE X e te) (hs:swapsWith e (some (.Name x pos')) pos.line X.env=pure false:=by rfl) (hf:X.fn x=true\/X.env.scope.names.lookup x=some .local:=by exact .inl rfl) :
  QS X (.Assign [.Name x pos'] e pos) (sW te (ju i)):=⟨Yk h hN he.h hs hf⟩
theorem jN (he:QE X e te) (hg:QG X tg g) (hs:swapsWithSole [tg] e pos.line X.env=pure false:=by rfl) (hw:swappedStores [tg] e X.env=pure none:=by rfl)
  (h1:(assignEach [tg] X.env).map (·.2)=[assign tg X.env]:=by rfl):QS X (.Assign [tg] e pos) (sW te g):=⟨Wf he.h hg.h hs hw h1⟩
theorem Dm {i j:Nat}{x y:Str}{a b:Expr}{ta:TA}{px py pt:Pos}{kt k2 pt2} (hc:X.calm=true) (hN:X.N.Nodup) (hi:X.N[i]?=some x) (hj:X.N[j]?=some y) (hij:i≠j)
  (hx:X.env.scope.names.lookup x=some .local) (hy:X.env.scope.names.lookup y=some .local) (ha:QA X [a,b] ta)
  (hw:swappedStores [.Tuple [.Name x px,.Name y py] kt pt] (.Tuple [a,b] k2 pt2) X.env=pure (some [x,y]))
  (hs:swapsWithSole [.Tuple [.Name x px,.Name y py] kt pt] (.Tuple [a,b] k2 pt2) pos.line X.env=pure false:=by rfl) :
  QS X (.Assign [.Tuple [.Name x px,.Name y py] kt pt] (.Tuple [a,b] k2 pt2) pos) (Vr i j ta):=⟨Wb hc hN hi hj hij hx hy ha.h hw hs⟩
theorem Al {c:Expr}{body:List Stmt}{tc:TT}(hp:PassesOwn (model X.prog X.w) X.A X.env X.xe) (hc:QT X c tc) (hb:QB X body ts):QS X (.While c body [] pos) (xZ tc ts):=⟨Lw hp hc.h hb.h⟩
theorem fH {body:List Stmt}(hp:PassesOwn (model X.prog X.w) X.A X.env X.xe) (hc:X.calm=true) (hi:QI X tg iter wi) (hg:QG X tg g) (hb:QB X body ts)
  (hs:∀ x,foldedSetIterable iter X.env x=pure x:=by intro _; rfl):QS X (.For tg iter body [] pos) (Qp wi g ts):=⟨Wc hp hc hi.h hg.h hb.h hs⟩
theorem cg (h:Nm X.N X.env.scope i x) (hN:X.N.Nodup) (hf:X.fn x=true\/X.env.scope.names.lookup x=some .local:=by exact .inl rfl):QG X (.Name x pos) (ju i):=⟨Ym h hN hf⟩
theorem eZ (i:Nat) (hN:X.N.Nodup) (hi:X.N[i]?=some x) (hx:Loc X.env.scope x) (hf:X.fn x=true\/X.env.scope.names.lookup x=some .local:=by first | exact .inl rfl | exact .inr rfl):QG X (.Name x pos) (ju i):=⟨FZ hN hi hx hf⟩
theorem eY:QGs X [] Xr:=⟨RL⟩
theorem aY (h1:QG X e g) (h2:QGs X es gs) (hs:(assignEach (e :: es) X.env).map (·.2)=assign e X.env :: (assignEach es X.env).map (·.2):=by rfl):QGs X (e :: es) (N6 g gs):=⟨Lz h1.h h2.h hs⟩
theorem gW {n:Nat}(hc:X.calm=true) (h:QGs X es gs) (hn:(assignEach es X.env).length=n:=by rfl) (hst:(assignEach es X.env).findIdx? (·.1)=none:=by rfl):QG X (.Tuple es k pos) (Gn n gs):=⟨RM hc h.h hn hst⟩
theorem Pr (o:Expr) (c j) (p pos:Pos) (env:Env) (v:Value):assign (.Subscript o (.Constant c j p) pos) env v=(do
   let ov <- holding [v] (eval o env)
   let iv <- holding [v,ov] (eval (.Constant c j p) env)
   standAt pos
   holding [v,ov,iv] (setItem ov iv v)
   release [v,ov,iv] []):=rfl
theorem yC {c j}{t:PJ}(ho:QE X o to) (hi:QE X (.Constant c j p) ti) (hs:PL X t):QG X (.Subscript o (.Constant c j p) pos) (T7 to ti t):=⟨LC ho.h hi.h hs (fun v=>Pr o c j p pos X.env v)⟩
theorem eX (hg:Gl X "range") (hm:X.mg "range" = none) (ha:QA X [a] t) (hs:starEach [a] X.env=[(false,eval a X.env)]:=by rfl):QI X tg (.Call (.Name "range" p) [a] [] pos) (lZ t):=⟨HJ hg hm ha.h hs⟩
theorem Hz (hg:Gl X "range") (hm:X.mg "range" = none) (ha:QA X [a,b] t) (hs:starEach [a,b] X.env=[(false,eval a X.env),(false,eval b X.env)]:=by rfl) (hs2:starEach [b] X.env=[(false,eval b X.env)]:=by rfl):QI X tg (.Call (.Name "range" p) [a,b] [] pos) (NK t):=⟨HF hg hm ha.h hs hs2⟩
theorem tU (hg:Gl X "enumerate") (hm:X.mg "enumerate" = none) (ha:QA X [a] t) (hs:starEach [a] X.env=[(false,eval a X.env)]:=by rfl):QI X (.Tuple es kk tpos) (.Call (.Name "enumerate" p) [a] [] pos) (xH X.K t):=⟨RK hg hm ha.h hs⟩
theorem rm:QC X [] Ql:=⟨Rp⟩
theorem uJ (h:QT X c tA):QC X [c] tA:=⟨Ro h.h⟩
theorem jb {NX:List Str}{kX:List (Str×NameKind)}{scope:Scope}{elt:Expr}{ifs:List Expr}{tc:TT}(N:List Str) (mp:List (Option Nat)) (hNX:X.N=NX) (hkX:X.env.scope.names=kX) (S:xX NX kX N mp scope) (hc:X.calm=true)
  (hi:QI X tg iter wi) (hg:∀ cl C s H fp,QG (cu X N scope cl C s H fp) tg g) (ht:∀ cl C s H fp,QC (cu X N scope cl C s H fp) ifs tc) (he:∀ cl C s H fp,QE (cu X N scope cl C s H fp) elt te)
  (hs:∀ x,foldedSetIterable iter X.env x=pure x:=by intro _; rfl):QE X (.ListComp elt [⟨tg,iter,ifs,0⟩] scope pos) (wH mp wi g tc te):=
 ⟨RT N mp hNX hkX S hc hi.h (fun cl C s H fp=>(hg cl C s H fp).h) (fun cl C s H fp=>(ht cl C s H fp).h) (fun cl C s H fp=>(he cl C s H fp).h) hs⟩
end
section
variable {P:Program}{w:World}{K:PySem.W.Frag}{mg:Str->Option Value}{base:Heap}
theorem Fun.okq {x qual:Str}{st:Stmt}{f:Addr}{fd:FuncData}{N ps:List Str}{k:Nat}{sp:Sp}(F:Fun K x qual st f fd) (S:bJ N ps (aj st)) (len:∀ vs H Q E,sp vs H Q E->vs.length=ps.length)
  (hbody:∀ (cdv:Value) (A:Around) (outer:List Env) (s:Shared) (H:Hp) (vs:List V) (Q:VK) (E:XK),iV k (A.deeper (envOfC qual (aj st) s.heap.objs.size f cdv))->sp vs H Q E ->
   ∃ t,QB (En CX0 P w K mg base N qual (aj st) f cdv A outer s H E).nox (bf st) t/\t { nx:=fun _ H'=>Q .non H',rt:=Q } (L2.start N vs) H):dO P w K mg base CX0 (k + 1) f fd ps sp:=
 F.ok S len fun cdv A outer s H vs Q E hr hsp=>by
  obtain ⟨t,h,q⟩:=hbody cdv A outer s H vs Q E hr hsp
  exact ⟨t,h.h,q⟩
end
theorem Dq:∀ (ns:List Int),preSum (fun i=>(ns[i]?).getD 0) ns.length=ns.sum:=by
 have key:∀ (f:Nat->Int) (n:Nat),preSum f (n + 1)=preSum f n + f n:=fun f n=>rfl
 have key2:∀ (n:Nat) (f g:Nat->Int),(∀ i,i < n->f i=g i)->preSum f n=preSum g n:=by
  intro n
  induction n with
  | zero=>intros; rfl
  | succ n ih=>intro f g h; rw[key,key,ih f g fun i hi=>h i (Nat.lt_succ_of_lt hi),h n (Nat.lt_succ_self n)]
 have key3:∀ (n:Nat) (f:Nat->Int),preSum f (n + 1)=f 0 + preSum (fun i=>f (i + 1)) n:=by
  intro n
  induction n with
  | zero=>intro f; show (0:Int) + f 0=f 0 + 0; omega
  | succ n ih=>intro f; rw[key,ih,key]; omega
 intro ns
 induction ns with
 | nil=>rfl
 | cons a r ih=>
  rw[List.length_cons,key3,List.sum_cons,<- ih]
  rfl
def smq (o:Option HO) (H:Hp) (Q:VK):Prop:=match o with
 | some (.lst xs)=>∃ ns:List Int,xs=ns.map V.int/\Q (.int ns.sum) H
 | _=>False
def K1:List V->Hp->VK->Prop:=fun xs H Q=>match xs with
 | [.ref p]=>smq (H p) H Q
 | _=>False
theorem Hv (p:Addr) (H:Hp) (Q:VK):K1 [.ref p] H Q=smq (H p) H Q:=rfl
theorem Qv (xs:List V) (H:Hp) (Q:VK):smq (some (.lst xs)) H Q=∃ ns:List Int,xs=ns.map V.int/\Q (.int ns.sum) H:=rfl
section
variable {X:Cx}
theorem Jm (hc:X.calm=true):dj X (.builtin "sum") K1:=by
 intro pins s σ H xs us Q I r h
 unfold K1 at h
 split at h
 ·rename_i p
  unfold smq at h
  split at h
  ·rename_i ys e
   obtain ⟨ns,rfl,q⟩:=h
   cases r with
   | cons r rr=>
    cases rr
    cases r
    obtain ⟨its,rv,pl,hz⟩:=I.list (SqL.of e)
    have hl:=rv.length
    have lt:p < s.heap.objs.size:=by obtain ⟨_,e,_⟩:=pl.isList; exact Heap.lt_size e
    refine call_sum_walkG (wpAny_pyIter_list pl.isList ?_)
    refine ⟨s.heap.objs.size,[s.heap.objs.size,p],[s.heap.objs.size],its.toArray.size,_,_,fun i=>(ns[i]?).getD 0,rfl,Walks.list (A:=X.A.in1) (I.ok.hd hc) _ p (Nat.ne_of_lt lt) _,
     ⟨⟨_,Heap.get?_push_size _ rfl,rfl,rfl⟩,pl.isList.push _⟩,?_,fun i v hP=>?_,fun h' tk t' hk=>?_⟩
    ·intro b hb
     rw[Heap.size_push]
     simp only[List.mem_cons,List.not_mem_nil,or_false] at hb
     rcases hb with rfl | rfl
     ·exact Nat.lt_succ_self _
     ·exact Nat.lt_succ_of_lt lt
    ·have e1:its[i]?=some v:=by simpa using hP
     have hi:i < its.length:=by
      rcases Nat.lt_or_ge i its.length with z | z
      ·exact z
      ·rw[List.getElem?_eq_none z] at e1; cases e1
     have hi2:i < ns.length:=by rw[<- hl,List.length_map] at hi; exact hi
     obtain ⟨u,hu,ru⟩:=rv.get (i:=i) (x:=.int ns[i]) (by rw[List.getElem?_map,List.getElem?_eq_getElem hi2]; rfl)
     rw[e1] at hu
     cases hu
     obtain ⟨t,rfl⟩:=ru
     exact ⟨t,by show _=Value.int ((ns[i]?).getD 0) t; rw[List.getElem?_eq_getElem hi2]; rfl⟩
    ·have e2:its.toArray.size=ns.length:=by rw[List.size_toArray,<- hl,List.length_map]
     rw[e2,Dq]
     refine ⟨.int _,H,I.kept fun b o e=>hk b o (fun hm=>?_) (Heap.get?_push_of_some _ e),⟨t',rfl⟩,q⟩
     rw[List.mem_singleton.mp hm] at e
     exact Nat.lt_irrefl _ (Heap.lt_size e)
  ·exact h.elim
 ·exact h.elim
def KZ (i:Int) (n:Nat):List V:=(List.range n).map fun k=>V.int (i + (k:Nat))
def J4 (ta:TA):TE:=fun σ H Q=>ta σ H fun vs H1=>∃ i j:Int,vs=[.int i,.int j]/\(-(2 ^ 62)<=i/\i < 2 ^ 62/\-(2 ^ 62)<=j/\j < 2 ^ 62)/\(j - i).toNat<=sizeLine/\∀ p,H1 p=none->Q (.ref p) (upd H1 p (.lst (KZ i (j - i).toNat)))
theorem Fg:∀ {xs:List V}{us:List Value},xs.length=us.length->(∀ (i:Nat) x u,xs[i]?=some x->us[i]?=some u->RelV x u)->Vals xs us
 | [],[],_,_=>.nil
 | [],_ :: _,h,_=>by cases h
 | _ :: _,[],h,_=>by cases h
 | x :: xs,u :: us,h,f=>.cons (f 0 x u rfl rfl) (Fg (by simpa using h) fun i y v h1 h2=>f (i + 1) y v h1 h2)
theorem Xc:sizeLine<=2 ^ 24:=by decide
theorem RN {a b:Expr}{ta:TA}{p p2 pos pos2:Pos}(hc:X.calm=true) (hgl:Gl X "list") (hml:X.mg "list" = none) (hg:Gl X "range") (hm:X.mg "range" = none) (ha:PA X [a,b] ta)
  (hs:starEach [a,b] X.env=[(false,eval a X.env),(false,eval b X.env)]:=by rfl) (hs2:starEach [b] X.env=[(false,eval b X.env)]:=by rfl)
  (he:starEach [.Call (.Name "range" p2) [a,b] [] pos2] X.env=[(false,eval (.Call (.Name "range" p2) [a,b] [] pos2) X.env)]:=by rfl) :
  PE X (.Call (.Name "list" p) [.Call (.Name "range" p2) [a,b] [] pos2] [] pos) (J4 ta):=by
 intro pins s σ H Q I h
 refine wpAny_Call_Name_kw (iT I hgl hml boot_list ?_ δ δ)
 refine PyProof.Rows.callWith_type1 ?_ he rfl
 rw[he]
 show wpAny _ _ (spliced ((false,eval (.Call (.Name "range" p2) [a,b] [] pos2) X.env) :: [])) _ _ s
 refine Calls.spliced_cons ?_
 refine Call_ (iT I hg hm boot_range (PyProof.Rows.callWith_type1 (thA (ha pos2 pins s σ H _ I h) fun us s1 vs H1 I1 r1 q1=>?_) (by rw[hs,hs2]) (by rw[hs2]; rfl)))
 obtain ⟨i,j,e,⟨q1,q2,q3,q4⟩,hz,q⟩:=q1
 subst e
 cases r1 with
 | cons r rr=>
  cases rr with
  | cons r' rr=>
   cases rr
   obtain ⟨t,rfl⟩:=r
   obtain ⟨t',rfl⟩:=r'
   refine call_range_2 (Calls.spliced_nil ?_)
   refine call_list_range (n:=(j - i).toNat) (I1.ok.hd hc) (IsRange.new ..) (small_one q1 q2 q3 q4) (by rw[rangeSize_one]; split <;> omega) (Nat.le_trans hz Xc) fun h' tk acc' c' kp e it=>?_
   have I2:Inv X pins σ H1 { s1 with heap:=s1.heap.push { cls:=.type "range",data:=.fields #[.int i t,.int j t',.int 1 s1.toks] },toks:=s1.toks + 1 }:=I1.kept fun b o e=>Heap.get?_push_of_some _ e
   have hf:H1 (s1.heap.push { cls:=.type "range",data:=.fields #[.int i t,.int j t',.int 1 s1.toks] }).objs.size=none:=I2.hok.fresh (Nat.le_refl _)
   refine ⟨.ref _,_,I2.laid (t':=tk) kp (Nat.le_refl _) (show cA X.prog X.w _ h' _ (.lst (KZ i (j - i).toNat)) from ⟨?_,acc'.toList,c',?_,by simpa using e⟩),rfl,q _ hf⟩
   ·simpa [KZ] using hz
   ·obtain ⟨it1,it2⟩:=it
    refine Fg (by simp [KZ,it1]) fun k x u h1 h2=>?_
    have h2':acc'[k]?=some u:=by simpa using h2
    obtain ⟨t9,rfl⟩:=it2 k u h2'
    unfold KZ at h1
    rw[List.getElem?_map] at h1
    have hk:k < (j - i).toNat:=by
     rcases Nat.lt_or_ge k (j - i).toNat with z | z
     ·exact z
     ·rw[List.getElem?_eq_none (by simpa using z)] at h1; cases h1
    rw[List.getElem?_range hk] at h1
    cases h1
    exact ⟨t9,by rw[Int.mul_one]⟩
theorem Rg {a b:Expr}{ta:TA}{p p2 pos pos2:Pos}(hc:X.calm=true) (hgl:Gl X "list") (hml:X.mg "list" = none) (hg:Gl X "range") (hm:X.mg "range" = none) (ha:QA X [a,b] ta)
  (hs:starEach [a,b] X.env=[(false,eval a X.env),(false,eval b X.env)]:=by rfl) (hs2:starEach [b] X.env=[(false,eval b X.env)]:=by rfl)
  (he:starEach [.Call (.Name "range" p2) [a,b] [] pos2] X.env=[(false,eval (.Call (.Name "range" p2) [a,b] [] pos2) X.env)]:=by rfl) :
  QE X (.Call (.Name "list" p) [.Call (.Name "range" p2) [a,b] [] pos2] [] pos) (J4 ta):=⟨RN hc hgl hml hg hm ha.h hs hs2 he⟩
def adq (a b:Option HO) (H:Hp) (Q:VK):Prop:=match a,b with
 | some (.lst xs),some (.lst zs)=>xs.length + zs.length<=sizeLine/\∀ p,H p=none->Q (.ref p) (upd H p (.lst (xs ++ zs)))
 | _,_=>False
def Ak:R2:=fun x y H Q=>match x,y with
 | .int i,.int j=>Q (.int (i + j)) H
 | .ref p,.ref q=>adq (H p) (H q) H Q
 | _,_=>False
theorem Q8 (i j:Int) (H:Hp) (Q:VK):Ak (.int i) (.int j) H Q=Q (.int (i + j)) H:=rfl
theorem Q7 (p q:Addr) (H:Hp) (Q:VK):Ak (.ref p) (.ref q) H Q=adq (H p) (H q) H Q:=rfl
theorem zF (xs zs:List V) (H:Hp) (Q:VK):adq (some (.lst xs)) (some (.lst zs)) H Q=(xs.length + zs.length<=sizeLine/\∀ p,H p=none->Q (.ref p) (upd H p (.lst (xs ++ zs)))):=rfl
theorem aZ:OpR X (binaryOp .Add) Ak:=by
 intro pins s σ H x y v u Q I rx ry h
 unfold Ak at h
 split at h
 ·exact Wy pins s σ H _ _ v u Q I rx ry ⟨_,_,rfl,rfl,h⟩
 ·rename_i p q
  unfold adq at h
  split at h
  ·rename_i xs zs e1 e2
   exact Wx pins s σ H _ _ v u Q I rx ry ⟨p,q,xs,zs,rfl,rfl,e1,e2,h.1,h.2⟩
  ·exact h.elim
 ·exact h.elim
def eqL:List V->List V->Bool
 | [],[]=>true
 | x :: xs,y :: ys=>eqV x y && eqL xs ys
 | _,_=>false
def SJ (a b:Option HO) (H:Hp) (Q:VK):Prop:=match a,b with
 | some (.lst xs),some (.lst zs)=>xs.all gM=true/\zs.all gM=true/\Q (.bl (!eqL xs zs)) H
 | _,_=>False
def Dk:R2:=fun x y H Q=>match x,y with
 | .ref p,.ref q=>SJ (H p) (H q) H Q
 | x,y=>rNe x y H Q
theorem VF (p q:Addr) (H:Hp) (Q:VK):Dk (.ref p) (.ref q) H Q=SJ (H p) (H q) H Q:=rfl
theorem VG (i j:Int) (H:Hp) (Q:VK):Dk (.int i) (.int j) H Q=rNe (.int i) (.int j) H Q:=rfl
theorem VH (i j:Bool) (H:Hp) (Q:VK):Dk (.bl i) (.bl j) H Q=rNe (.bl i) (.bl j) H Q:=rfl
theorem VD (i j:Str) (H:Hp) (Q:VK):Dk (.str i) (.str j) H Q=rNe (.str i) (.str j) H Q:=rfl
theorem Sy (xs zs:List V) (H:Hp) (Q:VK):SJ (some (.lst xs)) (some (.lst zs)) H Q=(xs.all gM=true/\zs.all gM=true/\Q (.bl (!eqL xs zs)) H):=rfl
theorem Gr:∀ (xs zs:List V),xs.length=zs.length->((List.range xs.length).all fun j=>match xs[j]?,zs[j]? with | some a,some b=>eqV a b | _,_=>true)=eqL xs zs
 | [],[],_=>rfl
 | [],_ :: _,h=>by cases h
 | _ :: _,[],h=>by cases h
 | x :: xs,z :: zs,h=>by
  have ih:=Gr xs zs (by simpa using h)
  rw[List.length_cons,List.range_succ_eq_map,List.all_cons,List.all_map]
  show (eqV x z && _)=(eqV x z && eqL xs zs)
  rw[<- ih]
  rfl
theorem Gq:∀ (xs zs:List V),xs.length≠zs.length->eqL xs zs=false
 | [],[],h=>absurd rfl h
 | [],_ :: _,_=>rfl
 | _ :: _,[],_=>rfl
 | x :: xs,z :: zs,h=>by
  show (eqV x z && eqL xs zs)=false
  rw[Gq xs zs (by simpa using h),Bool.and_false]
theorem lq (hu:X.A.units < cLine):OpR X (compareOp .NotEq) Dk:=by
 intro pins s σ H x y v u Q I rx ry h
 unfold Dk at h
 split at h
 ·rename_i p q
  unfold SJ at h
  split at h
  ·rename_i xs zs e1 e2
   obtain ⟨f1,f2,q⟩:=h
   cases rx
   cases ry
   obtain ⟨its1,r1,pl1,hz1⟩:=I.list (SqL.of e1)
   obtain ⟨its2,r2,pl2,hz2⟩:=I.list (SqL.of e2)
   have l1:=r1.length
   have l2:=r2.length
   by_cases hl:xs.length=zs.length
   ·refine SeqAt.RcNeAt.lists (e:=fun j=>match xs[j]?,zs[j]? with | some a,some b=>eqV a b | _,_=>true) pl1.isList pl2.isList (by simp only[List.size_toArray]; omega) hu (fun j h1 h2=>?_) X.prog X.w X.xe (EP X pins σ Q) ?_
    ·have j1:j < xs.length:=by simp only[List.size_toArray] at h1; omega
     have j2:j < zs.length:=by omega
     have g1:xs[j]?=some xs[j]:=List.getElem?_eq_getElem j1
     have g2:zs[j]?=some zs[j]:=List.getElem?_eq_getElem j2
     obtain ⟨u1,hu1,ru1⟩:=r1.get g1
     obtain ⟨u2,hu2,ru2⟩:=r2.get g2
     have k1:its1.toArray[j]=u1:=by
      have:=List.getElem?_eq_some_iff.mp hu1
      obtain ⟨_,z⟩:=this
      simpa using z
     have k2:its2.toArray[j]=u2:=by
      have:=List.getElem?_eq_some_iff.mp hu2
      obtain ⟨_,z⟩:=this
      simpa using z
     rw[k1,k2,g1,g2]
     exact Oq ru1 ru2 (List.all_eq_true.mp f1 _ (List.getElem_mem j1)) (List.all_eq_true.mp f2 _ (List.getElem_mem j2))
    ·rw[show its1.toArray.size=xs.length by simp only[List.size_toArray]; omega,Gr xs zs hl]
     exact ⟨.bl _,H,I,rfl,q⟩
   ·rw[Gq xs zs hl] at q
    refine SeqAt.RcNeAt.lists_lengths pl1.isList pl2.isList (by simp only[List.size_toArray,bne_iff_ne,ne_eq]; omega) hu X.prog X.w X.xe (EP X pins σ Q) ⟨.bl _,H,I,rfl,q⟩
  ·exact h.elim
 ·exact Yw pins s σ H _ _ v u Q I rx ry h
def inq (neg:Bool) (o:Option HO) (x:V) (H:Hp) (Q:VK):Prop:=match o with
 | some (.lst xs)=>gM x=true/\xs.all gM=true/\Q (.bl (if neg then !inV x xs else inV x xs)) H
 | some (.tup xs)=>gM x=true/\xs.all gM=true/\Q (.bl (if neg then !inV x xs else inV x xs)) H
 | _=>False
def VN (neg:Bool):R2:=fun x y H Q=>match y with
 | .ref p=>inq neg (H p) x H Q
 | _=>False
theorem VJ (neg:Bool) (x:V) (p:Addr) (H:Hp) (Q:VK):VN neg x (.ref p) H Q=inq neg (H p) x H Q:=rfl
theorem YM (neg:Bool) (x:V) (xs:List V) (H:Hp) (Q:VK):inq neg (some (.lst xs)) x H Q=(gM x=true/\xs.all gM=true/\Q (.bl (if neg then !inV x xs else inV x xs)) H):=rfl
theorem Xo {neg:Bool}{o:Option HO}{x:V}{H:Hp}{Q:VK}{p:Addr}{K:PySem.W.Frag}(e:H p=o) (h:inq neg o x H Q):rIn K neg x (.ref p) H Q:=by
 unfold inq at h
 split at h
 ·rename_i xs
  exact ⟨p,xs,rfl,.inl (SqL.of e),h.1,h.2.1,h.2.2⟩
 ·rename_i xs
  exact ⟨p,xs,rfl,.inr (SqT.of e),h.1,h.2.1,h.2.2⟩
 ·exact h.elim
theorem HX:OpR X (compareOp .NotIn) (VN true):=by
 intro pins s σ H x y v u Q I rx ry h
 unfold VN at h
 split at h
 ·exact yH pins s σ H _ _ v u Q I rx ry (Xo rfl h)
 ·exact h.elim
end
theorem Pn {α:Type}(a b:α):atI [a,b] (-1)=some b:=rfl
theorem Pk {α:Type}(a b c:α):atI [a,b,c] (-1)=some c:=rfl
theorem Qe {c:TT}{tb:TS}{D:Ends}{σ:St}{H:Hp}(W:Nat->St->Hp->Prop) (m:Nat) (h0:W m σ H)
  (h:∀ m σ H,W m σ H->c σ H fun b H1=>if b=true then ∃ N:St->Hp->Prop,(∀ σ' H',N σ' H'->∃ m',m' < m/\W m' σ' H')/\tb { D with nx:=N,ct:=N,bk:=D.nx } σ H1 else D.nx σ H1):xZ c tb D σ H:=⟨W,⟨m,h0⟩,h⟩
structure bA (H:Hp) (p:Addr) (B:Int):Prop where
 ex:∃ a b c:Int,H p=some (.lst [.int a,.int b,.int c])/\0<=a/\0<=b/\b < 2147483629/\0<=c/\c<=B
theorem bA.same {H H':Hp}{p:Addr}{B:Int}(h:bA H p B) (s:Same H H'):bA H' p B:=by
 obtain ⟨a,b,c,e,r⟩:=h
 exact ⟨a,b,c,s _ _ e,r⟩
theorem bA.le {H:Hp}{p:Addr}{B B':Int}(h:bA H p B) (l:B<=B'):bA H p B':=by
 obtain ⟨a,b,c,e,r1,r2,r3,r4,r5⟩:=h
 exact ⟨a,b,c,e,r1,r2,r3,r4,ω⟩
theorem bA.ne {H:Hp}{p q:Addr}{B:Int}(h:bA H p B) (n:H q=none):q≠p:=by
 obtain ⟨a,b,c,e,_⟩:=h
 exact (aF e n).symm
theorem bA.net {H:Hp}{p q:Addr}{B:Int}{xs:List V}(h:bA H p B) (n:H q=some (.tup xs)):q≠p:=by
 obtain ⟨a,b,c,e,_⟩:=h
 intro z
 rw[z,e] at n
 cases n
theorem two_pow_pos (k:Nat):(0:Int) < 2 ^ k:=Int.pow_pos δ
def Kv (K:PySem.W.Frag):Sp:=fun vs H Q _=>∃ (a:Addr) (ns:List Int) (k:Int),vs=[.ref a,.int k]/\SqL K H a (ns.map V.int)/\0<=k/\∀ v:Int,Q (.int v) H
def Km (K:PySem.W.Frag):Sp:=fun vs H Q _=>∃ (a:Addr) (ns:List Int) (k:Int),vs=[.ref a,.int k]/\SqL K H a (ns.map V.int)/\0<=k/\k<=100/\∀ p H',H p=none->Same H H'->bA H' p 0->Q (.ref p) H'
def fG (n:Nat):Sp:=fun vs H Q _=>∃ (p:Addr) (m B:Int),vs=[.ref p,.int m]/\bA H p B/\B + (n:Int)<=1000100/\0 < m/\m < 2 ^ 70/\1<=n/\(1000000<=m->2<=n) /\
 ∀ r H',0<=r->r < m->cN p H H'->bA H' p (B + n)->Q (.int r) H'
theorem Wg (c:Int):∃ v:Int,atI [V.int 2147483587,V.int 2147483579,V.int 2147483563,V.int 2147483549,V.int 2147483543,V.int 2147483497,V.int 2147483489] (c % 7)=some (.int v)/\0 < v:=by
 have h1:0<=c % 7:=Int.emod_nonneg _ δ
 have h2:c % 7 < 7:=Int.emod_lt_of_pos _ δ
 generalize c % 7=d at h1 h2
 have h3:d=0\/d=1\/d=2\/d=3\/d=4\/d=5\/d=6:=by omega
 rcases h3 with rfl | rfl | rfl | rfl | rfl | rfl | rfl
 ·exact ⟨_,fD (j:=0) rfl,δ⟩
 ·exact ⟨_,fD (j:=1) rfl,δ⟩
 ·exact ⟨_,fD (j:=2) rfl,δ⟩
 ·exact ⟨_,fD (j:=3) rfl,δ⟩
 ·exact ⟨_,fD (j:=4) rfl,δ⟩
 ·exact ⟨_,fD (j:=5) rfl,δ⟩
 ·exact ⟨_,fD (j:=6) rfl,δ⟩
def wl (w s:Int):Int:=0 - 2 ^ (w - 1).toNat * s
theorem kh {w:Int}(h:1<=w):(2:Int) ^ w.toNat=2 * 2 ^ (w - 1).toNat:=by
 have e:w.toNat=(w - 1).toNat + 1:=by omega
 rw[e,Int.pow_succ]
 omega
theorem jV {w s:Int}(h1:1<=w) (h2:w<=40) (hs:s=0\/s=1):-1099511627776<=wl w s/\wl w s<=0/\0 < wl w s + 2 ^ w.toNat/\wl w s + 2 ^ w.toNat<=1099511627776:=by
 have e:=kh h1
 have p:=two_pow_pos (w - 1).toNat
 have q:=gh (k:=w.toNat) ω
 unfold wl
 rcases hs with rfl | rfl
 ·simp only[Int.mul_zero,Int.sub_zero,Int.zero_add]
  omega
 ·simp only[Int.mul_one]
  omega
def pC:Sp:=fun vs H Q _=>∃ w s,vs=[.int w,.int s]/\1<=w/\w<=40/\(s=0\/s=1)/\Q (.int (wl w s)) H
def Kq:Sp:=fun vs H Q _=>∃ (p:Addr) (B:Int),vs=[.ref p]/\bA H p B/\0<=B/\B<=1000050 /\
 ∀ (w s:Int) (t:Addr) H',1<=w->w<=40->(s=0\/s=1)->cN p H H'->bA H' p (B + 10)->H' t=some (.tup [.int w,.int s])->Q (.ref t) H'
def U8:Sp:=fun vs H Q _=>∃ (p:Addr) (w s o B:Int),vs=[.ref p,.int w,.int s,.int o]/\bA H p B/\0<=B/\B<=1000050/\1<=w/\w<=40/\(s=0\/s=1) /\
 ∀ (r:Int) H',wl w s<=r->r < wl w s + 2 ^ w.toNat->cN p H H'->bA H' p (B + 10)->Q (.int r) H'
theorem XM (X k:Nat):((X:Int) / 2 ^ k) % 2=if X.testBit k then 1 else 0:=by
 have e:(X:Int) / 2 ^ k % 2=((X / 2 ^ k % 2:Nat):Int):=by
  rw[Int.natCast_emod,Int.natCast_ediv,Int.natCast_pow]
  rfl
 rw[e,Nat.testBit_eq_decide_div_mod_eq]
 have:=Nat.mod_lt (X / 2 ^ k) (show 0 < 2 by decide)
 by_cases h:X / 2 ^ k % 2=1
 ·simp [h]
 ·have h0:X / 2 ^ k % 2=0:=by omega
  simp [h0]
theorem UL (y:Int):Builtin.bitAnd y 1=y % 2:=by
 have:=PySem.W.kbt_mask y 1
 simpa using this
theorem yo (X k:Nat):Builtin.bitAnd ((X:Int) / 2 ^ k) 1=if X.testBit k then 1 else 0:=by
 rw[UL,XM]
theorem fZ (a b:Nat):Builtin.bitAnd (a:Int) (b:Int)=((a &&& b:Nat):Int):=by
 unfold Builtin.bitAnd
 simp
def isFree (m k:Nat):Bool:=!m.testBit k && (List.range k).any fun j=>m.testBit j
def frees (n m:Nat):List Nat:=(List.range n).filter (isFree m)
def unset (n b m:Nat):Nat:=((List.range n).filter fun k=>decide (b<=k) && !m.testBit k).length
theorem jR {α:Type}(p q:α->Bool):∀ l:List α,(∀ x∈l,p x=true->q x=true)->(l.filter p).length<=(l.filter q).length
 | [],_=>Nat.le_refl _
 | x :: l,h=>by
  have ih:=jR p q l fun y hy=>h y (List.mem_cons_of_mem _ hy)
  have hx:=h x List.mem_cons_self
  rw[List.filter_cons,List.filter_cons]
  cases hp:p x with
  | true=>
   rw[hx hp]
   simp only[if_true,List.length_cons]
   omega
  | false=>
   simp only[Bool.false_eq_true,if_false]
   split
   ·rw[List.length_cons]; omega
   ·exact ih
theorem Oa {n b m:Nat}(h:∀ k,k < b->m.testBit k=false):(frees n m).length<=unset n b m:=by
 refine jR _ _ _ fun k hk hf=>?_
 unfold isFree at hf
 rw[Bool.and_eq_true,List.any_eq_true] at hf
 obtain ⟨h1,j,hj,hb⟩:=hf
 have hj':=List.mem_range.mp hj
 have:b<=j:=by
  rcases Nat.lt_or_ge j b with z | z
  ·rw[h j z] at hb; cases hb
  ·exact z
 rw[h1,Bool.and_true]
 exact decide_eq_true ω
theorem JN (n b m:Nat):unset n b m<=n - b:=by
 have key:∀ n,((List.range n).filter fun k=>decide (b<=k)).length<=n - b:=by
  intro n
  induction n with
  | zero=>exact Nat.zero_le _
  | succ n ih=>
   rw[List.range_succ,List.filter_append,List.length_append]
   by_cases h:b<=n
   ·simp only[List.filter_cons,h,decide_true,if_true,List.filter_nil,List.length_singleton]
    omega
   ·simp only[List.filter_cons,h,decide_false,Bool.false_eq_true,if_false,List.filter_nil,List.length_nil]
    omega
 refine Nat.le_trans (jR _ _ _ fun k hk hf=>?_) (key n)
 rw[Bool.and_eq_true] at hf
 exact hf.1
theorem um {n b m:Nat}(h:∀ k,b<=k->k < n->m.testBit k=true):unset n b m=0:=by
 unfold unset
 rw[List.length_eq_zero_iff,List.filter_eq_nil_iff]
 intro k hk
 have hk':=List.mem_range.mp hk
 by_cases hb:b<=k
 ·simp [h k hb hk']
 ·simp [hb]
theorem CJ {n b m m' j:Nat}(h:∀ k,m'.testBit k=(m.testBit k && !decide (k=j))):unset n b m'<=unset n b m + 1:=by
 unfold unset
 induction n with
 | zero=>exact Nat.zero_le _
 | succ n ih=>
  have one:∀ (p:Nat->Bool),((List.range (n + 1)).filter p).length=((List.range n).filter p).length + if p n then 1 else 0:=by
   intro p
   rw[List.range_succ,List.filter_append,List.length_append]
   cases hp:p n <;> simp [hp]
  rw[one,one]
  by_cases hj:n=j
  ·subst hj
   have same:((List.range n).filter fun k=>decide (b<=k) && !m'.testBit k).length=((List.range n).filter fun k=>decide (b<=k) && !m.testBit k).length:=by
    have:(List.range n).filter (fun k=>decide (b<=k) && !m'.testBit k)=(List.range n).filter fun k=>decide (b<=k) && !m.testBit k:=by
     refine List.filter_congr fun k hk=>?_
     have hk':=List.mem_range.mp hk
     rw[h k]
     have:decide (k=n)=false:=decide_eq_false ω
     rw[this,Bool.not_false,Bool.and_true]
    rw[this]
   rw[same]
   split <;> split <;> omega
  ·rw[h n]
   have:decide (n=j)=false:=decide_eq_false hj
   rw[this,Bool.not_false,Bool.and_true]
   omega
theorem pq {m j:Nat}(h:m.testBit j=true):∀ k,(m - 2 ^ j).testBit k=(m.testBit k && !decide (k=j)):=by
 intro k
 have p:0 < 2 ^ j:=Nat.pow_pos δ
 have hd:m / 2 ^ j % 2=1:=by
  rw[Nat.testBit_eq_decide_div_mod_eq] at h
  exact of_decide_eq_true h
 -- m=2^j * (2 * a + 1) + lo
 have e0:=Nat.div_add_mod m (2 ^ j)
 have e1:m / 2 ^ j=2 * (m / 2 ^ j / 2) + 1:=by omega
 generalize m / 2 ^ j / 2=a at e1
 have lo:=Nat.mod_lt m p
 generalize m % 2 ^ j=l at e0 lo
 rw[e1] at e0
 have e2:m - 2 ^ j=2 ^ j * (2 * a) + l:=by
  rw[<- e0,Nat.mul_add,Nat.mul_one]
  omega
 rw[e2,<- e0,Nat.testBit_two_pow_mul_add _ lo,Nat.testBit_two_pow_mul_add _ lo]
 by_cases hk:k < j
 ·have:decide (k=j)=false:=decide_eq_false ω
  rw[if_pos hk,if_pos hk,this,Bool.not_false,Bool.and_true]
 ·rw[if_neg hk,if_neg hk]
  by_cases hkj:k=j
  ·subst hkj
   simp
  ·have:decide (k=j)=false:=decide_eq_false hkj
   rw[this,Bool.not_false,Bool.and_true]
   obtain ⟨d,hd⟩:∃ d,k - j=d + 1:=⟨k - j - 1,ω⟩
   rw[hd,Nat.testBit_succ,Nat.testBit_succ]
   congr 1
   omega
theorem UJ (m j:Nat):m &&& 2 ^ j=if m.testBit j then 2 ^ j else 0:=by
 refine Nat.eq_of_testBit_eq fun k=>?_
 rw[Nat.testBit_and,Nat.testBit_two_pow]
 by_cases hk:j=k
 ·subst hk
  cases h:m.testBit j
  ·simp
  ·simp [Nat.testBit_two_pow]
 ·have:decide (j=k)=false:=decide_eq_false hk
  rw[this,Bool.and_false]
  split
  ·rw[Nat.testBit_two_pow,this]
  ·rw[Nat.zero_testBit]
theorem M5 (m j:Nat):∃ m':Nat,(m:Int) - Builtin.bitAnd (m:Int) ((2:Int) ^ j)=(m':Int)/\m'<=m/\∀ k,m'.testBit k=(m.testBit k && !decide (k=j)):=by
 have e:((2:Int) ^ j)=((2 ^ j:Nat):Int):=by simp
 rw[e,fZ,UJ]
 cases h:m.testBit j with
 | true=>
  have hle:2 ^ j<=m:=Nat.ge_two_pow_of_testBit h
  refine ⟨m - 2 ^ j,?_,Nat.sub_le _ _,pq h⟩
  simp only[if_true]
  omega
 | false=>
  refine ⟨m,by simp,Nat.le_refl _,fun k=>?_⟩
  by_cases hk:k=j
  ·subst hk
   simp [h]
  ·simp [hk]
def tL (W b m i:Nat):Prop:=m < 2 ^ W/\(∀ k,k < b->m.testBit k=false)/\unset W b m<=i
theorem tL.frees {W b m i:Nat}(h:tL W b m i):(frees W m).length<=i:=Nat.le_trans (Oa h.2.1) h.2.2
theorem jx (k:Nat):(2:Int) ^ k=((2 ^ k:Nat):Int):=by simp
theorem M8 {n k:Nat}(h:(n:Int) < 2 ^ k):n < 2 ^ k:=by
 rw[jx] at h
 omega
theorem W0 {W T:Nat}(h:T<=W):∃ m:Nat,((2:Int) ^ T - 1) * 2 ^ (W - T)=(m:Int)/\tL W (W - T) m 0:=by
 have p:=Nat.pow_pos (n:=T) (show 0 < 2 by decide)
 have tb:∀ k,((2 ^ T - 1) * 2 ^ (W - T)).testBit k=(decide (W - T<=k) && decide (k - (W - T) < T)):=fun k=>by
  rw[Nat.testBit_mul_two_pow,Nat.testBit_two_pow_sub_one]
 refine ⟨(2 ^ T - 1) * 2 ^ (W - T),?_,?_,fun k hk=>?_,?_⟩
 ·rw[jx,jx,Int.natCast_mul,Int.natCast_sub p]
  rfl
 ·have e:2 ^ W=2 ^ T * 2 ^ (W - T):=by rw[<- Nat.pow_add,Nat.add_sub_cancel' h]
  rw[e]
  exact Nat.mul_lt_mul_of_pos_right ω (Nat.pow_pos δ)
 ·rw[tb,decide_eq_false ω,Bool.false_and]
 ·rw[um fun k h1 h2=>by rw[tb,decide_eq_true h1,decide_eq_true (show k - (W - T) < T by omega)]; rfl]
  exact Nat.le_refl _
theorem W3 (W:Nat):∃ m:Nat,(2:Int) ^ W - 1=(m:Int)/\tL W 0 m 0:=by
 have p:=Nat.pow_pos (n:=W) (show 0 < 2 by decide)
 refine ⟨2 ^ W - 1,?_,ω,fun k hk=>by omega,?_⟩
 ·rw[jx]
  omega
 ·rw[um fun k h1 h2=>by rw[Nat.testBit_two_pow_sub_one,decide_eq_true h2]]
  exact Nat.le_refl _
theorem SQ {W r:Nat}(h:4<=W) (hr:r < 16):∃ m:Nat,(r:Int) * 2 ^ (W - 4)=(m:Int)/\tL W (W - 4) m 4:=by
 refine ⟨r * 2 ^ (W - 4),?_,?_,fun k hk=>?_,?_⟩
 ·rw[jx,Int.natCast_mul]
 ·have e:2 ^ W=16 * 2 ^ (W - 4):=by rw[show 16=2 ^ 4 from rfl,<- Nat.pow_add,Nat.add_sub_cancel' h]
  rw[e]
  exact Nat.mul_lt_mul_of_pos_right hr (Nat.pow_pos δ)
 ·rw[Nat.testBit_mul_two_pow,decide_eq_false ω,Bool.false_and]
 ·have:=JN W (W - 4) (r * 2 ^ (W - 4))
  omega
theorem W2 {W b m i:Nat}(h:tL W b m i) (j:Nat):∃ m':Nat,(m:Int) - Builtin.bitAnd (m:Int) ((2:Int) ^ j)=(m':Int)/\tL W b m' (i + 1):=by
 obtain ⟨m',e,l,tb⟩:=M5 m j
 refine ⟨m',e,Nat.lt_of_le_of_lt l h.1,fun k hk=>?_,?_⟩
 ·rw[tb,h.2.1 k hk,Bool.false_and]
 ·exact Nat.le_trans (CJ tb) (Nat.succ_le_succ h.2.2)
theorem tL.le {W b m i j:Nat}(h:tL W b m i) (l:i<=j):tL W b m j:=⟨h.1,h.2.1,Nat.le_trans h.2.2 l⟩
inductive It1 where
 | one (a:Int)
 | rng (a b:Int)
 | bits (m v:Nat)
def itV:It1->List V
 | .one a=>[.str "is",.int a]
 | .rng a b=>[.str "from",.int a,.int b]
 | .bits m v=>[.str "bits",.int m,.int v]
theorem Tp (a:Int):itV (.one a)=[.str "is",.int a]:=rfl
theorem Tj (a b:Int):itV (.rng a b)=[.str "from",.int a,.int b]:=rfl
theorem Nt (m v:Nat):itV (.bits m v)=[.str "bits",.int m,.int v]:=rfl
structure nM (H:Hp) (t:Addr) (it:It1):Prop where
 h:H t=some (.tup (itV it))
def b7 (w s a:Int):Prop:=wl w s<=a/\a < wl w s + 2 ^ w.toNat
def It1.Ok (w s:Int):It1->Prop
 | .one a=>b7 w s a
 | .rng a b=>b7 w s a/\b7 w s b/\a<=b
 | .bits m v=>m < 2 ^ w.toNat/\v < 2 ^ w.toNat/\(9<=w->(frees w.toNat m).length<=4)
def aQ (w:Int) (n:Int):It1->Bool
 | .one a=>decide (n=a)
 | .rng a b=>decide (a<=n) && decide (n<=b)
 | .bits m v=>decide ((n % 2 ^ w.toNat).toNat &&& m=v)
def Fp:Sp:=fun vs H Q _=>∃ (w n:Int) (t:Addr) (it:It1),vs=[.int w,.ref t,.int n]/\1<=w/\w<=40/\nM H t it/\Q (.bl (aQ w n it)) H
def Kp:Sp:=fun vs H Q _=>∃ (p:Addr) (w B:Int),vs=[.ref p,.int w]/\bA H p B/\0<=B/\B<=1000050/\1<=w/\w<=40 /\
 ∀ (m:Nat) H',m < 2 ^ w.toNat->(9<=w->(frees w.toNat m).length<=4)->cN p H H'->bA H' p (B + 20)->Q (.int m) H'
def Kr:Sp:=fun vs H Q _=>∃ (p:Addr) (w s o B:Int),vs=[.ref p,.int w,.int s,.int o]/\bA H p B/\0<=B/\B<=1000000/\1<=w/\w<=40/\(s=0\/s=1) /\
 ∀ (it:It1) (t:Addr) H',It1.Ok w s it->cN p H H'->bA H' p (B + 60)->nM H' t it->Q (.ref t) H'
def Ks:Sp:=fun vs H Q _=>∃ (w:Int) (m:Nat),vs=[.int w,.int m]/\1<=w/\w<=40/\m < 2 ^ w.toNat /\
 ∀ (p:Addr) H',H' p=some (.lst ((frees w.toNat m).map fun k=>V.int (k:Nat)))->Same H H'->Q (.ref p) H'
theorem V4 (n w:Int):(((n % 2 ^ w.toNat).toNat:Nat):Int)=n % 2 ^ w.toNat:=by
 have:=Int.emod_nonneg n (Int.ne_of_gt (two_pow_pos w.toNat))
 omega
theorem Ds (w n:Int) (m v:Nat):decide (Builtin.bitAnd (n % 2 ^ w.toNat) (m:Int)=(v:Int))=aQ w n (.bits m v):=by
 unfold aQ
 rw[<- V4 n w,fZ]
 simp only[decide_eq_decide,Int.ofNat_inj,Int.toNat_natCast]
section
variable {mp:List (Option Nat)}{g:TG}{tc:TT}{te:TE}{σ:St}{H:Hp}{Q:VK}{R:It->Hp->Prop}{K:PySem.W.Frag}
theorem Eo {lo:Int}{n:Nat}(hR:R=CG mp g tc te σ Q) (hz:n<=sizeLine) (Pv:Nat->List V->St->Hp->Prop) (h0:Pv 0 [] (lW mp σ) H) (hl:∀ i acc τ H,Pv i acc τ H->acc.length<=i)
  (hs:∀ i acc τ H,i < n->Pv i acc τ H->g (.int (lo + i)) τ H fun τ1 H4=>tc τ1 H4 fun b H5=>if b=true then te τ1 H5 fun v H6=>Pv (i + 1) (acc ++ [v]) τ1 H6 else Pv (i + 1) acc τ1 H5)
  (hd:∀ acc τ H d,Pv n acc τ H->H d=none->Q (.ref d) (upd H d (.lst acc))):R (Itr lo n) H:=by
 refine qN hR n hz Pv h0 hl (fun i acc τ H hi _=>hi) (fun acc τ H _=>Nat.le_refl n) (fun i acc τ H x H3 hi p y=>?_) hd
 obtain ⟨rfl,rfl⟩:=y
 exact hs i acc τ _ hi p
theorem rR {a:Addr}{xs:List V}(hR:R=CG mp g tc te σ Q) (hz:xs.length<=sizeLine) (Pv:Nat->List V->St->Hp->Prop) (h0:Pv 0 [] (lW mp σ) H) (hl:∀ i acc τ H,Pv i acc τ H->acc.length<=i)
  (hq:∀ i acc τ H,Pv i acc τ H->SqL K H a xs)
  (hs:∀ i x acc τ H,xs[i]?=some x->Pv i acc τ H->g x τ H fun τ1 H4=>tc τ1 H4 fun b H5=>if b=true then te τ1 H5 fun v H6=>Pv (i + 1) (acc ++ [v]) τ1 H6 else Pv (i + 1) acc τ1 H5)
  (hd:∀ acc τ H d,Pv xs.length acc τ H->H d=none->Q (.ref d) (upd H d (.lst acc))):R (Itl K a) H:=by
 refine qN hR xs.length hz Pv h0 hl (fun i acc τ H hi p=>⟨xs,xs[i],hq i acc τ H p,List.getElem?_eq_getElem hi⟩) (fun acc τ H p=>⟨xs,hq _ acc τ H p,Nat.le_refl _⟩) (fun i acc τ H x H3 hi p y=>?_) hd
 obtain ⟨rfl,hx⟩:=y
 exact hs i x acc τ _ (hx xs (hq i acc τ _ p)) p
theorem XD {a:Addr}{xs:List V}(hR:R=CG mp g tc te σ Q) (hz:xs.length<=sizeLine) (Pv:Nat->List V->St->Hp->Prop) (h0:Pv 0 [] (lW mp σ) H) (hl:∀ i acc τ H,Pv i acc τ H->acc.length<=i)
  (hq:∀ i acc τ H,Pv i acc τ H->SqL K H a xs)
  (hs:∀ (i:Nat) x acc τ H p,xs[i]?=some x->Pv i acc τ H->H p=none->g (.ref p) τ (upd H p (.tup [.int (i:Nat),x])) fun τ1 H4=>tc τ1 H4 fun b H5=>if b=true then te τ1 H5 fun v H6=>Pv (i + 1) (acc ++ [v]) τ1 H6 else Pv (i + 1) acc τ1 H5)
  (hd:∀ acc τ H d,Pv xs.length acc τ H->H d=none->Q (.ref d) (upd H d (.lst acc))):R (Ite K a) H:=by
 refine qN hR xs.length hz Pv h0 hl (fun i acc τ H hi p=>⟨xs,xs[i],hq i acc τ H p,List.getElem?_eq_getElem hi⟩) (fun acc τ H p=>⟨xs,hq _ acc τ H p,List.getElem?_eq_none (Nat.le_refl _)⟩) (fun i acc τ H x H3 hi p y=>?_) hd
 obtain ⟨q,x1,rfl,hq1,rfl,hx⟩:=y
 exact hs i x1 acc τ _ q (hx xs (hq i acc τ _ p)) p hq1
end
def cI (l:List Nat):List V:=l.map fun k=>V.int (k:Nat)
def places (n m:Nat):List Nat:=(List.range n).filter m.testBit
theorem wO (l:List Nat) (k:Nat):cI (l ++ [k])=cI l ++ [.int (k:Nat)]:=by simp [cI]
theorem cH (l:List Nat):(cI l).length=l.length:=by simp [cI]
theorem wQ (l:List Nat):(cI l).all gM=true:=by
 rw[List.all_eq_true]
 intro x hx
 obtain ⟨k,_,rfl⟩:=List.mem_map.mp hx
 rfl
theorem jF (p:Nat->Bool) (i:Nat):(List.range (i + 1)).filter p=(List.range i).filter p ++ if p i then [i] else []:=by
 rw[List.range_succ,List.filter_append]
 congr 1
 cases h:p i <;> simp [h]
theorem kE (p:Nat->Bool) (i:Nat):((List.range i).filter p).length<=i:=by
 have:=List.length_filter_le p (List.range i)
 simpa using this
theorem TV (k:Nat) (l:List Nat):inV (.int (k:Nat)) (cI l)=l.contains k:=by
 unfold inV cI
 rw[List.any_map]
 induction l with
 | nil=>rfl
 | cons a r ih=>
  rw[List.any_cons,List.contains_cons,ih]
  congr 1
  show ((a:Int) == (k:Int))=(k == a)
  rw[Bool.eq_iff_iff,beq_iff_eq,beq_iff_eq]
  omega
theorem Xx (x:V) (xs:List V):eqL (x :: xs) []=false:=rfl
theorem Jh {n m k:Nat}(h:places n m=[]) (hk:k < n):isFree m k=false:=by
 unfold isFree
 rw[Bool.and_eq_false_iff]
 refine .inr ?_
 rw[List.any_eq_false]
 intro j hj
 have hj':=List.mem_range.mp hj
 unfold places at h
 rw[List.filter_eq_nil_iff] at h
 exact h j (List.mem_range.mpr ω)
theorem Jg {n m k a:Nat}{r:List Nat}(h:places n m=a :: r) (hk:k < n):isFree m k=(decide (a < k) && !(a :: r).contains k):=by
 have ha:a∈places n m:=by rw[h]; exact List.mem_cons_self
 have ha2:=(List.mem_filter.mp ha).2
 have mn:∀ j,j < n->m.testBit j=true->a<=j:=by
  intro j hj hb
  have hm:j∈places n m:=List.mem_filter.mpr ⟨List.mem_range.mpr hj,hb⟩
  have pw:(places n m).Pairwise (· < ·):=List.Pairwise.filter _ List.pairwise_lt_range
  rw[h] at pw hm
  rcases List.mem_cons.mp hm with rfl | hm
  ·exact Nat.le_refl _
  ·exact Nat.le_of_lt ((List.pairwise_cons.mp pw).1 j hm)
 have e1:((List.range k).any fun j=>m.testBit j)=decide (a < k):=by
  rw[Bool.eq_iff_iff,List.any_eq_true,decide_eq_true_eq]
  constructor
  ·intro ⟨j,hj,hb⟩
   have hj':=List.mem_range.mp hj
   have:=mn j ω hb
   omega
  ·intro h1
   exact ⟨a,List.mem_range.mpr h1,ha2⟩
 have e2:(a :: r).contains k=m.testBit k:=by
  rw[<- h,Bool.eq_iff_iff,List.contains_iff_mem]
  unfold places
  rw[List.mem_filter]
  exact ⟨fun z=>z.2,fun z=>⟨List.mem_range.mpr hk,z⟩⟩
 unfold isFree
 rw[e1,e2,Bool.and_comm]
theorem N8 {n m k:Nat}(h:k∈frees n m):k < n:=List.mem_range.mp (List.mem_filter.mp h).1
section
variable {X:Cx}{pos:Pos}
def J1 (i j k:Nat) (ta:TA):TS:=fun D σ H=>ta σ H fun vs H1=>∃ u v w,vs=[u,v,w]/\D.nx (((σ.set i (some u)).set j (some v)).set k (some w)) H1
theorem Rv {i j k:Nat}{x y z:Str}{a b c:Expr}{ta:TA}{px py pz pt:Pos}{kt k2 pt2} (hc:X.calm=true) (hN:X.N.Nodup) (hi:X.N[i]?=some x) (hj:X.N[j]?=some y) (hk:X.N[k]?=some z) (hij:i≠j) (hik:i≠k) (hjk:j≠k)
  (hx:X.env.scope.names.lookup x=some .local) (hy:X.env.scope.names.lookup y=some .local) (hz:X.env.scope.names.lookup z=some .local) (ha:PA X [a,b,c] ta)
  (hw:swappedStores [.Tuple [.Name x px,.Name y py,.Name z pz] kt pt] (.Tuple [a,b,c] k2 pt2) X.env=pure (some [x,y,z]))
  (hs:swapsWithSole [.Tuple [.Name x px,.Name y py,.Name z pz] kt pt] (.Tuple [a,b,c] k2 pt2) pos.line X.env=pure false:=by rfl) :
  PS X (.Assign [.Tuple [.Name x px,.Name y py,.Name z pz] kt pt] (.Tuple [a,b,c] k2 pt2) pos) (J1 i j k ta):=by
 intro pins s σ H D I h
 rw[exec_Assign_arm]
 refine wpAny_bind (wpAny_standAt ?_)
 rw[hs]
 refine wpAny_bind (wpAny_pure ?_)
 rw[if_neg δ]
 refine wpAny_bind (Tuple_ (thA (ha _ pins s σ H _ I h) fun us s1 vs H1 I1 r1 q1=>?_))
 obtain ⟨u,v,w,e1,q1⟩:=q1
 subst e1
 obtain ⟨u1,u2,u3,rfl,ru,rv,rw'⟩:∃ u1 u2 u3,us=[u1,u2,u3]/\RelV u u1/\RelV v u2/\RelV w u3:=by
  cases r1 with
  | cons p q=>
   cases q with
   | cons p' q'=>
    cases q' with
    | cons p'' q''=>
     cases q''
     exact ⟨_,_,_,rfl,p,p',p''⟩
 refine wpAny_newObj_type ?_ (by show 3<=sizeLine; decide)
 have I2:Inv X pins σ H1 { s1 with heap:=s1.heap.push { cls:=.type "tuple",data:=.seq [u1,u2,u3].toArray } }:=I1.kept (t':=s1.toks) fun b o e=>Heap.get?_push_of_some _ e
 rw[hw]
 refine wpAny_bind (wpAny_pure ?_)
 show wpAny (model X.prog X.w) X.A (do rule "assign.swapped-stores"; let items <- unpackItems (.ref s1.heap.objs.size) 3 none; assignInOrder [fun v=>bindName X.env z v,fun v=>bindName X.env y v,fun v=>bindName X.env x v] items.reverse; pure Flow.next) _ _ _
 refine wpAny_bind (wpAny_rule (wpAny_bind (unpackItems_tuple (items:=#[u1,u2,u3]) (I.ok.hd hc) (IsTup.new s1.heap _) fun h' hx'=>?_)))
 have I3:=I2.kept (h':=h') (t':=s1.toks) fun b o e=>hx' b o (Nat.ne_of_lt (Heap.lt_size e)) e
 show wpAny _ _ (assignInOrder [fun v=>bindName X.env z v,fun v=>bindName X.env y v,fun v=>bindName X.env x v] [u3,u2,u1] >>= fun _=>pure Flow.next) _ _ _
 refine wpAny_bind (assignInOrder_cons (wpAny_bindName (iw I3 hN hk (.inl hz) rw' (fun s2 I4=>?_) (.inr hz))))
 refine assignInOrder_cons (wpAny_bindName (iw I4 hN hj (.inl hy) rv (fun s3 I5=>?_) (.inr hy)))
 refine assignInOrder_cons (wpAny_bindName (iw I5 hN hi (.inl hx) ru (fun s4 I6=>?_) (.inr hx)))
 refine assignInOrder_nil (wpAny_pure ⟨_,H1,?_,q1⟩)
 have e:((σ.set k (some w)).set j (some v)).set i (some u)=((σ.set i (some u)).set j (some v)).set k (some w):=by
  rw[List.set_comm (some v) (some u) (Ne.symm hij),List.set_comm (some w) (some u) (Ne.symm hik),List.set_comm (some w) (some v) (Ne.symm hjk)]
 rw[<- e]
 exact I6
theorem FT {i j k:Nat}{x y z:Str}{a b c:Expr}{ta:TA}{px py pz pt:Pos}{kt k2 pt2} (hc:X.calm=true) (hN:X.N.Nodup) (hi:X.N[i]?=some x) (hj:X.N[j]?=some y) (hk:X.N[k]?=some z) (hij:i≠j) (hik:i≠k) (hjk:j≠k)
  (hx:X.env.scope.names.lookup x=some .local) (hy:X.env.scope.names.lookup y=some .local) (hz:X.env.scope.names.lookup z=some .local) (ha:QA X [a,b,c] ta)
  (hw:swappedStores [.Tuple [.Name x px,.Name y py,.Name z pz] kt pt] (.Tuple [a,b,c] k2 pt2) X.env=pure (some [x,y,z]))
  (hs:swapsWithSole [.Tuple [.Name x px,.Name y py,.Name z pz] kt pt] (.Tuple [a,b,c] k2 pt2) pos.line X.env=pure false:=by rfl) :
  QS X (.Assign [.Tuple [.Name x px,.Name y py,.Name z pz] kt pt] (.Tuple [a,b,c] k2 pt2) pos) (J1 i j k ta):=⟨Rv hc hN hi hj hk hij hik hjk hx hy hz ha.h hw hs⟩
end
theorem T8 (g:TG) (gs:TGs) (x:V) (xs:List V) (σ:St) (H:Hp) (Q:St->Hp->Prop):N6 g gs (x :: xs) σ H Q=g x σ H fun σ1 H1=>gs xs σ1 H1 Q:=
 propext ⟨fun ⟨_,_,e,h⟩=>by cases e; exact h,fun h=>⟨x,xs,rfl,h⟩⟩
theorem Xq (σ:St) (H:Hp) (Q:St->Hp->Prop):Xr [] σ H Q=Q σ H:=propext ⟨fun h=>h.2,fun h=>⟨rfl,h⟩⟩
theorem Oj {a b:Int}{P:Int->Int->Prop}:(∃ v w,(a=v/\b=w)/\P v w)=P a b:=propext ⟨fun ⟨_,_,⟨h1,h2⟩,h⟩=>h1 ▸ h2 ▸ h,fun h=>⟨a,b,⟨rfl,rfl⟩,h⟩⟩
theorem Ua {a b c:V}{P:V->V->V->Prop}:(∃ u v w,(a=u/\b=v/\c=w)/\P u v w)=P a b c:=propext ⟨fun ⟨_,_,_,⟨h1,h2,h3⟩,h⟩=>h1 ▸ h2 ▸ h3 ▸ h,fun h=>⟨a,b,c,⟨rfl,rfl,rfl⟩,h⟩⟩
theorem CW:((("from" : Str):Str)=("is" : Str))=False:=eq_false ψ
theorem CZ:(("bits" : Str)=("is" : Str))=False:=eq_false ψ
theorem ye:(("bits" : Str)=("from" : Str))=False:=eq_false ψ
theorem CV:(("is" : Str)=("bits" : Str))=False:=eq_false ψ
theorem yd:(("from" : Str)=("bits" : Str))=False:=eq_false ψ
theorem QD {p:Addr}{H H':Hp}(h:cN p H H') (e:H p=none):Same H H':=fun b o hb=>h b o (aF hb e) hb
section
variable {X:Cx}{e o:Expr}{te to:TE}{pos:Pos}
def apq (ob:Option HO) (l:Addr) (y:V) (H:Hp) (Q:VK):Prop:=match ob with
 | some (.lst xs)=>xs.length < sizeLine/\Q .non (upd H l (.lst (xs ++ [y])))
 | _=>False
def isq (ob:Option HO):Prop:=match ob with
 | some (.lst _)=>True
 | _=>False
theorem nT (xs:List V):isq (some (.lst xs))=True:=rfl
theorem qP (xs:List V) (l:Addr) (y:V) (H:Hp) (Q:VK):apq (some (.lst xs)) l y H Q=(xs.length < sizeLine/\Q .non (upd H l (.lst (xs ++ [y])))):=rfl
def X3 (x:V) (te:TE) (σ:St) (H1:Hp) (Q:VK):Prop:=match x with
 | .ref l=>isq (H1 l)/\te σ H1 fun y H2=>apq (H2 l) l y H2 Q
 | _=>False
def Ke (to te:TE):TE:=fun σ H Q=>to σ H fun x H1=>X3 x te σ H1 Q
theorem Kd (to te:TE) (σ:St) (H:Hp) (Q:VK):Ke to te σ H Q=to σ H fun x H1=>X3 x te σ H1 Q:=rfl
theorem Pu (l:Addr) (te:TE) (σ:St) (H1:Hp) (Q:VK):X3 (.ref l) te σ H1 Q=(isq (H1 l)/\te σ H1 fun y H2=>apq (H2 l) l y H2 Q):=rfl
theorem R0 {apos cpos:Pos}(ho:PE X o to) (he:PE X e te)
  (hbase:attributeBase o "append" X.env (eval o X.env)=eval o X.env:=by rfl)
  (hfew:((backTo cpos (starEach [e] X.env)).all (fun x=>!x.1) && (backToKw cpos (keywordEach [] X.env)).all (fun x=>x.1.isSome)
   && decide ([e].length + ([]:List Keyword).length + (if ([]:List Keyword).isEmpty then 0 else 1) < 30))=true:=by rfl)
  (hline:(apos.endLine == cpos.line)=true:=by rfl) (hs:starEach [e] X.env=(false,eval e X.env) :: starEach [] X.env:=by rfl) (hplain:(backTo cpos (starEach [] X.env)).any (·.1)=false:=by rfl) :
  PE X (.Call (.Attribute o "append" apos) [e] [] cpos) (Ke to te):=by
 intro pins s σ H Q I h
 refine wpAny_Call_method_late hbase hfew hline rfl (thE (ho pins s σ H _ I h) fun v s1 x H1 I1 r1 q=>?_)
 cases x with
 | ref l=>
  obtain ⟨q1,q2⟩:=q
  cases el:H1 l with
  | none=>rw[el] at q1; exact q1.elim
  | some ob=>
   cases ob with
   | lst xs=>
    obtain ⟨h1,h2⟩:=JR (T := "list") I1 r1 (.inl ⟨rfl,xs,SqL.of el⟩)
    refine ⟨"list", "list.append",PySem.F.plainAttrs_list,PySem.F.slot_list_append,PySem.F.type_list_append,h1,h2,?_⟩
    rw[hs]
    refine Calls.callWith_builtin (by show (false || (backTo cpos (starEach [] X.env)).any (·.1))=false; rw[hplain] <;> rfl) (Calls.evalArgs_plain ?_)
    refine Calls.spliced_cons (thE (he pins s1 σ H1 _ I1 q2) fun u s2 y H2 I2 r2 q3=>Calls.spliced_nil ?_)
    replace q3:apq (H2 l) l y H2 Q:=q3
    cases el2:H2 l with
    | none=>rw[el2] at q3; exact q3.elim
    | some ob2=>
     cases ob2 with
     | lst ys=>
      rw[el2] at q3
      exact Ip pins s2 σ H2 (.ref l) [y] v [u] Q I2 r1 (.cons r2 .nil) ⟨l,ys,y,rfl,rfl,el2,q3.1,q3.2⟩
     | _=>rw[el2] at q3; exact q3.elim
   | _=>rw[el] at q1; exact q1.elim
 | _=>exact q.elim
theorem lg {apos cpos:Pos}(ho:QE X o to) (he:QE X e te)
  (hbase:attributeBase o "append" X.env (eval o X.env)=eval o X.env:=by rfl)
  (hfew:((backTo cpos (starEach [e] X.env)).all (fun x=>!x.1) && (backToKw cpos (keywordEach [] X.env)).all (fun x=>x.1.isSome)
   && decide ([e].length + ([]:List Keyword).length + (if ([]:List Keyword).isEmpty then 0 else 1) < 30))=true:=by rfl)
  (hline:(apos.endLine == cpos.line)=true:=by rfl) (hs:starEach [e] X.env=(false,eval e X.env) :: starEach [] X.env:=by rfl) (hplain:(backTo cpos (starEach [] X.env)).any (·.1)=false:=by rfl) :
  QE X (.Call (.Attribute o "append" apos) [e] [] cpos) (Ke to te):=⟨R0 ho.h he.h hbase hfew hline hs hplain⟩
def slq (ob:Option HO) (lo hi:Option Int) (H:Hp) (Q:VK):Prop:=match ob with
 | some (.lst xs)=>∀ p,H p=none->Q (.ref p) (upd H p (.lst (rQ xs lo hi)))
 | some (.tup xs)=>¬ (HT.sIx xs.length 0 lo=0/\HT.sIx xs.length xs.length hi=xs.length)/\∀ p,H p=none->Q (.ref p) (upd H p (.tup (rQ xs lo hi)))
 | _=>False
def Vz:V->Option Int->Option Int->Hp->VK->Prop:=fun x lo hi H Q=>match x with
 | .ref p=>slq (H p) lo hi H Q
 | _=>False
theorem K3 (p:Addr) (lo hi:Option Int) (H:Hp) (Q:VK):Vz (.ref p) lo hi H Q=slq (H p) lo hi H Q:=rfl
theorem Qw (xs:List V) (lo hi:Option Int) (H:Hp) (Q:VK):slq (some (.lst xs)) lo hi H Q=∀ p,H p=none->Q (.ref p) (upd H p (.lst (rQ xs lo hi))):=rfl
theorem Y9:SlR X Vz:=by
 intro pins s σ H x v vl vu lo hi sl Q I rx hs pl pu h
 unfold Vz at h
 split at h
 ·rename_i p
  unfold slq at h
  split at h
  ·rename_i xs e
   exact Qx pins s σ H _ v vl vu lo hi sl Q I rx hs pl pu ⟨p,xs,rfl,SqL.of e,h⟩
  ·rename_i xs e
   exact Vv pins s σ H _ v vl vu lo hi sl Q I rx hs pl pu ⟨p,xs,rfl,SqT.of e,h.1,h.2⟩
  ·exact h.elim
 ·exact h.elim
structure QO (X:Cx) (e:Option Expr) (t:TO):Prop where
 h:PO X e t
theorem Rb:QO X none yc:=⟨Rz⟩
theorem Ra (h:QE X e te):QO X (some e) (J0 te):=⟨Ry h.h⟩
theorem Ln {r:V->Option Int->Option Int->Hp->VK->Prop}{lo hi:Option Expr}{tl th:TO}{p2:Pos}(hr:SlR X r) (he:QE X e te) (hl:QO X lo tl) (hu:QO X hi th):QE X (.Subscript e (.Slice lo hi none p2) pos) (tSl r te tl th):=⟨LR hr he.h hl.h hu.h⟩
def rpq (ob:Option HO) (k:Int) (H:Hp) (Q:VK):Prop:=match ob with
 | some (.lst xs)=>-(2 ^ 63)<=k/\k < 2 ^ 63/\xs.length * k.toNat<=sizeLine/\∀ p,H p=none->Q (.ref p) (upd H p (.lst (List.replicate k.toNat xs).flatten))
 | _=>False
def FP:R2:=fun x y H Q=>match x,y with
 | .ref p,.int k=>rpq (H p) k H Q
 | x,y=>rI JH (fun i j=>.int (i * j)) x y H Q
theorem QK (p:Addr) (k:Int) (H:Hp) (Q:VK):FP (.ref p) (.int k) H Q=rpq (H p) k H Q:=rfl
theorem QL (i j:Int) (H:Hp) (Q:VK):FP (.int i) (.int j) H Q=rI JH (fun i j=>.int (i * j)) (.int i) (.int j) H Q:=rfl
theorem FJ (xs:List V) (k:Int) (H:Hp) (Q:VK):rpq (some (.lst xs)) k H Q=(-(2 ^ 63)<=k/\k < 2 ^ 63/\xs.length * k.toNat<=sizeLine/\∀ p,H p=none->Q (.ref p) (upd H p (.lst (List.replicate k.toNat xs).flatten))):=rfl
theorem fP:OpR X (binaryOp .Mult) FP:=by
 intro pins s σ H x y v u Q I rx ry h
 unfold FP at h
 split at h
 ·rename_i p k
  unfold rpq at h
  split at h
  ·rename_i xs e
   exact Wt pins s σ H _ _ v u Q I rx ry ⟨p,k,xs,rfl,rfl,e,h.1,h.2.1,h.2.2.1,h.2.2.2⟩
  ·exact h.elim
 ·exact Wu pins s σ H _ _ v u Q I rx ry h
def eqo (ob:Option HO) (H:Hp) (Q:VK):Prop:=match ob with
 | some (.lst _)=>Q (.bl false) H
 | some (.tup _)=>Q (.bl false) H
 | _=>False
def Hy:R2:=fun x y H Q=>match x,y with
 | .ref p,.str _=>eqo (H p) H Q
 | x,y=>rEq x y H Q
theorem Q0 (i j:Int) (H:Hp) (Q:VK):Hy (.int i) (.int j) H Q=rEq (.int i) (.int j) H Q:=rfl
theorem Q5 (i j:Bool) (H:Hp) (Q:VK):Hy (.bl i) (.bl j) H Q=rEq (.bl i) (.bl j) H Q:=rfl
theorem QX (i j:Str) (H:Hp) (Q:VK):Hy (.str i) (.str j) H Q=rEq (.str i) (.str j) H Q:=rfl
theorem QZ (H:Hp) (Q:VK):Hy .non .non H Q=rEq .non .non H Q:=rfl
theorem bV (hu:X.A.units < cLine):OpR X (compareOp .Eq) Hy:=by
 intro pins s σ H x y v u Q I rx ry h
 unfold Hy at h
 split at h
 ·rename_i p z
  cases rx
  obtain ⟨t,rfl⟩:=ry
  unfold eqo at h
  split at h
  ·rename_i xs e
   obtain ⟨its,r,pl,hz⟩:=I.list (SqL.of e)
   exact SeqAt.RcAt.list_str z t pl.isList hu X.prog X.w X.xe (EP X pins σ Q) ⟨.bl false,H,I,rfl,h⟩
  ·rename_i xs e
   obtain ⟨its,r,pl,hz⟩:=I.tuple (SqT.of e)
   exact SeqAt.RcAt.tuple_str z t pl hu X.prog X.w X.xe (EP X pins σ Q) ⟨.bl false,H,I,rfl,h⟩
  ·exact h.elim
 ·exact Yy pins s σ H _ _ v u Q I rx ry h
end
section
variable {X:Cx}{a b c d:Expr}{ta tb tc td:TE}{pos:Pos}
end
mutual
inductive aX (ok:Addr->Prop) (H:Hp):V->PyData->Prop
 | non:aX ok H .non .none
 | bl (b:Bool):aX ok H (.bl b) (.bool b)
 | int (i:Int):aX ok H (.int i) (.int i)
 | str (x:Str):aX ok H (.str x) (.str x)
 | lst {p:Addr} {xs:List V} {ds:List PyData}:ok p->H p=some (.lst xs)->xs.length<=1000000->aK ok H xs ds->aX ok H (.ref p) (.list ds)
 | tup {p:Addr} {xs:List V} {ds:List PyData}:ok p->H p=some (.tup xs)->xs.length<=1000000->aK ok H xs ds->aX ok H (.ref p) (.tuple ds)
inductive aK (ok:Addr->Prop) (H:Hp):List V->List PyData->Prop
 | nil:aK ok H [] []
 | cons {x:V} {d:PyData} {xs:List V} {ds:List PyData}:aX ok H x d->aK ok H xs ds->aK ok H (x :: xs) (d :: ds)
end
mutual
theorem aX.keep {ok ok':Addr->Prop}{H H':Hp}(k:∀ a o,ok a->H a=some o->ok' a/\H' a=some o):∀ {v:V}{d:PyData},aX ok H v d->aX ok' H' v d
 | _,_,.non=>.non
 | _,_,.bl b=>.bl b
 | _,_,.int i=>.int i
 | _,_,.str x=>.str x
 | _,_,.lst o e z t=>.lst (k _ _ o e).1 (k _ _ o e).2 z (aK.keep k t)
 | _,_,.tup o e z t=>.tup (k _ _ o e).1 (k _ _ o e).2 z (aK.keep k t)
theorem aK.keep {ok ok':Addr->Prop}{H H':Hp}(k:∀ a o,ok a->H a=some o->ok' a/\H' a=some o):∀ {vs:List V}{ds:List PyData},aK ok H vs ds->aK ok' H' vs ds
 | _,_,.nil=>.nil
 | _,_,.cons t r=>.cons (aX.keep k t) (aK.keep k r)
end
theorem aX.same {ok:Addr->Prop}{H H':Hp}{v:V}{d:PyData}(t:aX ok H v d) (s:Same H H'):aX ok H' v d:=t.keep fun a o h e=>⟨h,s a o e⟩
theorem aK.same {ok:Addr->Prop}{H H':Hp}{v:List V}{d:List PyData}(t:aK ok H v d) (s:Same H H'):aK ok H' v d:=t.keep fun a o h e=>⟨h,s a o e⟩
theorem aX.Yd {p:Addr}{H H':Hp}{v:V}{d:PyData}(t:aX (·≠p) H v d) (s:cN p H H'):aX (·≠p) H' v d:=t.keep fun a o h e=>⟨h,s a o h e⟩
theorem aK.length {ok:Addr->Prop}{H:Hp}:∀ {vs:List V}{ds:List PyData},aK ok H vs ds->vs.length=ds.length
 | _,_,.nil=>rfl
 | _,_,.cons _ r=>by rw[List.length_cons,List.length_cons,r.length]
theorem aK.append {ok:Addr->Prop}{H:Hp}:∀ {vs ws:List V}{ds es:List PyData},aK ok H vs ds->aK ok H ws es->aK ok H (vs ++ ws) (ds ++ es)
 | _,_,_,_,.nil,t=>t
 | _,_,_,_,.cons h r,t=>.cons h (r.append t)
theorem aK.get {ok:Addr->Prop}{H:Hp}:∀ {vs:List V}{ds:List PyData}{i:Nat}{v:V},aK ok H vs ds->vs[i]?=some v->∃ d,ds[i]?=some d/\aX ok H v d
 | _,_,0,_,.cons h _,e=>by cases e; exact ⟨_,rfl,h⟩
 | _,_,i + 1,_,.cons _ r,e=>aK.get r (i:=i) e
theorem aK.take {ok:Addr->Prop}{H:Hp}:∀ {vs:List V}{ds:List PyData}(n:Nat),aK ok H vs ds->aK ok H (vs.take n) (ds.take n)
 | _,_,0,_=>.nil
 | _,_,_ + 1,.nil=>.nil
 | _,_,n + 1,.cons h r=>.cons h (r.take n)
section
variable {X:Cx}{pins:List (Addr×Obj)}{σ:St}{H:Hp}{s:Shared}{ok:Addr->Prop}
mutual
theorem aX.reads (I:Inv X pins σ H s):∀ {v:V}{d:PyData}{u:Value},aX ok H v d->RelV v u->∃ as,Reads s.heap u d as
 | _,_,_,.non,r=>by cases r; exact ⟨_,.none⟩
 | _,_,_,.bl b,r=>by cases r; exact ⟨_,.bool b⟩
 | _,_,_,.int i,r=>by obtain ⟨t,rfl⟩:=r; exact ⟨_,.int i t⟩
 | _,_,_,.str x,r=>by obtain ⟨t,rfl⟩:=r; exact ⟨_,.str x t⟩
 | _,_,_,.lst o e z t,r=>by
  cases r
  obtain ⟨its,rv,pl,hz⟩:=I.list (SqL.of e)
  obtain ⟨ob,h1,h2,n,h3⟩:=pl.isList
  obtain ⟨as,h4⟩:=aK.reads I t rv
  exact ⟨_,.list h1 h2 h3 (by simpa using h4)⟩
 | _,_,_,.tup o e z t,r=>by
  cases r
  obtain ⟨its,rv,pl,hz⟩:=I.tuple (SqT.of e)
  obtain ⟨ob,h1,h2,n,h3⟩:=pl
  obtain ⟨as,h4⟩:=aK.reads I t rv
  exact ⟨_,.tuple h1 h2 h3 (by simpa using h4)⟩
theorem aK.reads (I:Inv X pins σ H s):∀ {vs:List V}{ds:List PyData}{us:List Value},aK ok H vs ds->Vals vs us->∃ as,ReadsAll s.heap us ds as
 | _,_,_,.nil,r=>by cases r; exact ⟨_,.nil⟩
 | _,_,_,.cons h t,r=>by
  cases r with
  | cons r1 r2=>
   obtain ⟨as,h1⟩:=aX.reads I h r1
   obtain ⟨bs,h2⟩:=aK.reads I t r2
   exact ⟨_,.cons h1 h2⟩
end
end
mutual
def nodes:PyData->Nat
 | .list ds=>1 + fL ds
 | .tuple ds=>1 + fL ds
 | _=>1
def fL:List PyData->Nat
 | []=>0
 | d :: ds=>nodes d + fL ds
end
mutual
def smD:PyData->Bool
 | .none=>true
 | .bool _=>true
 | .int i=>decide (i.natAbs < 2 ^ 50\/i.natAbs=10 ^ 20\/i.natAbs < 2 ^ 55)
 | .str x=>decide ((reprText x).length<=50)
 | .list ds=>pD ds
 | .tuple ds=>pD ds
 | .dict _=>false
def pD:List PyData->Bool
 | []=>true
 | d :: ds=>smD d && pD ds
end
theorem TF {i:Int}(h:i.natAbs < 2 ^ 70):(Str.ofString (toString i)).length<=71:=by
 rw[PySem.ofString_length]
 have:=int_text_length_le10 (a:=i) (k:=30) δ ω
 omega
mutual
theorem wK:∀ (d:PyData),smD d=true->d.shown.length + 2<=80 * nodes d
 | .none,_=>by decide
 | .bool b,_=>by cases b <;> decide
 | .int i,h=>by
  have h1:i.natAbs < 2 ^ 70:=by
   have:i.natAbs < 2 ^ 50\/i.natAbs=10 ^ 20\/i.natAbs < 2 ^ 55:=of_decide_eq_true (by simpa [smD] using h)
   omega
  have:=TF h1
  show (Str.ofString (toString i)).length + 2<=80 * 1
  omega
 | .str x,h=>by
  have h1:(reprText x).length<=50:=by simpa [smD] using h
  show (reprText x).length + 2<=80 * 1
  omega
 | .list ds,h=>by
  have h1:=kY ds (by simpa [smD] using h)
  have h2:=listText_len_le (PyData.shownAll ds)
  rw[PyData.shown.eq_5,nodes]
  omega
 | .tuple ds,h=>by
  have h1:=kY ds (by simpa [smD] using h)
  have h2:=tupleText_len_le (PyData.shownAll ds)
  rw[PyData.shown.eq_6,nodes]
  omega
 | .dict kvs,h=>by simp [smD] at h
theorem kY:∀ (ds:List PyData),pD ds=true->((PyData.shownAll ds).map fun x=>x.length).sum + 2 * (PyData.shownAll ds).length<=80 * fL ds
 | [],_=>by simp [PyData.shownAll,fL]
 | d :: ds,h=>by
  rw[pD,Bool.and_eq_true] at h
  have h1:=wK d h.1
  have h2:=kY ds h.2
  rw[PyData.shownAll.eq_2,fL,List.map_cons,List.sum_cons,List.length_cons]
  omega
end
mutual
theorem yh:∀ (d:PyData),smD d=true->d.showable=true/\d.hasDict=false
 | .none,_=>⟨rfl,rfl⟩
 | .bool b,_=>⟨rfl,rfl⟩
 | .int i,h=>by
  refine ⟨?_,rfl⟩
  have h1:i.natAbs < 2 ^ 70:=by
   have:i.natAbs < 2 ^ 50\/i.natAbs=10 ^ 20\/i.natAbs < 2 ^ 55:=of_decide_eq_true (by simpa [smD] using h)
   omega
  show decide (i.natAbs.log2 < 1920)=true
  refine decide_eq_true ?_
  by_cases z:i.natAbs=0
  ·rw[z]; decide
  ·have:=(Nat.log2_lt z).mpr h1
   omega
 | .str x,_=>⟨rfl,rfl⟩
 | .list ds,h=>by
  obtain ⟨h1,h2⟩:=oE ds (by simpa [smD] using h)
  exact ⟨h1,h2⟩
 | .tuple ds,h=>by
  obtain ⟨h1,h2⟩:=oE ds (by simpa [smD] using h)
  exact ⟨h1,h2⟩
 | .dict kvs,h=>by simp [smD] at h
theorem oE:∀ (ds:List PyData),pD ds=true->PyData.showableAll ds=true/\PyData.hasDictAll ds=false
 | [],_=>⟨rfl,rfl⟩
 | d :: ds,h=>by
  rw[pD,Bool.and_eq_true] at h
  obtain ⟨h1,h2⟩:=yh d h.1
  obtain ⟨h3,h4⟩:=oE ds h.2
  refine ⟨?_,?_⟩
  ·rw[PyData.showableAll.eq_2,h1,h3]; rfl
  ·rw[PyData.hasDictAll.eq_2,h2,h4]; rfl
end
structure PB (d:PyData):Prop where
 sm:smD d=true
 nd:nodes d<=200000
 dp:d.depth<=100
theorem PB.len {d:PyData}(t:PB d):d.shown.length<=sizeLine:=by
 have h1:=wK d t.sm
 have h2:=t.nd
 have h3:16000000<=sizeLine:=by decide
 omega
section
variable {X:Cx}{tg l:Expr}{tl:TE}
def itq (K:PySem.W.Frag) (ob:Option HO) (a:Addr) (H:Hp) (R:It->Hp->Prop):Prop:=match ob with
 | some (.lst _)=>R (Itl K a) H
 | some (.tup _)=>R (Itt K a) H
 | _=>False
def itK (K:PySem.W.Frag) (x:V) (H:Hp) (R:It->Hp->Prop):Prop:=match x with
 | .ref a=>itq K (H a) a H R
 | _=>False
def Nz (K:PySem.W.Frag) (tl:TE):TI:=fun σ H R=>tl σ H fun x H1=>itK K x H1 R
theorem Ny (K:PySem.W.Frag) (tl:TE) (σ:St) (H:Hp) (R:It->Hp->Prop):Nz K tl σ H R=tl σ H fun x H1=>itK K x H1 R:=rfl
theorem Tq (K:PySem.W.Frag) (a:Addr) (H:Hp) (R:It->Hp->Prop):itK K (.ref a) H R=itq K (H a) a H R:=rfl
theorem Ti (K:PySem.W.Frag) (xs:List V) (a:Addr) (H:Hp) (R:It->Hp->Prop):itq K (some (.lst xs)) a H R=R (Itl K a) H:=rfl
theorem Tg (K:PySem.W.Frag) (xs:List V) (a:Addr) (H:Hp) (R:It->Hp->Prop):itq K (some (.tup xs)) a H R=R (Itt K a) H:=rfl
theorem RJ (hl:PE X l tl):PI X tg l (Nz X.K tl):=by
 intro pins s σ H R I h
 refine thn (hl pins s σ H _ I h) fun v s1 ⟨x,H1,I1,r1,q1⟩=>?_
 cases x with
 | ref a=>
  replace q1:itq X.K (H1 a) a H1 R:=q1
  cases r1
  unfold itq at q1
  split at q1
  ·rename_i xs e
   obtain ⟨its,rv,p,hz⟩:=I1.list (SqL.of e)
   refine wpAny_pyIter_list p.isList ?_
   refine ⟨s1.heap.objs.size,[s1.heap.objs.size],_,_,H1,rfl,I1.kept (t':=s1.toks) fun b o e=>Heap.get?_push_of_some _ e,GX a _,⟨_,Heap.get?_push_size _ rfl,rfl,rfl⟩,fun b hb=>?_,q1⟩
   have e:b=s1.heap.objs.size:=by simpa using hb
   subst e
   exact I1.Ob (Nat.le_refl _) (I1.hok.fresh (Nat.le_refl _))
  ·rename_i xs e
   obtain ⟨its,rv,p,hz⟩:=I1.tuple (SqT.of e)
   refine wpAny_pyIter_tuple (show s1.heap.IsTuple a its.toArray from p) ?_
   refine ⟨s1.heap.objs.size,[s1.heap.objs.size],_,_,H1,rfl,I1.kept (t':=s1.toks) fun b o e=>Heap.get?_push_of_some _ e,CP a _,⟨_,Heap.get?_push_size _ rfl,rfl,rfl⟩,fun b hb=>?_,q1⟩
   have e:b=s1.heap.objs.size:=by simpa using hb
   subst e
   exact I1.Ob (Nat.le_refl _) (I1.hok.fresh (Nat.le_refl _))
  ·exact q1.elim
 | _=>exact q1.elim
theorem fO (hl:QE X l tl):QI X tg l (Nz X.K tl):=⟨RJ hl.h⟩
end
section
variable {mp:List (Option Nat)}{g:TG}{tc:TT}{te:TE}{σ:St}{H:Hp}{Q:VK}{R:It->Hp->Prop}{K:PySem.W.Frag}
def BoolsTo (H0:Hp) (f:V->Bool) (xs:List V) (i:Nat) (acc:List V) (H':Hp):Prop:=Same H0 H'/\acc=((xs.take i).map f).map V.bl
end
def NewOk (ok:Addr->Prop) (H0:Hp):Prop:=∀ H p,Same H0 H->H p=none->ok p
section
variable {ok:Addr->Prop}{σ:St}{H0:Hp}{ta tb:TE}{tr:TA}{d e:PyData}{ds es:List PyData}
end
def Aa:Sp:=fun vs H Q _=>∃ w s,vs=[.int w,.int s]/\1<=w/\w<=40/\(s=0\/s=1)/\Q (.int (wl w s)) H
def yg:Sp:=fun vs H Q _=>∃ w s,vs=[.int w,.int s]/\1<=w/\w<=40/\(s=0\/s=1)/\Q (.int (wl w s + 2 ^ w.toNat - 1)) H
section
variable {X:Cx}{NX N:List Str}{kX:List (Str×NameKind)}{mp:List (Option Nat)}{scope:Scope}
set_option maxHeartbeats 8000000 in
theorem Ru {tg iter elt:Expr}{ifs:List Expr}{pos pos' pos2:Pos}{wi:TI}{g:TG}{tc:TT}{te:TE}{i:Nat}{x:Str}(N:List Str) (mp:List (Option Nat)) (hn:Nm X.N X.env.scope i x) (hNd:X.N.Nodup) (hNX:X.N=NX) (hkX:X.env.scope.names=kX) (S:xX NX kX N mp scope) (hc:X.calm=true)
  (hi:PI X tg iter wi) (hg:∀ cl C s H fp,PG (cu X N scope cl C s H fp) tg g) (ht:∀ cl C s H fp,PTs (cu X N scope cl C s H fp) ifs tc) (he:∀ cl C s H fp,PE (cu X N scope cl C s H fp) elt te)
  (hf:X.fn x=true\/X.env.scope.names.lookup x=some .local:=by exact .inl rfl)
  (hsw:swapsWithSole [.Name x pos'] (.ListComp elt [⟨tg,iter,ifs,0⟩] scope pos) pos2.line X.env=pure true:=by rfl)
  (h1:(assignEach [.Name x pos'] X.env).map (·.2)=[assign (.Name x pos') X.env]:=by rfl)
  (hs:∀ x,foldedSetIterable iter X.env x=pure x:=by intro _; rfl):PS X (.Assign [.Name x pos'] (.ListComp elt [⟨tg,iter,ifs,0⟩] scope pos) pos2) (sW (wH mp wi g tc te) (ju i)):=by
 intro pins s σ H Dn I h
 rw[exec_Assign_arm]
 refine wpAny_bind (wpAny_standAt ?_)
 rw[hsw]
 refine wpAny_bind (wpAny_pure ?_)
 rw[if_pos rfl,h1]
 replace h:wH mp wi g tc te σ H (fun v H1=>Dn.nx (σ.set i (some v)) H1):=h
 obtain ⟨cl,hcl,hsub,hhas⟩:=Gy (env:=X.env) (scope:=scope) fun y hy hf=>I.ok.has y.1 (by
  rcases S.fre y hy hf with q | q
  ·exact .inl (show X.env.scope.names.lookup y.1=_ by rw[hkX]; exact q)
  ·exact .inr (show X.env.scope.names.lookup y.1=_ by rw[hkX]; exact q))
 generalize hQ:(fun (v:V) (H1:Hp)=>Dn.nx (σ.set i (some v)) H1)=Q at h
 let QQ:Value->Shared->Prop:=fun _ s'=>∃ τ H',Inv X pins τ H' s'/\Dn.nx τ H'
 refine wpAny_bind (wpAny_bind (thn (Q:=QQ) (wpAny_comprehension_free (e:=.ListComp elt [⟨tg,iter,ifs,0⟩] scope pos) (use:=some fun v=>assignAll v [assign (.Name x pos') X.env]) rfl hs hcl S.kind S.locs ?_) fun _ s' ⟨τ,H',I',q'⟩=>wpAny_pure (wpAny_pure ⟨τ,H',I',q'⟩)))
 refine thn (hi pins s σ H _ I h) fun v s1 h1=>thn h1 fun itv s2 h2=>?_
 obtain ⟨it,fp,tn,J,H2,e,I2,T,st2,f2,W,⟨m0,w0⟩,turn⟩:=h2
 subst e
 refine wpAny_newObj_type (wpAny_newFunctionEnv S.nocell (by intro y hy; simp at hy) (fun h3 hns hsb=>?_) S.kind)
 dsimp only at hns hsb |-
 have hold:∀ b∈fp,b < s2.heap.objs.size:=fun b hb=>by
  obtain ⟨o,q,_⟩:=T.obj _ _ st2 b hb
  exact Heap.lt_size q
 generalize hD:s2.heap.objs.size=D at hns hsb
 generalize hH2:s2.heap.push { cls:=.type "list",dict:=none,data:=.seq ([]:List Value).toArray }=P2 at hns hsb |-
 have hC:P2.objs.size=D + 1:=by rw[<- hH2,Heap.size_push,hD]
 generalize hC':P2.objs.size=C at hns hsb |-
 rw[hC'] at hC
 have old:∀ b o,s2.heap.get? b=some o->h3.get? b=some o:=fun b o q=>by
  have hb:=Heap.lt_size q
  exact hsb.extBut b o (na1 hb hD hC) (Heap.get?_push_of_some _ (hH2 ▸ Heap.get?_push_of_some _ q))
 have accD:h3.get? D=some { cls:=.type "list",data:=.seq ([]:List Value).toArray }:=
  hsb.extBut _ _ (na2 hC) (Heap.get?_push_of_some _ (by rw[<- hH2,<- hD]; exact Heap.get?_push_size _ rfl))
 have hfr:D∉frs X.stack:=fun z=>by
  rcases List.mem_cons.mp (I2.ux D z) with q | q
  ·exact na0 I2.lt hD q.symm
  ·exact I2.WR (na4 hD) q
 have I0:Inv (cu X N scope cl C s2 H2 fp) [(D,{ cls:=.type "list",data:=.seq ([]:List Value).toArray })] (lW mp σ) H2 { s2 with heap:=h3,toks:=s2.toks + ([]:List (Str×Value)).length }:=
  Gx (s':={ s2 with heap:=h3,toks:=s2.toks + ([]:List (Str×Value)).length }) hNX hkX S I2 f2 hold (na3 hD hC) hsub hhas rfl rfl ⟨_,hns⟩ old fun p hp=>by
   have ep:=List.mem_singleton.mp hp
   subst ep
   exact ⟨accD,I2.hok.fresh (na4 hD),na2 hC,hfr,fun v z=>by cases z⟩
 have T0:tn 0 h3:=T.keep _ _ _ st2 fun b _ o q=>old b o q
 have loop:∀ z:Shared,z={ s2 with heap:=h3,toks:=s2.toks + ([]:List (Str×Value)).length } ->
   codeAny (model X.prog X.w) X.A (.compLoop (.ListComp elt [⟨tg,iter,ifs,0⟩] scope pos) 0 (.ref it) (.ref D) (compEnvC scope cl C X.env))
    (compPost (model X.prog X.w) X.A X.xe (some fun v=>assignAll v [assign (.Name x pos') X.env]) QQ (.ref D) C) z:=by
  rintro z rfl
  have stat:∀ {H':Hp} {pl:List (Addr×Obj)},(∀ b∈fp,H' b=none)->(∀ p∈pl,p.1=D)->∀ b∈fp,rZ (cu X N scope cl C s2 H2 fp) pl H' b:=fun hn hp b hb=>by
   have hb2:=hold b hb
   refine ⟨hn b hb,na1 hb2 hD hC,(Ep hkX S I2 f2 hold (na3 hD hC) hsub hhas).exfs b hb,.inl hb,fun x c q=>(f2 b hb).2.2.2.2.1 x c (hsub x c q),fun p hpp=>?_⟩
   have hpD:=hp p (by simpa [cu] using hpp)
   rw[hpD]
   exact (na0 hb2 hD).symm
  refine xO (env:=compEnvC scope cl C X.env) (fun n z=>∃ i acc τ H' its k,Inv (cu X N scope cl C s2 H2 fp) [(D,{ cls:=.type "list",data:=.seq (List.toArray its) k })] τ H' z/\tn i z.heap/\(∀ b∈fp,H' b=none)/\Vals acc its/\acc.length<=sizeLine/\W i n acc τ H')
   ?_ m0 ⟨0,[],_,H2,[],0,I0,T0,fun b hb=>(f2 b hb).1,.nil,Nat.zero_le _,w0⟩
  rintro n s5 ⟨i,acc,τ,H5,its,k,I5,st5,fr5,va,hz,w5⟩
  rcases turn i n acc τ H5 w5 with ⟨stop,qn⟩ | ⟨go,hz2,N9,hN9,step⟩
  ·refine thn (T.done (cu X N scope cl C s2 H2 fp) rfl rfl rfl hc i _ s5 τ H5 _ I5 (stat fr5 (by simp)) st5 stop) fun r s6 ⟨hr,I6⟩=>?_
   subst hr
   obtain ⟨m6,hn6,_⟩:=I6.loc
   obtain ⟨dD,nD,_,_,_⟩:=I6.pin (D,_) (List.mem_append_right _ (List.mem_singleton.mpr rfl))
   have U:=I6.base
   have nC:H5 C=none:=I6.free
   have ne:∀ b o,s2.heap.get? b=some o->b≠C/\b≠D:=fun b o q=>by
    exact ⟨na1 (Heap.lt_size q) hD hC,na0 (Heap.lt_size q) hD⟩
   have key:∀ h',Heap.SameBut C s6.heap h'->Inv X pins σ (upd H5 D (.lst acc)) { s6 with heap:=h' }:=fun h' sb=>by
    have keepC:∀ b o,b≠C->s6.heap.get? b=some o->h'.get? b=some o:=fun b o hb q=>(sb.2 b hb).trans q
    have U':Un (frs X.stack) fp H2 (upd H5 D (.lst acc)) s2.heap h':=by
     refine ⟨fun b o q n1 hb hx=>keepC b o (ne b o q).1 (U.keep b o q n1 hb hx),fun b o q n1 hb hx=>?_,fun b o q n1 hx=>?_,fun b o q hx=>?_,fun b xs q=>?_,fun b o xs q=>?_,fun b ps q=>?_⟩
     ·obtain ⟨sl,z⟩:=U.slot b o q n1 hb hx
      exact ⟨sl,keepC b _ (ne b o q).1 z⟩
     ·rw[aH (ne b o q).2]
      exact U.free b o q n1 hx
     ·obtain ⟨o',z⟩:=U.there b o q hx
      exact ⟨o',keepC b _ (ne b o q).1 z⟩
     ·have z:=U.tups b xs q
      rw[aH (aF z nD)]
      exact z
     ·have z:=U.frzs b o xs q
      rw[aH (aF z nD)]
      exact z
     ·obtain ⟨more,z⟩:=U.tbls b ps q
      exact ⟨more,by rw[aH (aF z nD)]; exact z⟩
    have hok:HOk X.prog X.w (upd H5 D (.lst acc)) h':=fun b u q=>by
     by_cases hb:b=D
     ·subst hb
      rw[aB] at q
      cases q
      exact ⟨hz,its,k,va,keepC _ _ (na2 hC) dD⟩
     ·rw[aH hb] at q
      refine (I6.hok b u q).stay (fun c v hcc z=>keepC c v ?_ z) (fun c z=>by rw[aH (aF z nD)]; exact z) fun c xs z=>by rw[aH (aF z nD)]; exact z
      rcases hcc with z1 | z1
      ·subst z1
       exact aF q nC
      ·exact aF z1 nC
    have I7:Inv X pins σ (upd H5 D (.lst acc)) { s6 with heap:=h' }:=I2.call' (s':={ s6 with heap:=h' }) (ch:=fp) I6.os U' hok I6.bare fun b hb=>by
     obtain ⟨_,a2,_,a4,a5,a6⟩:=f2 b hb
     exact ⟨a4,a2,a5,a6⟩
    exact I7
   have I7:Inv X pins σ (upd H5 D (.lst acc)) s6:=key s6.heap (Heap.SameBut.refl _ _)
   have lC:X.env.locals≠C:=na1 I2.lt hD hC
   have cC:∀ y c,X.env.cells.lookup y=some c->c≠C:=fun y c z=>by
    obtain ⟨_,o,h1,_⟩:=I2.cell y c z
    exact na1 (Heap.lt_size h1) hD hC
   show wpAny _ _ (assign (.Name x pos') X.env (.ref D)) _ _ s6
   refine wpAny_assign_Name (wJ (v:=.ref D) I7 hNd hn.hN hn.hv rfl (fun s7 I8 ⟨a,sa,ha⟩=>?_) hf)
   have aC:a≠C:=by
    rcases ha with rfl | ha
    ·exact lC
    ·exact cC _ _ ha
   obtain ⟨o6,es6,ep6,g1,g2,g3,g4⟩:=hn6
   refine ⟨m6,⟨o6,es6,ep6,(sa.2 C (Ne.symm aC)).trans g1,g2,g3,g4⟩,fun h' sb=>?_⟩
   have q9:=qn D nD
   rw[<- hQ] at q9
   refine ⟨_,_,I8.turned (it:=C) (t':=s7.toks) (fun b o hb q=>(sb.2 b hb).trans q) ?_ (Ne.symm lC) (.inr (Nat.le_trans I2.sz (na3 hD hC))) cC (fun p hp=>?_),q9⟩
   ·rw[aH (Ne.symm (na2 hC))]
    exact nC
   ·obtain ⟨h1,_⟩:=I2.pin p hp
    exact na1 (Heap.lt_size h1) hD hC
  ·refine thn (T.item (cu X N scope cl C s2 H2 fp) rfl rfl rfl hc i _ s5 τ H5 _ I5 (stat fr5 (by simp)) st5 go) fun r s6 ⟨u,hr,h6⟩=>?_
   subst hr
   refine thn h6 fun _ s7 ⟨x,H7,I7,r7,y7,st7,fr7⟩=>?_
   have I7':=I7.pinned (stat fr7 (by simp)) (T.obj _ _ st7)
   have no:∀ {α:Type} {t:Sem α} {Q1 Q2:α->Shared->Prop} {E:Value->Shared->Prop} {z:Shared},wpAny (model X.prog X.w) X.A t Q1 (fun _ _=>False) z->(∀ a z,Q1 a z->Q2 a z)->wpAny (model X.prog X.w) X.A t Q2 E z:=
    fun q f=>wpAny_mono q f fun _ _ z=>z.elim
   refine no (hg cl C s2 H2 fp _ s7 τ H7 x u _ I7' r7 (step x H7 y7)) fun _ s8 ⟨τ1,H8,I8,q8⟩=>?_
   refine no (ht cl C s2 H2 fp _ s8 τ1 H8 _ I8 q8) fun ok s9 ⟨H9,I9,q9⟩=>?_
   have again:∀ {H':Hp} {z:Shared} {its':List Value} {k':Nat},Inv (cu X N scope cl C s2 H2 fp) ([(D,{ cls:=.type "list",data:=.seq (List.toArray its') k' })] ++ jO fp s7.heap) τ1 H' z ->
     tn (i + 1) z.heap/\(∀ b∈fp,H' b=none)/\Inv (cu X N scope cl C s2 H2 fp) [(D,{ cls:=.type "list",data:=.seq (List.toArray its') k' })] τ1 H' z:=fun {H' z its' k'} Iz=>by
    have get:∀ b∈fp,∀ o,s7.heap.get? b=some o->z.heap.get? b=some o/\H' b=none:=fun b hb o q=>by
     obtain ⟨a1,a2,_⟩:=Iz.pin (b,o) (List.mem_append_right _ (List.mem_append_right _ (lH hb q)))
     exact ⟨a1,a2⟩
    refine ⟨T.keep _ _ _ st7 fun b hb o q=>(get b hb o q).1,fun b hb=>?_,Iz.mF⟩
    obtain ⟨o,q,_⟩:=T.obj _ _ st7 b hb
    exact (get b hb o q).2
   cases ok with
   | false=>
    rw[if_neg Bool.false_ne_true] at q9 |-
    obtain ⟨m',hm,w9⟩:=hN9 _ _ _ q9
    obtain ⟨a1,a2,a3⟩:=again I9
    exact ⟨m',hm,i + 1,acc,τ1,H9,its,k,a3,a1,a2,va,hz,w9⟩
   | true=>
    rw[if_pos rfl] at q9 |-
    refine no (he cl C s2 H2 fp _ s9 τ1 H9 _ I9 q9) fun y s10 ⟨v,H10,I10,rv,q10⟩=>?_
    obtain ⟨m',hm,w10⟩:=hN9 _ _ _ q10
    obtain ⟨a1,a2,a3⟩:=again I10
    obtain ⟨dD,nD,_,_,_⟩:=a3.pin (D,_) (List.mem_append_right _ (List.mem_singleton.mpr rfl))
    have hlen:=va.length
    refine call_meets F.slot_list_append ⟨_,dD,rfl⟩ F.entry_list_append (F.args_list_append_2 _ _) (PySem.list_append D its.toArray k y (by rw[List.size_toArray]; omega)) ⟨dD,?_⟩
    obtain ⟨k',q⟩:∃ k',(s10.heap.update D (Obj.mapSeq fun a=>a.push y)).get? D=some { cls:=.type "list",data:=.seq (its ++ [y]).toArray k' }:=by
     have q:=PySem.IsL.update dD (fun a=>a.push y)
     rw[show its.toArray.push y=(its ++ [y]).toArray by simp] at q
     exact ⟨_,q⟩
    have a4:Inv (cu X N scope cl C s2 H2 fp) (jO fp s7.heap) τ1 H10 s10:=I10.nQ fun p hp=>I10.pin p (List.mem_append_right _ (List.mem_append_right _ hp))
    have a5:Inv (cu X N scope cl C s2 H2 fp) (jO fp s7.heap) τ1 H10 { s10 with heap:=s10.heap.update D (Obj.mapSeq fun a=>a.push y),toks:=s10.toks }:=
     a4.turned (it:=D) (fun b o hb z=>(Heap.get?_update_other _ _ (Ne.symm hb)).trans z) nD (na2 hC) (.inr (na4 hD))
      (fun x c z=>by
       obtain ⟨_,o,h1,_⟩:=I2.cell x c (hsub x c z)
       exact na0 (Heap.lt_size h1) hD) fun p hp=>by
       have hb:=(rz (by simpa [cu] using hp)).1
       exact na0 (hold _ hb) hD
    obtain ⟨b1,b2,b3⟩:=(show tn (i + 1) (s10.heap.update D (Obj.mapSeq fun a=>a.push y))/\(∀ b∈fp,H10 b=none)/\True from
     ⟨T.keep _ _ _ a1 fun b hb o z=>(Heap.get?_update_other _ _ (na0 (hold b hb) hD).symm).trans z,a2,trivial⟩)
    refine ⟨m',hm,i + 1,acc ++ [v],τ1,H10,its ++ [y],k',a5.nQ fun p hp=>?_,b1,b2,va.append (.cons rv .nil),by rw[List.length_append,List.length_singleton]; omega,w10⟩
    have ep:=List.mem_singleton.mp hp
    subst ep
    exact ⟨q,nD,na2 hC,hfr,fun v z=>by cases z⟩
 have e1:{ newEnv scope C X.env.globals cl X.env.qual none .none (some X.env) X.env.builtins with scope:=relabel scope X.env }=compEnvC scope cl C X.env:=rfl
 exact codeAny_compStart_list (loop _ rfl) (T.self _ 0 _ _ _ T0 (loop _ rfl))
theorem FQ {tg iter elt:Expr}{ifs:List Expr}{pos pos' pos2:Pos}{wi:TI}{g:TG}{tc:TT}{te:TE}{i:Nat}{x:Str}(N:List Str) (mp:List (Option Nat)) (hn:Nm X.N X.env.scope i x) (hNd:X.N.Nodup) (hNX:X.N=NX) (hkX:X.env.scope.names=kX) (S:xX NX kX N mp scope) (hc:X.calm=true)
  (hi:QI X tg iter wi) (hg:∀ cl C s H fp,QG (cu X N scope cl C s H fp) tg g) (ht:∀ cl C s H fp,QC (cu X N scope cl C s H fp) ifs tc) (he:∀ cl C s H fp,QE (cu X N scope cl C s H fp) elt te)
  (hf:X.fn x=true\/X.env.scope.names.lookup x=some .local:=by exact .inl rfl)
  (hsw:swapsWithSole [.Name x pos'] (.ListComp elt [⟨tg,iter,ifs,0⟩] scope pos) pos2.line X.env=pure true:=by rfl)
  (h1:(assignEach [.Name x pos'] X.env).map (·.2)=[assign (.Name x pos') X.env]:=by rfl)
  (hs:∀ x,foldedSetIterable iter X.env x=pure x:=by intro _; rfl):QS X (.Assign [.Name x pos'] (.ListComp elt [⟨tg,iter,ifs,0⟩] scope pos) pos2) (sW (wH mp wi g tc te) (ju i)):=
 ⟨Ru N mp hn hNd hNX hkX S hc hi.h (fun cl C s H fp=>(hg cl C s H fp).h) (fun cl C s H fp=>(ht cl C s H fp).h) (fun cl C s H fp=>(he cl C s H fp).h) hf hsw h1 hs⟩
end
def zP (H0:Hp) (f:PyData->Bool) (ds:List PyData) (ok:St->Prop) (i:Nat) (acc:List V) (τ:St) (H':Hp):Prop:=Same H0 H'/\ok τ/\acc=((ds.take i).map f).map V.bl
section
variable {mp:List (Option Nat)}{g:TG}{te:TE}{σ:St}{H:Hp}{Q:VK}{R:It->Hp->Prop}{K:PySem.W.Frag}{a:Addr}{xs:List V}{ds:List PyData}{ok:Addr->Prop}
theorem take_snoc {α:Type}{l:List α}{i:Nat}{x:α}(h:l[i]?=some x):l.take (i + 1)=l.take i ++ [x]:=by
 rw[List.take_add_one,h]
 rfl
theorem Es {f:PyData->Bool}{d:PyData}{i:Nat}(h:ds[i]?=some d):((ds.take (i + 1)).map f).map V.bl=((ds.take i).map f).map V.bl ++ [V.bl (f d)]:=by
 rw[take_snoc h,List.map_append,List.map_append]
 rfl
theorem Jx (f:PyData->Bool) (ds:List PyData) (i:Nat):(((ds.take i).map f).map V.bl).length<=i:=by
 simp only[List.length_map,List.length_take]
 omega
theorem zj (f:PyData->Bool) (okT:St->Prop) (hR:R=CG mp g Ql te σ Q) (tr:aK ok H xs ds) (e:H a=some (.lst xs)) (hz:xs.length<=1000000) (h0:okT (lW mp σ))
  (hs:∀ x d τ H1 (Qn:V->St->Hp->Prop),d∈ds->Same H H1->aX ok H1 x d->okT τ->(∀ τ1 H6,okT τ1->Same H1 H6->Qn (.bl (f d)) τ1 H6)->g x τ H1 fun τ1 H4=>te τ1 H4 fun v H6=>Qn v τ1 H6)
  (hd:∀ H2 d,Same H H2->H2 d=none->Q (.ref d) (upd H2 d (.lst ((ds.map f).map V.bl)))):R (Itl K a) H:=by
 have hl:=tr.length
 refine rR hR (aP hz) (zP H f ds okT) ⟨Same.refl _,h0,rfl⟩ (fun i acc τ H1 ⟨_,_,e⟩=>by rw[e]; exact Jx f ds i) (fun i acc τ H1 ⟨s,_,_⟩=>SqL.of (s _ _ e)) (fun i x acc τ H1 hx ⟨s,k,ea⟩=>?_) (fun acc τ H1 d ⟨s,k,ea⟩ hn=>?_)
 ·obtain ⟨d,hd2,td⟩:=tr.get hx
  have z:=hs x d τ H1 (fun v τ1 H6=>zP H f ds okT (i + 1) (acc ++ [v]) τ1 H6) (List.mem_of_getElem? hd2) s (td.same s) k fun τ1 H6 k1 s6=>⟨s.trans s6,k1,by rw[ea,Es hd2]⟩
  show g x τ H1 fun τ1 H4=>if true=true then te τ1 H4 fun v H6=>zP H f ds okT (i + 1) (acc ++ [v]) τ1 H6 else zP H f ds okT (i + 1) acc τ1 H4
  simp only[if_true]
  exact z
 ·rw[ea,hl,List.take_length]
  exact hd H1 d s hn
end
def itD:It1->PyData
 | .one a=>.tuple [.str "is",.int a]
 | .rng a b=>.tuple [.str "from",.int a,.int b]
 | .bits m v=>.tuple [.str "bits",.int m,.int v]
def jJ (its:List It1):PyData:=.list (its.map itD)
def ig (w s:Int) (css:List (List It1)):PyData:=.tuple [.int w,.int s,.list (css.map jJ)]
theorem nM.tree {H:Hp}{t:Addr}{it:It1} {ok:Addr->Prop}(h:nM H t it) (o:ok t):aX ok H (.ref t) (itD it):=by
 cases it with
 | one a=>exact .tup o h.h (by show 2<=1000000; decide) (.cons (.str _) (.cons (.int _) .nil))
 | rng a b=>exact .tup o h.h (by show 3<=1000000; decide) (.cons (.str _) (.cons (.int _) (.cons (.int _) .nil)))
 | bits m v=>exact .tup o h.h (by show 3<=1000000; decide) (.cons (.str _) (.cons (.int _) (.cons (.int _) .nil)))
theorem vB {p c:Addr}{H Hk:Hp}{B:Int}(s:cN p H Hk) (t:bA Hk p B) (h:Hk c=none):c≠p/\H c=none:=by
 have n:=t.ne h
 refine ⟨n,?_⟩
 cases e:H c with
 | none=>rfl
 | some o=>rw[s _ _ n e] at h; cases h
theorem jY {p c:Addr}{H H':Hp}{o:HO}(s:cN p H H') (h:H c=none):cN p H (upd H' c o):=fun b u n e=>by
 rw[aH (aF e h)]
 exact s b u n e
theorem bA.upd {H:Hp}{p c:Addr}{B:Int}{o:HO}(t:bA H p B) (n:c≠p):bA (upd H c o) p B:=by
 obtain ⟨a,b,c',e,r⟩:=t
 exact ⟨a,b,c',by rw[aH (Ne.symm n)]; exact e,r⟩
theorem vN {α:Type}(l:List α) (x:α):atI (l ++ [x]) (-1)=some x:=by
 unfold atI ixN
 rw[if_neg δ,if_pos (by rw[List.length_append,List.length_singleton]; omega)]
 show (l ++ [x])[_]?=some x
 rw[List.getElem?_append_right (by rw[List.length_append,List.length_singleton]; omega)]
 rw[show (-1 + ((l ++ [x]).length:Int)).toNat - l.length=0 by rw[List.length_append,List.length_singleton]; omega]
 rfl
def Kl:Sp:=fun vs H Q _=>∃ (p:Addr) (B:Int),vs=[.ref p]/\bA H p B/\0<=B/\B<=900000 /\
 ∀ (w s:Int) (t:Addr) (css:List (List It1)) H',1<=w->w<=40->(s=0\/s=1)->cN p H H'->bA H' p (B + 6000)->aX (·≠p) H' (.ref t) (ig w s css) ->
  (∀ its∈css,its.length<=6/\∀ it∈its,it.Ok w s)->css.length<=12->Q (.ref t) H'
theorem yW {w s:Int}:b7 w s (wl w s):=⟨Int.le_refl _,by have:=two_pow_pos w.toNat; omega⟩
section
variable {ok:Addr->Prop}{σ:St}{H0 H:Hp}{ta tb te:TE}{tr:TA}{d e:PyData}{ds es:List PyData}{D:Ends}{i:Nat}
end
structure Bd (n k:Nat) (d:PyData):Prop where
 sm:smD d=true
 nd:nodes d<=n
 dp:d.depth<=k
theorem Bd.mono {n k n' k':Nat}{d:PyData}(b:Bd n k d) (h1:n<=n') (h2:k<=k'):Bd n' k' d:=⟨b.sm,Nat.le_trans b.nd h1,Nat.le_trans b.dp h2⟩
theorem Bd.tell {n k:Nat}{d:PyData}(b:Bd n k d) (h1:n<=200000) (h2:k<=100):PB d:=⟨b.sm,Nat.le_trans b.nd h1,Nat.le_trans b.dp h2⟩
theorem Fb {n k:Nat}:∀ {ds:List PyData},(∀ d∈ds,Bd n k d)->pD ds=true/\fL ds<=ds.length * n/\PyData.depthAll ds<=k
 | [],_=>⟨rfl,Nat.zero_le _,Nat.zero_le _⟩
 | d :: ds,h=>by
  have h1:=h d List.mem_cons_self
  obtain ⟨a,b,c⟩:=Fb fun x hx=>h x (List.mem_cons_of_mem _ hx)
  have:=h1.nd
  have:=h1.dp
  refine ⟨by rw[pD,h1.sm,a]; rfl,?_,?_⟩
  ·rw[fL,List.length_cons,Nat.succ_mul]; omega
  ·rw[PyData.depthAll.eq_2]; omega
theorem GJ {n k m:Nat}{ds:List PyData}(h:∀ d∈ds,Bd n k d) (hl:ds.length<=m):Bd (1 + m * n) (k + 1) (.list ds):=by
 obtain ⟨a,b,c⟩:=Fb h
 have:=Nat.mul_le_mul_right n hl
 refine ⟨a,?_,?_⟩
 ·show 1 + fL ds<=_; omega
 ·rw[PyData.depth.eq_1]; omega
theorem qO {n k m:Nat}{ds:List PyData}(h:∀ d∈ds,Bd n k d) (hl:ds.length<=m):Bd (1 + m * n) (k + 1) (.tuple ds):=by
 obtain ⟨a,b,c⟩:=Fb h
 have:=Nat.mul_le_mul_right n hl
 refine ⟨a,?_,?_⟩
 ·show 1 + fL ds<=_; omega
 ·rw[PyData.depth.eq_2]; omega
theorem oW {i:Int}(h:i.natAbs < 2 ^ 55):Bd 1 0 (.int i):=⟨by show decide _=true; exact decide_eq_true (.inr (.inr h)),Nat.le_refl _,Nat.le_refl _⟩
theorem XR {x:Str}(h:(reprText x).length<=50):Bd 1 0 (.str x):=⟨by show decide _=true; exact decide_eq_true h,Nat.le_refl _,Nat.le_refl _⟩
theorem zA {x:Str}(h:x = "is" \/ x = "from" \/ x = "bits"):Bd 1 0 (.str x):=by
 rcases h with rfl | rfl | rfl <;> exact XR ψ
theorem Uv {w s:Int}{it:It1} (hw1:1<=w) (hw2:w<=40) (hs:s=0\/s=1) (h:it.Ok w s):Bd 4 1 (itD it):=by
 have b:=jV hw1 hw2 hs
 have ik:∀ {a:Int},b7 w s a->a.natAbs < 2 ^ 55:=fun {a} h=>by have:=h.1; have:=h.2; omega
 have nk:∀ {a:Nat},a < 2 ^ w.toNat->((a:Int)).natAbs < 2 ^ 55:=fun {a} h=>by
  have:2 ^ w.toNat<=2 ^ 40:=Nat.pow_le_pow_right δ ω
  omega
 cases it with
 | one a=>
  refine (qO (n:=1) (k:=0) (m:=3) ?_ (by show 2<=3; decide))
  intro d hd
  simp only[List.mem_cons,List.not_mem_nil,or_false] at hd
  rcases hd with rfl | rfl
  ·exact zA (.inl rfl)
  ·exact oW (ik h)
 | rng a c=>
  refine (qO (n:=1) (k:=0) (m:=3) ?_ (by show 3<=3; decide))
  intro d hd
  simp only[List.mem_cons,List.not_mem_nil,or_false] at hd
  rcases hd with rfl | rfl | rfl
  ·exact zA (.inr (.inl rfl))
  ·exact oW (ik h.1)
  ·exact oW (ik h.2.1)
 | bits m v=>
  refine (qO (n:=1) (k:=0) (m:=3) ?_ (by show 3<=3; decide))
  intro d hd
  simp only[List.mem_cons,List.not_mem_nil,or_false] at hd
  rcases hd with rfl | rfl | rfl
  ·exact zA (.inr (.inr rfl))
  ·exact oW (nk h.1)
  ·exact oW (nk h.2.1)
theorem Uw {w s:Int}{its:List It1} {m:Nat}(hw1:1<=w) (hw2:w<=40) (hs:s=0\/s=1) (h:∀ it∈its,it.Ok w s) (hl:its.length<=m):Bd (1 + m * 4) 2 (jJ its):=
 GJ (fun d hd=>by
  obtain ⟨it,hi,rfl⟩:=List.mem_map.mp hd
  exact Uv hw1 hw2 hs (h it hi)) (by rw[List.length_map]; exact hl)
theorem Ph {n k:Nat}{w s:Int}{d:PyData}(hw1:1<=w) (hw2:w<=40) (hs:s=0\/s=1) (h:Bd n k d) (hn:1<=n):Bd (1 + 3 * n) (k + 1) (.tuple [.int w,.int s,d]):=by
 refine qO ?_ (by show 3<=3; decide)
 intro x hx
 simp only[List.mem_cons,List.not_mem_nil,or_false] at hx
 rcases hx with rfl | rfl | rfl
 ·exact (oW ω).mono hn (Nat.zero_le _)
 ·exact (oW ω).mono hn (Nat.zero_le _)
 ·exact h
theorem iV.U4 {k:Nat}{A:Around}(r:iV k A):A.units + 200 < cLine:=by have:=r.un; omega
theorem gD {prog:Program}{w:World}{A:Around}{E:Value->Shared->Prop}{s:Shared}{it t:Addr}{i:Nat}{items:Array Value}{x:Value}{Q:Value->Shared->Prop}(hit:s.heap.IsTupleIter it t i) (ht:s.heap.IsTuple t items) (hx:items[i]?=some x)
  (hQ:∀ h',h'.IsTupleIter it t (i + 1)->Heap.SameBut it s.heap h'->Q x { s with heap:=h' }):wpAny (model prog w) A (Builtin.SmallTypes.nextOf (Value.ref it)) Q E s:=by
 obtain ⟨o,ho,hc,hd⟩:=id hit
 obtain ⟨ol,hol,hcl,nl,hdl⟩:=ht
 unfold Builtin.SmallTypes.nextOf
 refine wpAny_bind (wpAny_callSpecial?_slot hit.typeIs F.slot_tuple_iterator_next (wpAny_call_entry F.slot_tuple_iterator_next hit.typeIs F.entry_tuple_iterator_next ?_ (F.args_tuple_iterator_next_1 _)))
 refine wpAny_bind (wpAny_pure (wpAny_bind (wpAny_field ho hd (i:=0) rfl ?_)))
 refine wpAny_ite_false rfl (wpAny_bind (wpAny_field ho hd (i:=1) rfl ?_))
 refine wpAny_bind (wpAny_seqItems hol hdl ?_)
 show wpAny _ _ (match items[(i:Int).toNat]? with
  | some x=>(do setField (.ref it) 1 (rawInt ((i:Int) + 1)); ret x)
  | none=>_) _ _ _
 rw[Int.toNat_natCast,hx]
 refine wpAny_bind (wpAny_setField ho hd (Nat.lt_succ_self 1) (wpAny_pure ⟨x,rfl,wpAny_pure (hQ _ ?_ ?_)⟩))
 ·refine ⟨_,Heap.get?_update_self _ ho (Obj.isFreed_of_fields (Obj.data_mapFields hd _)),(Obj.cls_mapFields o _).trans hc,?_⟩
  rw[Obj.data_mapFields hd]
  rfl
 ·exact Heap.SameBut.update s.heap it _
theorem j6 {prog:Program}{w:World}{A:Around}{E:Value->Shared->Prop}{s:Shared}{it t:Addr}{i:Nat}{items:Array Value}{Q:Value->Shared->Prop}(hh:A.handled=none) (hit:s.heap.IsTupleIter it t i) (ht:s.heap.IsTuple t items) (hx:items[i]?=none)
  (hE:∀ h' e,Heap.ExtBut it s.heap h'->(∃ o,h'.get? e=some o/\o.cls=Value.type "StopIteration")->E (.ref e) { s with heap:=h' }):wpAny (model prog w) A (Builtin.SmallTypes.nextOf (Value.ref it)) Q E s:=by
 obtain ⟨o,ho,hc,hd⟩:=id hit
 obtain ⟨ol,hol,hcl,nl,hdl⟩:=ht
 unfold Builtin.SmallTypes.nextOf
 refine wpAny_bind (wpAny_callSpecial?_slot hit.typeIs F.slot_tuple_iterator_next (wpAny_call_entry F.slot_tuple_iterator_next hit.typeIs F.entry_tuple_iterator_next ?_ (F.args_tuple_iterator_next_1 _)))
 refine wpAny_bind (wpAny_pure (wpAny_bind (wpAny_field ho hd (i:=0) rfl ?_)))
 refine wpAny_ite_false rfl (wpAny_bind (wpAny_field ho hd (i:=1) rfl ?_))
 refine wpAny_bind (wpAny_seqItems hol hdl ?_)
 show wpAny _ _ (match items[(i:Int).toNat]? with
  | some x=>_
  | none=>(do rule (toString "tuple_iterator.__next__" ++ toString ".end"); setField (.ref it) 0 .none; Builtin.SmallTypes.stopIteration)) _ _ _
 rw[Int.toNat_natCast,hx]
 refine wpAny_bind (wpAny_rule (wpAny_bind (wpAny_setField ho hd (Nat.zero_lt_succ 1) ?_)))
 unfold Builtin.SmallTypes.stopIteration newExc
 refine wpAny_bind (wpAny_bind (wpAny_newObj_type ?_))
 refine wpAny_bind (wpAny_of_eq (a:=.none) rfl ?_)
 refine wpAny_newObj_type ?_
 refine wpAny_raiseNew_none hh (hE _ _ ?_ ?_)
 ·exact fun b ob hb e=>Heap.get?_push_of_some _ (Heap.get?_push_of_some _ ((Heap.get?_update_other _ _ (Ne.symm hb)).trans e))
 ·exact ⟨_,Heap.get?_push_size _ rfl,rfl⟩
section
variable {X:Cx}
end
theorem Og {J:It}{g:TG}{tb:TS}{D:Ends}{σ:St}{H:Hp}{R:It->Hp->Prop}(hR:R=(fun J H1=>∃ W:Nat->Nat->St->Hp->Prop,(∃ m,W 0 m σ H1)/\∀ i m σ H,W i m σ H ->
  (J.stop i H/\D.nx σ H)\/(J.go i H/\∃ N:St->Hp->Prop,(∀ σ' H',N σ' H'->∃ m',m' < m/\W (i + 1) m' σ' H')/\∀ x H',J.yld i H x H'->g x σ H' fun σ2 H2=>tb { D with nx:=N,ct:=N,bk:=D.nx } σ2 H2)))
  (n:Nat) (Pv:Nat->St->Hp->Prop) (h0:Pv 0 σ H) (hgo:∀ i σ H,i < n->Pv i σ H->J.go i H) (hst:∀ σ H,Pv n σ H->J.stop n H)
  (hs:∀ i σ H x H3,i < n->Pv i σ H->J.yld i H x H3->g x σ H3 fun σ2 H2=>tb { D with nx:=Pv (i + 1),ct:=Pv (i + 1),bk:=D.nx } σ2 H2) (hd:∀ σ H,Pv n σ H->D.nx σ H):R J H:=by
 subst hR
 refine ⟨fun i m σ H2=>m=n - i/\i<=n/\Pv i σ H2,⟨_,rfl,Nat.zero_le _,h0⟩,?_⟩
 rintro i m σ H2 ⟨rfl,hi,p⟩
 by_cases hlt:i < n
 ·exact .inr ⟨hgo i σ H2 hlt p,Pv (i + 1),fun σ' H' q=>⟨_,ω,rfl,hlt,q⟩,fun x H3 y=>hs i σ H2 x H3 hlt p y⟩
 ·have e:i=n:=by omega
  subst e
  exact .inl ⟨hst σ H2 p,hd σ H2 p⟩
section
variable {X:Cx}{e o:Expr}{te to:TE}{pos:Pos}
def exq (ob oc:Option HO) (l:Addr) (H:Hp) (Q:VK):Prop:=match ob,oc with
 | some (.lst xs),some (.lst zs)=>xs.length + zs.length<=sizeLine/\Q .non (upd H l (.lst (xs ++ zs)))
 | _,_=>False
def Om (l:Addr) (y:V) (H:Hp) (Q:VK):Prop:=match y with
 | .ref b=>exq (H l) (H b) l H Q
 | _=>False
def exK (x:V) (te:TE) (σ:St) (H1:Hp) (Q:VK):Prop:=match x with
 | .ref l=>isq (H1 l)/\te σ H1 fun y H2=>Om l y H2 Q
 | _=>False
def J7 (to te:TE):TE:=fun σ H Q=>to σ H fun x H1=>exK x te σ H1 Q
theorem J6 (to te:TE) (σ:St) (H:Hp) (Q:VK):J7 to te σ H Q=to σ H fun x H1=>exK x te σ H1 Q:=rfl
theorem Ue (l:Addr) (te:TE) (σ:St) (H1:Hp) (Q:VK):exK (.ref l) te σ H1 Q=(isq (H1 l)/\te σ H1 fun y H2=>Om l y H2 Q):=rfl
theorem Ol (l b:Addr) (H:Hp) (Q:VK):Om l (.ref b) H Q=exq (H l) (H b) l H Q:=rfl
theorem Xv (xs zs:List V) (l:Addr) (H:Hp) (Q:VK):exq (some (.lst xs)) (some (.lst zs)) l H Q=(xs.length + zs.length<=sizeLine/\Q .non (upd H l (.lst (xs ++ zs)))):=rfl
theorem RP {apos cpos:Pos}(ho:PE X o to) (he:PE X e te)
  (hbase:attributeBase o "extend" X.env (eval o X.env)=eval o X.env:=by rfl)
  (hfew:((backTo cpos (starEach [e] X.env)).all (fun x=>!x.1) && (backToKw cpos (keywordEach [] X.env)).all (fun x=>x.1.isSome)
   && decide ([e].length + ([]:List Keyword).length + (if ([]:List Keyword).isEmpty then 0 else 1) < 30))=true:=by rfl)
  (hline:(apos.endLine == cpos.line)=true:=by rfl) (hs:starEach [e] X.env=(false,eval e X.env) :: starEach [] X.env:=by rfl) (hplain:(backTo cpos (starEach [] X.env)).any (·.1)=false:=by rfl) :
  PE X (.Call (.Attribute o "extend" apos) [e] [] cpos) (J7 to te):=by
 intro pins s σ H Q I h
 refine wpAny_Call_method_late hbase hfew hline rfl (thE (ho pins s σ H _ I h) fun v s1 x H1 I1 r1 q=>?_)
 cases x with
 | ref l=>
  obtain ⟨q1,q2⟩:=q
  cases el:H1 l with
  | none=>rw[el] at q1; exact q1.elim
  | some ob=>
   cases ob with
   | lst xs=>
    obtain ⟨h1,h2⟩:=JR (T := "list") I1 r1 (.inl ⟨rfl,xs,SqL.of el⟩)
    refine ⟨"list", "list.extend",PySem.F.plainAttrs_list,PySem.F.slot_list_extend,PySem.F.type_list_extend,h1,h2,?_⟩
    rw[hs]
    refine Calls.callWith_builtin (by show (false || (backTo cpos (starEach [] X.env)).any (·.1))=false; rw[hplain] <;> rfl) (Calls.evalArgs_plain ?_)
    refine Calls.spliced_cons (thE (he pins s1 σ H1 _ I1 q2) fun u s2 y H2 I2 r2 q3=>Calls.spliced_nil ?_)
    replace q3:Om l y H2 Q:=q3
    unfold Om at q3
    split at q3
    ·rename_i b
     unfold exq at q3
     split at q3
     ·rename_i ys zs e1 e2
      exact Io pins s2 σ H2 (.ref l) [.ref b] v [u] Q I2 r1 (.cons r2 .nil) ⟨l,b,ys,zs,rfl,rfl,e1,e2,q3.1,q3.2⟩
     ·exact q3.elim
    ·exact q3.elim
   | _=>rw[el] at q1; exact q1.elim
 | _=>exact q.elim
theorem Rh {apos cpos:Pos}(ho:QE X o to) (he:QE X e te)
  (hbase:attributeBase o "extend" X.env (eval o X.env)=eval o X.env:=by rfl)
  (hfew:((backTo cpos (starEach [e] X.env)).all (fun x=>!x.1) && (backToKw cpos (keywordEach [] X.env)).all (fun x=>x.1.isSome)
   && decide ([e].length + ([]:List Keyword).length + (if ([]:List Keyword).isEmpty then 0 else 1) < 30))=true:=by rfl)
  (hline:(apos.endLine == cpos.line)=true:=by rfl) (hs:starEach [e] X.env=(false,eval e X.env) :: starEach [] X.env:=by rfl) (hplain:(backTo cpos (starEach [] X.env)).any (·.1)=false:=by rfl) :
  QE X (.Call (.Attribute o "extend" apos) [e] [] cpos) (J7 to te):=⟨RP ho.h he.h hbase hfew hline hs hplain⟩
end
mutual
def szD (a:Nat):PyData->Prop
 | .none=>True
 | .bool _=>True
 | .int i=>i.natAbs<=10 ^ 20 * 2 ^ a
 | .str x=>x.length<=30 + a/\∀ c∈x.cps.toList,c < 16 ^ 8
 | .list ds=>ds.length<=210 * 5 ^ a/\zV a ds
 | .tuple ds=>ds.length<=210 * 5 ^ a/\zV a ds
 | .dict _=>False
def zV (a:Nat):List PyData->Prop
 | []=>True
 | d :: ds=>szD a d/\zV a ds
end
theorem G7 {a:Nat}:∀ {ds:List PyData},zV a ds ↔ ∀ d∈ds,szD a d
 | []=>⟨fun _ d h=>(nomatch h),fun _=>trivial⟩
 | x :: ds=>by
  show szD a x/\zV a ds ↔ _
  rw[G7 (ds:=ds)]
  constructor
  ·intro ⟨h1,h2⟩ d hd
   rcases List.mem_cons.mp hd with rfl | z
   ·exact h1
   ·exact h2 d z
  ·intro h
   exact ⟨h x List.mem_cons_self,fun d hd=>h d (List.mem_cons_of_mem _ hd)⟩
structure Shw (d:PyData):Prop where
 sh:d.showable=true
 nd:d.hasDict=false
 dp:d.depth<=100
 ln:d.shown.length<=sizeLine
def VB:List V->Hp->VK->Prop:=fun xs H Q=>∃ v ok d,xs=[v]/\aX ok H v d/\Shw d/\Q (.str d.shown) H
theorem vJ {X:Cx}(hg:X.A.guards=some []) (hu:X.A.units + 200 < cLine):dj X (.builtin "repr") VB:=by
 intro pins s σ H xs us Q I r h
 obtain ⟨v,ok,d,rfl,t,⟨sh,hd,hdp,hl⟩,q⟩:=h
 obtain ⟨u,rfl,rv⟩:=vals1 r
 have nodict:∀ as:List Addr,d.hasDict=true->¬ sysModules∈as:=fun as z=>by rw[hd] at z; cases z
 cases t with
 | non=>cases rv; exact P.repr_of_none ⟨.str _,H,I.tok _,⟨_,rfl⟩,q⟩
 | bl b=>cases rv; exact P.repr_of_bool ⟨.str _,H,I.tok _,⟨_,rfl⟩,q⟩
 | int i=>
  obtain ⟨t,rfl⟩:=rv
  exact P.repr_of_int (of_decide_eq_true sh) ⟨.str _,H,I.tok _,⟨_,rfl⟩,q⟩
 | str x=>
  obtain ⟨t,rfl⟩:=rv
  exact P.repr_of_str ⟨.str _,H,I.tok _,⟨_,rfl⟩,q⟩ hl
 | lst o e z t=>
  obtain ⟨as,rd⟩:=aX.reads I (aX.lst o e z t) rv
  cases rv
  exact repr_of_reads' rd sh (nodict as) hg ω (fun _ _ z=>z) (fun h' u tk k=>⟨.str _,H,I.kept k,⟨_,rfl⟩,q⟩) hl
 | tup o e z t=>
  obtain ⟨as,rd⟩:=aX.reads I (aX.tup o e z t) rv
  cases rv
  exact repr_of_reads' rd sh (nodict as) hg ω (fun _ _ z=>z) (fun h' u tk k=>⟨.str _,H,I.kept k,⟨_,rfl⟩,q⟩) hl
theorem qM {x:PyData}:∀ {ds:List PyData},x∈ds->x.depth<=PyData.depthAll ds
 | y :: ds,h=>by
  rw[PyData.depthAll.eq_2]
  rcases List.mem_cons.mp h with rfl | z
  ·omega
  ·have:=qM z; omega
inductive zJ (H:Hp):List V->List (List Nat)->Prop
 | nil:zJ H [] []
 | cons {t:Addr} {p:List Nat} {vs:List V} {ps:List (List Nat)}:H t=some (.tup (cI p))->zJ H vs ps->zJ H (.ref t :: vs) (p :: ps)
theorem Hr {H H':Hp}{l:Addr}{o:HO}(s:Same H H') (h:H l=none):Same H (upd H' l o):=fun b u e=>by
 rw[aH (aF e h)]
 exact s b u e
section
variable {ok:Addr->Prop}{σ:St}{H0:Hp}
end
section
variable {X:Cx}{a:Expr}{ta:TE}
def trq (ob:Option HO) (H:Hp) (Q:Bool->Hp->Prop):Prop:=match ob with
 | some (.lst xs)=>Q (!xs.isEmpty) H
 | some (.tup xs)=>Q (!xs.isEmpty) H
 | _=>False
def Vo (x:V) (H:Hp) (Q:Bool->Hp->Prop):Prop:=match x with
 | .ref p=>trq (H p) H Q
 | .bl b=>Q b H
 | .int i=>Q (i != 0) H
 | .non=>Q false H
 | _=>False
def Vp (te:TE):TT:=fun σ H Q=>te σ H fun x H1=>Vo x H1 Q
theorem Qm (te:TE) (σ:St) (H:Hp) (Q:Bool->Hp->Prop):Vp te σ H Q=te σ H fun x H1=>Vo x H1 Q:=rfl
theorem JX (p:Addr) (H:Hp) (Q:Bool->Hp->Prop):Vo (.ref p) H Q=trq (H p) H Q:=rfl
theorem Qk (xs:List V) (H:Hp) (Q:Bool->Hp->Prop):trq (some (.lst xs)) H Q=Q (!xs.isEmpty) H:=rfl
theorem V7 (ha:PE X a ta) (he:∀ whole,isTrue a X.env whole=(do let v <- whole; standAt a.pos; holding [v] (truthy v))):PT X a (Vp ta):=by
 intro pins s σ H Q I h
 refine isTrue_plain (thE (ha pins s σ H _ I h) fun v s1 x H1 I1 r1 q1=>Vn pins s1 σ H1 x v Q I1 r1 ?_) (he _)
 cases x with
 | ref p=>
  replace q1:trq (H1 p) H1 Q:=q1
  unfold trq at q1
  split at q1
  ·rename_i xs e
   exact ⟨_,.inl ⟨xs,SqL.of e,rfl⟩,q1⟩
  ·rename_i xs e
   exact ⟨_,.inr (.inl ⟨xs,SqT.of e,rfl⟩),q1⟩
  ·exact q1.elim
 | bl b=>exact ⟨_,rfl,q1⟩
 | int i=>exact ⟨_,rfl,q1⟩
 | non=>exact ⟨_,rfl,q1⟩
 | _=>exact (show False from q1).elim
theorem VP (h:QE X a ta) (he:∀ whole,isTrue a X.env whole=(do let v <- whole; standAt a.pos; holding [v] (truthy v)):=by intro _; rfl):QT X a (Vp ta):=⟨V7 h.h he⟩
end
def stD (s:Int×Int×Int):PyData:=.tuple [.int s.1,.int s.2.1,.int s.2.2]
structure X5 (ss:List (Int×Int×Int)):Prop where
 lh:∀ (i:Nat) s,ss[i]?=some s->s.1<=s.2.1/\0<=s.2.2/\s.2.2<=9
 nx:∀ (i:Nat) s t,ss[i]?=some s->ss[i + 1]?=some t->t.1=s.2.1 + 1
 bd:∀ (i:Nat) s,ss[i]?=some s->-(10 ^ 12)<=s.1/\s.2.1<=10 ^ 9 + (10 ^ 12 + 10) * (i + 1)
theorem PB.shw {d:PyData}(t:PB d):Shw d:=⟨(yh d t.sm).1,(yh d t.sm).2,t.dp,t.len⟩
section
variable {κ:Type} [DecidableEq κ]
def gR (kvs:List (κ×V)) (k:κ):Option V:=(kvs.find? fun kv=>decide (kv.1=k)).map (·.2)
def putK (kvs:List (κ×V)) (k:κ) (v:V):List (κ×V):=
 if (kvs.any fun kv=>decide (kv.1=k))=true then kvs.map (fun kv=>if kv.1=k then (kv.1,v) else kv) else kvs ++ [(k,v)]
theorem dX {p:κ×V}{r:List (κ×V)}{k:κ}(e:p.1=k):gR (p :: r) k=some p.2:=by simp [gR,List.find?_cons,e]
theorem dY {p:κ×V}{r:List (κ×V)}{k:κ}(e:¬ p.1=k):gR (p :: r) k=gR r k:=by simp [gR,List.find?_cons,e]
theorem ug (k:κ):∀ kvs:List (κ×V),(kvs.any fun kv=>decide (kv.1=k))=(gR kvs k).isSome
 | []=>rfl
 | p :: r=>by
  rw[List.any_cons]
  by_cases e:p.1=k
  ·simp only[dX e,decide_eq_true e,Bool.true_or,Option.isSome_some]
  ·rw[dY e,decide_eq_false e,Bool.false_or]; exact ug k r
theorem zQ (k j:κ) (y:V):∀ kvs:List (κ×V),gR (kvs.map fun kv=>if kv.1=k then (kv.1,y) else kv) j=(gR kvs j).map fun x=>if j=k then y else x
 | []=>rfl
 | p :: r=>by
  have ih:=zQ k j y r
  rw[List.map_cons]
  by_cases h:p.1=k
  ·rw[if_pos h]
   by_cases e:p.1=j
   ·rw[dX (p:=(p.1,y)) e,dX e,Option.map_some,if_pos (e.symm.trans h)]
   ·rw[dY (p:=(p.1,y)) e,dY e,ih]
  ·rw[if_neg h]
   by_cases e:p.1=j
   ·rw[dX (p:=p) e,dX e,Option.map_some,if_neg (fun z=>h (e.trans z))]
   ·rw[dY (p:=p) e,dY e,ih]
theorem wG (k j:κ) (y:V):∀ kvs:List (κ×V),gR kvs k=none->gR (kvs ++ [(k,y)]) j=if j=k then some y else gR kvs j
 | [],_=>by
  by_cases e:k=j
  ·rw[if_pos e.symm]; exact dX (p:=(k,y)) e
  ·rw[if_neg (fun z=>e z.symm)]; exact dY (p:=(k,y)) e
 | p :: r,hn=>by
  rw[List.cons_append]
  have hk:¬ p.1=k:=fun z=>by rw[dX z] at hn; cases hn
  rw[dY hk] at hn
  have ih:=wG k j y r hn
  by_cases e:p.1=j
  ·rw[dX e,dX e,if_neg (fun z=>hk (e.trans z))]
  ·rw[dY e,dY e,ih]
theorem JL (kvs:List (κ×V)) (k j:κ) (y:V):gR (putK kvs k y) j=if j=k then some y else gR kvs j:=by
 unfold putK
 by_cases a:(kvs.any fun kv=>decide (kv.1=k))=true
 ·rw[if_pos a,zQ]
  rw[ug] at a
  by_cases e:j=k
  ·obtain ⟨x,hx⟩:=Option.isSome_iff_exists.mp a
   rw[if_pos e,e,hx,Option.map_some,if_pos rfl]
  ·rw[if_neg e]
   cases gR kvs j with
   | none=>rfl
   | some x=>rw[Option.map_some,if_neg e]
 ·rw[if_neg a]
  refine wG k j y kvs ?_
  rw[ug] at a
  cases q:gR kvs k with
  | none=>rfl
  | some x=>rw[q] at a; exact (a rfl).elim
theorem Bo (kvs:List (κ×V)) (k:κ) (v:V):(putK kvs k v).length<=kvs.length + 1:=by
 unfold putK
 split
 ·rw[List.length_map]; omega
 ·rw[List.length_append,List.length_cons,List.length_nil]; omega
theorem zH.xr {o:Option V}{u:Option Value}(r:zH o u):o.isSome=u.isSome:=by
 cases o with
 | none=>cases u with
  | none=>rfl
  | some _=>exact (show False from r).elim
 | some _=>cases u with
  | none=>exact (show False from r).elim
  | some _=>rfl
theorem zH.getD {o:Option V}{u:Option Value}{d:V}{d':Value}(r:zH o u) (rd:RelV d d'):RelV (o.getD d) (u.getD d'):=by
 cases o with
 | none=>cases u with
  | none=>exact rd
  | some _=>exact (show False from r).elim
 | some _=>cases u with
  | none=>exact (show False from r).elim
  | some _=>exact r
theorem KV.val {kvs:List (κ×V)}{vs:List (κ×Value)}(r:KV kvs vs) (k:κ):zH (gR kvs k) (valueAt vs k):=by
 unfold KV at r
 induction r with
 | nil=>exact True.intro
 | @cons p q ps qs h t ih=>
  obtain ⟨h1,h2⟩:=h
  by_cases e:p.1=k
  ·have e':q.1=k:=h1.symm.trans e
   have b:valueAt (q :: qs) k=some q.2:=by simp [valueAt,List.find?_cons,e']
   rw[dX e,b]; exact h2
  ·have e':¬ q.1=k:=fun z=>e (h1.trans z)
   have b:valueAt (q :: qs) k=valueAt qs k:=by simp [valueAt,List.find?_cons,e']
   rw[dY e,b]; exact ih
theorem KV.any {kvs:List (κ×V)}{vs:List (κ×Value)}(r:KV kvs vs) (k:κ):(kvs.any fun kv=>decide (kv.1=k))=vs.any fun kv=>decide (kv.1=k):=by
 unfold KV at r
 induction r with
 | nil=>rfl
 | cons h t ih=>rw[List.any_cons,List.any_cons,ih,h.1]
theorem KV.repl {kvs:List (κ×V)}{vs:List (κ×Value)}(r:KV kvs vs) (k:κ) {y:V}{u:Value}(ry:RelV y u) :
  KV (kvs.map fun kv=>if kv.1=k then (kv.1,y) else kv) (vs.map fun kv=>if kv.1=k then (kv.1,u) else kv):=by
 unfold KV at r |-
 induction r with
 | nil=>exact .nil
 | @cons p q ps qs h t ih=>
  rw[List.map_cons,List.map_cons]
  refine .cons ?_ ih
  obtain ⟨h1,h2⟩:=h
  by_cases e:p.1=k
  ·rw[if_pos e,if_pos (h1.symm.trans e)]; exact ⟨h1,ry⟩
  ·rw[if_neg e,if_neg (fun z=>e (h1.trans z))]; exact ⟨h1,h2⟩
theorem KV.put {kvs:List (κ×V)}{vs:List (κ×Value)}(r:KV kvs vs) (k:κ) {y:V}{u:Value}(ry:RelV y u):KV (putK kvs k y) (stored vs k u):=by
 unfold putK stored
 rw[r.any k]
 by_cases e:(vs.any fun kv=>decide (kv.1=k))=true
 ·rw[if_pos e,if_pos e]; exact r.repl k ry
 ·rw[if_neg e,if_neg e]; exact Paired.snoc r ⟨rfl,ry⟩
end
theorem Nj {P:Program}{w:World}{k:Key}{u:Value}(r:RelV (kV k) u):(b8 P w).is k u=true:=by
 cases k with
 | inl i=>obtain ⟨t,e⟩:=(show ∃ t,u=Value.int i t from r); subst e; exact Bj P w i t
 | inr x=>obtain ⟨t,e⟩:=(show ∃ t,u=Value.str x t from r); subst e; exact Bh P w x t
theorem xq {P:Program}{w:World}:∀ {ks:List Key}{us:List Value},Vals (ks.map kV) us->ItemsAre (b8 P w) ks us
 | [],_,r=>by rw[List.map_nil] at r; cases r; exact .nil
 | k :: ks,_,r=>by
  rw[List.map_cons] at r
  cases r with
  | cons h t=>exact .cons (Nj h) (xq t)
abbrev KT (H:Hp):List (List Key×V)->List (List Key×Addr×Value)->Prop:=Paired fun p q=>p.1=q.1/\H q.2.1=some (.tup (p.1.map kV))/\RelV p.2 q.2.2
theorem KT.val {H:Hp}{kvs:List (List Key×V)}{xs:List (List Key×Addr×Value)}(r:KT H kvs xs) (k:List Key):zH (gR kvs k) ((atKey xs k).map (·.2)):=by
 induction r with
 | nil=>exact True.intro
 | @cons p q ps qs h t ih=>
  obtain ⟨h1,_,h2⟩:=h
  by_cases e:p.1=k
  ·have e':q.1=k:=h1.symm.trans e
   have b:atKey (q :: qs) k=some q.2:=by simp [atKey,List.find?_cons,e']
   rw[dX e,b]; exact h2
  ·have e':¬ q.1=k:=fun z=>e (h1.trans z)
   have b:atKey (q :: qs) k=atKey qs k:=by simp [atKey,List.find?_cons,e']
   rw[dY e,b]; exact ih
section
variable {P:Program}{w:World}{H:Hp}{h:Heap}{a:Addr}
theorem Vd {u:HO}(ok:HOk P w H h) (e:Rd H a u):cA P w H h a u:=e.ok ok
theorem YW {kvs:List (Key×V)}(ok:HOk P w H h) (e:Rd H a (.dK kvs)):kvs.length<=sizeLine/\(a == sysModules)=false/\∃ vs,KV kvs vs/\h.DictOf (b8 P w) a vs:=
 show cA P w H h a (.dK kvs) from Vd ok e
theorem Nh {ks:List Key}(ok:HOk P w H h) (e:H a=some (.tup (ks.map kV))):(tupleKind (b8 P w)).is h ks a:=by
 obtain ⟨_,its,r,o,h1,h2,n,h3⟩:=(show cA P w H h a (.tup (ks.map kV)) from ok a _ e)
 exact ⟨o,its.toArray,n,h1,h2,h3,by simpa using xq r⟩
theorem YT {kvs:List (List Key×V)}(ok:HOk P w H h) (e:Rd H a (.dT kvs)):kvs.length<=sizeLine/\(a == sysModules)=false /\
  ∃ xs,KT H kvs xs/\h.DictOfH (tupleKind (b8 P w)) a xs:=by
 obtain ⟨z,y,xs,r,o,es,ep,h1,h2,h3,h4,h5⟩:=(show cA P w H h a (.dT kvs) from Vd ok e)
 refine ⟨z,y,xs,r,o,es,ep,h1,h2,h3,h4,fun x hx=>?_,h5⟩
 have all:∀ {l:List (List Key×V)} {m:List (List Key×Addr×Value)},KT H l m->∀ x∈m,(tupleKind (b8 P w)).is h x.1 x.2.1:=by
  intro l m q
  induction q with
  | nil=>intro x hx; exact nomatch hx
  | @cons p q ps qs hq t ih=>
   intro x hx
   rcases List.mem_cons.mp hx with e | hx
   ·subst e
    exact Nh ok (by rw[<- hq.1]; exact hq.2.1)
   ·exact ih x hx
 exact all r x hx
end
def Qa (H:Hp) (a:Addr) (y:V) (r:Option V):Prop:=
 (∃ kvs k,Rd H a (.dK kvs)/\y=kV k/\r=gR kvs k)\/∃ kvs k b,Rd H a (.dT kvs)/\y=.ref b/\H b=some (.tup (k.map kV))/\r=gR kvs k
def DPut (H:Hp) (a:Addr) (y v:V) (H':Hp):Prop:=
 (∃ kvs k,H a=some (.dK kvs)/\y=kV k/\kvs.length < sizeLine/\H'=upd H a (.dK (putK kvs k v))) \/
 ∃ kvs k b,H a=some (.dT kvs)/\y=.ref b/\H b=some (.tup (k.map kV))/\kvs.length < sizeLine/\H'=upd H a (.dT (putK kvs k v))
theorem Qa.k {H:Hp}{a:Addr}{kvs:List (Key×V)}{k:Key}(e:H a=some (.dK kvs)):Qa H a (kV k) (gR kvs k):=.inl ⟨kvs,k,.inl e,rfl,rfl⟩
section
variable {X:Cx}{pins:List (Addr×Obj)}{σ:St}{H:Hp}{s:Shared}{a:Addr}{y v:V}{u r:Value}{o:Option V}{A:Around}{E:Value->Shared->Prop}
theorem Inv.big (I:Inv X pins σ H s):sysModules < s.heap.objs.size:=by
 have h:mainGlobals < s.heap.objs.size:=(I.mod.glob.keeps I.bk).lt
 exact Nat.lt_trans δ h
theorem Ui {Q:Value->Shared->Prop}(hu:A.units + 1 < cLine) (I:Inv X pins σ H s) (g:Qa H a y o) (ry:RelV y u) (h:∀ s',Inv X pins σ H s'->Q (.bool (!o.isSome)) s') :
  wpAny (model X.prog X.w) A (compareOp .NotIn u (.ref a)) Q E s:=by
 rcases g with ⟨kvs,k,e,ey,l⟩ | ⟨kvs,k,b,e,ey,eb,l⟩
 ·subst ey
  obtain ⟨z,hd,vs,rel,dd⟩:=YW I.hok e
  refine wpAny_notIn_of (Nj ry) hd dd.mapOf ?_
  rw[<- (rel.val k).xr,<- l]
  exact h _ (I.tok _)
 ·subst ey
  cases (show u=Value.ref b from ry)
  obtain ⟨z,hd,xs,rel,dd⟩:=YT I.hok e
  refine wpAny_notIn_heap (tupleKind_room_in1 hu) (Nh I.hok eb) hd dd ?_
  have q:=(rel.val k).xr
  rw[Option.isSome_map] at q
  rw[<- q,<- l]
  exact h _ (I.tok _)
theorem Xy {P:Program}{w:World}{H':Hp}{h':Heap}{kvs:List (Key×V)}{vs:List (Key×Value)}(z:kvs.length<=sizeLine) (hd:(a == sysModules)=false) (rel:KV kvs vs) (dd:h'.DictOf (b8 P w) a vs) :
  cA P w H' h' a (.dK kvs):=⟨z,hd,vs,rel,dd⟩
end
section
variable {X:Cx}{pins:List (Addr×Obj)}{σ:St}{H:Hp}{s:Shared}{a:Addr}{kvs:List (Key×V)}{k:Key}{u:Value}{A:Around}{E:Value->Shared->Prop}
end
section
variable {X:Cx}{o i e value:Expr}{pos pos' tpos:Pos}{td ty tv:TE}
end
theorem Ou {P:Program}{w:World}{H:Hp}(h:Heap) (hb:sysModules < h.objs.size):cA P w H (h.push { cls:=.type "dict",data:=.dict #[] }) h.objs.size (.dK []):=
 ⟨Nat.zero_le _,beq_eq_false_iff_ne.mpr (Ne.symm (Nat.ne_of_lt hb)),[],.nil,Heap.DictOf.new h⟩
section
variable {X:Cx}{pos:Pos}
end
section
variable {X:Cx}{pins:List (Addr×Obj)}{σ:St}{H:Hp}{s:Shared}{a:Addr}{y d:V}{u r:Value}{o:Option V}{A:Around}{E:Value->Shared->Prop}
end
section
variable {X:Cx}{o e f:Expr}{apos cpos:Pos}{td ty tx:TE}
end
section
variable {X:Cx}{pins:List (Addr×Obj)}{σ:St}{H:Hp}{s:Shared}{a:Addr}{kvs:List (Key×V)}{A:Around}{E:Value->Shared->Prop}
end
section
variable {X:Cx}{pins:List (Addr×Obj)}{σ:St}{H:Hp}{s:Shared}{a:Addr}{y:V}{u:Value}{A:Around}{E:Value->Shared->Prop}
end
theorem iV.Vk {k:Nat}{A:Around}(r:iV k A):A.units + 1 < cLine:=by have:=r.un; omega
section
variable {X:Cx}{pos:Pos}
end
def Kw (w:Str):List Int->Bool
 | [a]=>decide (w = "pick") && decide (0<=a)
 | [_,_]=>decide (w = "is") || decide (w = "below")
 | [a,b,_]=>decide (w = "within") && decide (a<=b)
 | [_,wd,bits,_]=>decide (w = "mask") && ((decide (1<=wd) && decide (wd<=64)) && (decide (0<=bits) && decide (bits < 2 ^ wd.toNat)))
 | _=>false
def Ve (is:List Int):List Int:=match is.getLast? with
 | some t=>[t]
 | none=>[]
def NT (w:Str) (is:List Int):List Int:=if w = "pick" then [] else Ve is
def btw (own many:Int) (t:Int):Bool:=decide (own < t) && decide (t < many)
theorem aK.ints {ok:Addr->Prop}{H:Hp}:∀ {xs:List V}{is:List Int},aK ok H xs (is.map PyData.int)->xs=is.map V.int
 | _,[],.nil=>rfl
 | _,i :: is,.cons h r=>by
  cases h
  rw[r.ints]
  rfl
theorem Ec {w:Str}{is:List Int}{t:Int}(h:w ≠ "pick") (hl:is.getLast?=some t):NT w is=[t]:=by
 unfold NT Ve
 rw[if_neg h,hl]
theorem Oe {K:PySem.W.Frag}{a:Addr}{xs:List V}{g:TG}{tb:TS}{D:Ends}{σ:St}{H:Hp}{R:It->Hp->Prop}(hR:R=(fun J H1=>∃ W:Nat->Nat->St->Hp->Prop,(∃ m,W 0 m σ H1)/\∀ i m σ H,W i m σ H ->
  (J.stop i H/\D.nx σ H)\/(J.go i H/\∃ N:St->Hp->Prop,(∀ σ' H',N σ' H'->∃ m',m' < m/\W (i + 1) m' σ' H')/\∀ x H',J.yld i H x H'->g x σ H' fun σ2 H2=>tb { D with nx:=N,ct:=N,bk:=D.nx } σ2 H2)))
  (Pv:Nat->St->Hp->Prop) (h0:Pv 0 σ H) (hl:∀ i σ H,Pv i σ H->H a=some (.lst xs))
  (hs:∀ (i:Nat) x σ H p,xs[i]?=some x->Pv i σ H->H p=none->g (.ref p) σ (upd H p (.tup [.int (i:Nat),x])) fun σ2 H2=>tb { D with nx:=Pv (i + 1),ct:=Pv (i + 1),bk:=D.nx } σ2 H2) (hd:∀ σ H,Pv xs.length σ H->D.nx σ H):R (Ite K a) H:=by
 refine Og hR xs.length Pv h0 (fun i σ H hi p=>?_) (fun σ H p=>?_) (fun i σ H x H3 hi p y=>?_) hd
 ·exact ⟨xs,_,SqL.of (hl i σ H p),List.getElem?_eq_getElem hi⟩
 ·exact ⟨xs,SqL.of (hl _ σ H p),List.getElem?_eq_none (Nat.le_refl _)⟩
 ·obtain ⟨q,x1,rfl,hq,rfl,hx⟩:=y
  exact hs i x1 σ H q (hx _ (SqL.of (hl i σ H p))) p hq
inductive Zu where
 | ins (w:Str) (is:List Int)
 | tab (n:Int) (gs:List Int)
def Y7 (many own:Int):Zu->Prop
 | .ins w is=>w ≠ "table" /\ Kw w is=true/\(NT w is).all (btw own many)=true/\(∀ i∈is,i.natAbs<=2 ^ 64)/\is.length<=4/\w.length<=10
 | .tab n gs=>gs≠[]/\gs.length<=200/\gs.all (btw own many)=true/\n.natAbs<=1000
mutual
def szB:PyData->Bool
 | .none=>true
 | .bool _=>true
 | .int i=>decide (i.natAbs<=10 ^ 20)
 | .str x=>decide (x.length<=30) && x.cps.toList.all fun c=>decide (c < 16 ^ 8)
 | .list ds=>decide (ds.length<=210) && Vt ds
 | .tuple ds=>decide (ds.length<=210) && Vt ds
 | .dict _=>false
def Vt:List PyData->Bool
 | []=>true
 | d :: ds=>szB d && Vt ds
end
structure Od (d:PyData):Prop where
 sz:szD 2 d
 nd:nodes d<=300
 dp:d.depth<=90
theorem YQ {K:PySem.W.Frag}{a:Addr}{xs:List V}{g:TG}{tb:TS}{D:Ends}{σ:St}{H:Hp}{R:It->Hp->Prop}(hR:R=(fun J H1=>∃ W:Nat->Nat->St->Hp->Prop,(∃ m,W 0 m σ H1)/\∀ i m σ H,W i m σ H ->
  (J.stop i H/\D.nx σ H)\/(J.go i H/\∃ N:St->Hp->Prop,(∀ σ' H',N σ' H'->∃ m',m' < m/\W (i + 1) m' σ' H')/\∀ x H',J.yld i H x H'->g x σ H' fun σ2 H2=>tb { D with nx:=N,ct:=N,bk:=D.nx } σ2 H2)))
  (Pv:Nat->St->Hp->Prop) (h0:Pv 0 σ H) (hl:∀ i σ H,Pv i σ H->H a=some (.tup xs))
  (hs:∀ i x σ H,xs[i]?=some x->Pv i σ H->g x σ H fun σ2 H2=>tb { D with nx:=Pv (i + 1),ct:=Pv (i + 1),bk:=D.nx } σ2 H2) (hd:∀ σ H,Pv xs.length σ H->D.nx σ H):R (Itt K a) H:=by
 refine Og hR xs.length Pv h0 (fun i σ H hi p=>?_) (fun σ H p=>?_) (fun i σ H x H3 hi p y=>?_) hd
 ·exact ⟨xs,_,SqT.of (hl i σ H p),List.getElem?_eq_getElem hi⟩
 ·exact ⟨xs,SqT.of (hl _ σ H p),Nat.le_refl _⟩
 ·obtain ⟨rfl,hx⟩:=y
  exact hs i x σ _ (hx _ (SqT.of (hl i σ _ p))) p
structure Sm5 (d:PyData):Prop where
 sz:szD 0 d
 nd:nodes d<=5
 dp:d.depth<=2
theorem uc {prog:Program}{w:World}{A:Around}{E:Value->Shared->Prop}{s:Shared}{z TI TO i1 i2 l1 l2:Addr}{k1 k2:Nat}{xs ys:Array Value}{x y a b:Value}{Q:Value->Shared->Prop}(D:ZipApart z TI TO i1 i2 l1 l2) (hz:IsZip s.heap z TI TO Value.none) (hTI:IsPair s.heap TI (Value.ref i1) (Value.ref i2)) (hTO:IsPair s.heap TO a b)
  (h1:s.heap.IsTupleIter i1 l1 k1) (h2:s.heap.IsTupleIter i2 l2 k2) (hl1:s.heap.IsTuple l1 xs) (hl2:s.heap.IsTuple l2 ys) (hx:xs[k1]?=some x) (hy:ys[k2]?=some y)
  (hQ:∀ h':Heap,IsZip h' z TI TO (rawInt s.heap.objs.size)->IsPair h' TO x y->h'.IsTupleIter i1 l1 (k1 + 1)->h'.IsTupleIter i2 l2 (k2 + 1)->IsPair h' s.heap.objs.size x y->h'.objs.size=s.heap.objs.size + 1->(∀ c o,c≠z->c≠TO->c≠i1->c≠i2->s.heap.get? c=some o->h'.get? c=some o)->Q (Value.ref s.heap.objs.size) { s with heap:=h' }) :
  wpAny (model prog w) A (Builtin.«zip.__next__» { pos:=[Value.ref z] }) (fun fin s'=>∃ v,fin=Fin.done (Flow.ret v)/\Q v s') E s:=by
 show wpAny _ _ (field (Value.ref z) 2 >>= _) _ _ _
 refine wpAny_bind (wpAny_field hz rfl rfl ?_)
 show wpAny _ _ (field (Value.ref z) 3 >>= _) _ _ _
 refine wpAny_bind (wpAny_field hz rfl rfl ?_)
 refine wpAny_bind (wpAny_seqItems hTI rfl ?_)
 show wpAny _ _ (Builtin.SmallTypes.ownedTupleIsFree (Value.ref z) >>= _) _ _ _
 refine wpAny_bind ?_
 show wpAny _ _ (field (Value.ref z) 0 >>= _) _ _ _
 refine wpAny_bind (wpAny_field hz rfl rfl (wpAny_pure ?_))
 show wpAny _ _ (rule _ >>= _) _ _ _
 refine wpAny_bind (wpAny_rule (wpAny_bind (wpAny_field hz rfl rfl ?_)))
 show wpAny _ _ (setField (Value.ref z) 0 Value.ellipsis >>= _) _ _ _
 refine wpAny_bind (wpAny_setField_rec hz (Nat.lt_of_sub_pos (Nat.zero_lt_succ 4)) fun h₁ hz₁ hs₁=>?_)
 have old1:∀ c o,c≠z->s.heap.get? c=some o->h₁.get? c=some o:=fun c o hc e=>(hs₁.2 c hc).trans e
 have h1a:h₁.IsTupleIter i1 l1 k1:=h1.at fun o e=>old1 i1 o D.i1z e
 have h2a:h₁.IsTupleIter i2 l2 k2:=h2.at fun o e=>old1 i2 o D.i2z e
 have tup:∀ {h:Heap} {l:Addr} {vs:Array Value},s.heap.IsTuple l vs->(∀ o,s.heap.get? l=some o->h.get? l=some o)->h.IsTuple l vs:=fun ⟨o,e,r⟩ k=>⟨o,k o e,r⟩
 refine wpAny_bind ?_
 show wpAny _ _ (forIn [(Value.ref i1,0),(Value.ref i2,1)] (none,()) _) _ _ _
 rw[List.forIn_cons]
 refine wpAny_bind ?_
 show wpAny _ _ ((Sem.onRaise (Builtin.SmallTypes.nextOf (Value.ref i1) >>= fun v=>pure (some v)) (fun _=>setField (Value.ref z) 0 Value.none)) >>= _) _ _ _
 refine wpAny_bind (wpAny_onRaise (wpAny_bind (gD (s:={ s with heap:=h₁ }) h1a (tup hl1 fun o e=>old1 l1 o D.l1z e) hx fun h₂ h1b sb₂=>wpAny_pure ?_)))
 have old2:∀ c o,c≠z->c≠i1->s.heap.get? c=some o->h₂.get? c=some o:=fun c o hc hc1 e=>(sb₂.2 c hc1).trans (old1 c o hc e)
 have hTO2:IsPair h₂ TO a b:=old2 TO _ D.TOz D.TOi1 hTO
 show wpAny _ _ (seqItems? (Value.ref TO) >>= _) _ _ _
 refine wpAny_bind (wpAny_seqItems (s:={ s with heap:=h₂ }) hTO2 rfl ?_)
 show wpAny _ _ (updateSeq TO _ >>= _) _ _ _
 refine wpAny_bind (wpAny_updateSeq_pair (s:={ s with heap:=h₂ }) hTO2 fun h₃ g₃ sb₃=>?_)
 refine wpAny_bind (wpAny_letGo (wpAny_pure ?_))
 show wpAny _ _ (forIn [(Value.ref i2,1)] (none,()) _) _ _ _
 rw[List.forIn_cons]
 refine wpAny_bind ?_
 have old3:∀ c o,c≠z->c≠i1->c≠TO->s.heap.get? c=some o->h₃.get? c=some o:=fun c o hc hc1 hc2 e=>(sb₃.2 c hc2).trans (old2 c o hc hc1 e)
 have h2c:h₃.IsTupleIter i2 l2 k2:=h2.at fun o e=>old3 i2 o D.i2z (Ne.symm D.i12) (Ne.symm D.TOi2) e
 have g₃':IsPair h₃ TO x b:=g₃
 show wpAny _ _ ((Sem.onRaise (Builtin.SmallTypes.nextOf (Value.ref i2) >>= fun v=>pure (some v)) (fun _=>setField (Value.ref z) 0 Value.none)) >>= _) _ _ _
 refine wpAny_bind (wpAny_onRaise (wpAny_bind (gD (s:={ s with heap:=h₃ }) h2c (tup hl2 fun o e=>old3 l2 o D.l2z D.l2i1 D.l2TO e) hy fun h₄ h2d sb₄=>wpAny_pure ?_)))
 have hTO4:IsPair h₄ TO x b:=(sb₄.2 TO D.TOi2).trans g₃'
 show wpAny _ _ (seqItems? (Value.ref TO) >>= _) _ _ _
 refine wpAny_bind (wpAny_seqItems (s:={ s with heap:=h₄ }) hTO4 rfl ?_)
 show wpAny _ _ (updateSeq TO _ >>= _) _ _ _
 refine wpAny_bind (wpAny_updateSeq_pair (s:={ s with heap:=h₄ }) hTO4 fun h₅ g₅ sb₅=>?_)
 refine wpAny_bind (wpAny_letGo (wpAny_pure ?_))
 have g₅':IsPair h₅ TO x y:=g₅
 show wpAny _ _ (forIn [] (none,()) _) _ _ _
 rw[List.forIn_nil]
 refine wpAny_pure ?_
 show wpAny _ _ (seqItems? (Value.ref TO) >>= _) _ _ _
 refine wpAny_bind (wpAny_seqItems (s:={ s with heap:=h₅ }) g₅' rfl ?_)
 show wpAny _ _ (newTuple [x,y] >>= _) _ _ _
 refine wpAny_bind (wpAny_newTuple ?_ (by show 2<=sizeLine; decide))
 have sz:h₅.objs.size=s.heap.objs.size:=by
  rw[sb₅.1,sb₄.1,sb₃.1,sb₂.1,hs₁.1]
 have z5:h₅.get? z=_:=(sb₅.2 z (Ne.symm D.TOz)).trans ((sb₄.2 z (Ne.symm D.i2z)).trans ((sb₃.2 z (Ne.symm D.TOz)).trans ((sb₂.2 z (Ne.symm D.i1z)).trans hz₁)))
 have z6:(h₅.push { cls:=Value.type "tuple",data:=Data.seq #[x,y] }).get? z=_:=Heap.get?_push_of_some _ z5
 refine wpAny_bind ?_
 show wpAny _ _ (setField (Value.ref z) 0 (rawInt h₅.objs.size) >>= fun _=>setField (Value.ref z) 1 (Value.bool false)) _ _ _
 refine wpAny_bind (wpAny_setField_rec (s:={ s with heap:=h₅.push { cls:=Value.type "tuple",data:=Data.seq #[x,y] } }) z6 (Nat.lt_of_sub_pos (Nat.zero_lt_succ 4)) fun h₇ hz₇ hs₇=>?_)
 refine wpAny_setField_rec (s:={ s with heap:=h₇ }) hz₇ (Nat.lt_of_sub_pos (Nat.zero_lt_succ 3)) fun h₈ hz₈ hs₈=>?_
 have nzs:s.heap.objs.size≠z:=fun q=>by
  have:=Heap.lt_size hz
  rw[<- q] at this
  exact Nat.lt_irrefl _ this
 have old6:∀ c o,h₅.get? c=some o->(h₅.push { cls:=Value.type "tuple",data:=Data.seq #[x,y] }).get? c=some o:=fun c o e=>Heap.get?_push_of_some _ e
 have old8:∀ c o,c≠z->h₅.get? c=some o->h₈.get? c=some o:=fun c o hc e=>(hs₈.2 c hc).trans ((hs₇.2 c hc).trans (old6 c o e))
 have new8:h₈.get? s.heap.objs.size=some { cls:=Value.type "tuple",data:=Data.seq #[x,y] }:=by
  refine (hs₈.2 _ nzs).trans ((hs₇.2 _ nzs).trans ?_)
  show (h₅.push { cls:=Value.type "tuple",data:=Data.seq #[x,y] }).get? s.heap.objs.size=_
  rw[<- sz]
  exact Heap.get?_push_size _ rfl
 refine wpAny_pure ⟨_,rfl,?_⟩
 rw[show (({ s with heap:=h₅ }:Shared).heap.objs.size)=s.heap.objs.size from sz]
 refine hQ h₈ ?_ ?_ ?_ ?_ new8 ?_ ?_
 ·rw[sz] at hz₈
  exact hz₈
 ·exact old8 TO _ D.TOz g₅'
 ·refine h1b.at fun o e=>old8 i1 o D.i1z ?_
  exact (sb₅.2 i1 (Ne.symm D.TOi1)).trans ((sb₄.2 i1 D.i12).trans ((sb₃.2 i1 (Ne.symm D.TOi1)).trans e))
 ·refine h2d.at fun o e=>old8 i2 o D.i2z ?_
  exact (sb₅.2 i2 (Ne.symm D.TOi2)).trans e
 ·rw[hs₈.1,hs₇.1]
  show (h₅.push { cls:=Value.type "tuple",data:=Data.seq #[x,y] }).objs.size=_
  rw[Heap.size_push,sz]
 ·intro c o hc1 hc2 hc3 hc4 e
  exact old8 c o hc1 ((sb₅.2 c hc2).trans ((sb₄.2 c hc4).trans (old3 c o hc1 hc3 hc2 e)))
theorem kJ {prog:Program}{w:World}{A:Around}{E:Value->Shared->Prop}{s:Shared}{z TI TO i1 i2 l1 l2:Addr}{k1 k2:Nat}{xs ys:Array Value}{x y a b:Value}{Q:Option Value->Shared->Prop}(D:ZipApart z TI TO i1 i2 l1 l2) (hz:IsZip s.heap z TI TO Value.none) (hTI:IsPair s.heap TI (Value.ref i1) (Value.ref i2)) (hTO:IsPair s.heap TO a b)
  (h1:s.heap.IsTupleIter i1 l1 k1) (h2:s.heap.IsTupleIter i2 l2 k2) (hl1:s.heap.IsTuple l1 xs) (hl2:s.heap.IsTuple l2 ys) (hx:xs[k1]?=some x) (hy:ys[k2]?=some y)
  (hQ:∀ h':Heap,IsZip h' z TI TO (rawInt s.heap.objs.size)->IsPair h' TO x y->h'.IsTupleIter i1 l1 (k1 + 1)->h'.IsTupleIter i2 l2 (k2 + 1)->IsPair h' s.heap.objs.size x y->h'.objs.size=s.heap.objs.size + 1->(∀ c o,c≠z->c≠TO->c≠i1->c≠i2->s.heap.get? c=some o->h'.get? c=some o)->Q (some (Value.ref s.heap.objs.size)) { s with heap:=h' }) :
  wpAny (model prog w) A (pyNext (Value.ref z)) Q E s:=by
 have hT:∃ o,s.heap.get? z=some o/\o.cls=Value.type "zip" := ⟨_,hz,rfl⟩
 exact wpAny_bind (wpAny_attempt (wpAny_callSpecial?_slot hT F.slot_zip_next (wpAny_call_entry F.slot_zip_next hT F.entry_zip_next
  (uc D hz hTI hTO h1 h2 hl1 hl2 hx hy fun h' a1 a2 a3 a4 a5 a6 a7=>wpAny_pure (hQ h' a1 a2 a3 a4 a5 a6 a7)) (F.args_zip_next_1 (Value.ref z)))))
theorem vU {prog:Program}{w:World}{A:Around}{E:Value->Shared->Prop}{s:Shared}{z TI TO i1 i2 l1 l2:Addr}{k1 k2:Nat}{xs ys:Array Value}{a b:Value}{Q:PySem.Fin->Shared->Prop}(hh:A.handled=none) (D:ZipApart z TI TO i1 i2 l1 l2) (hz:IsZip s.heap z TI TO Value.none) (hTI:IsPair s.heap TI (Value.ref i1) (Value.ref i2)) (hTO:IsPair s.heap TO a b)
  (h1:s.heap.IsTupleIter i1 l1 k1) (h2:s.heap.IsTupleIter i2 l2 k2) (hl1:s.heap.IsTuple l1 xs) (hl2:s.heap.IsTuple l2 ys) (hend:xs[k1]?=none\/ys[k2]?=none)
  (hE:∀ (h':Heap) (e:Addr),(∀ c o,c≠z->c≠TO->c≠i1->c≠i2->s.heap.get? c=some o->h'.get? c=some o)->(∃ o,h'.get? e=some o/\o.cls=Value.type "StopIteration")->E (Value.ref e) { s with heap:=h' }) :
  wpAny (model prog w) A (Builtin.«zip.__next__» { pos:=[Value.ref z] }) Q E s:=by
 show wpAny _ _ (field (Value.ref z) 2 >>= _) _ _ _
 refine wpAny_bind (wpAny_field hz rfl rfl ?_)
 show wpAny _ _ (field (Value.ref z) 3 >>= _) _ _ _
 refine wpAny_bind (wpAny_field hz rfl rfl ?_)
 refine wpAny_bind (wpAny_seqItems hTI rfl ?_)
 show wpAny _ _ (Builtin.SmallTypes.ownedTupleIsFree (Value.ref z) >>= _) _ _ _
 refine wpAny_bind ?_
 show wpAny _ _ (field (Value.ref z) 0 >>= _) _ _ _
 refine wpAny_bind (wpAny_field hz rfl rfl (wpAny_pure ?_))
 show wpAny _ _ (rule _ >>= _) _ _ _
 refine wpAny_bind (wpAny_rule (wpAny_bind (wpAny_field hz rfl rfl ?_)))
 show wpAny _ _ (setField (Value.ref z) 0 Value.ellipsis >>= _) _ _ _
 refine wpAny_bind (wpAny_setField_rec hz (Nat.lt_of_sub_pos (Nat.zero_lt_succ 4)) fun h₁ hz₁ hs₁=>?_)
 have old1:∀ c o,c≠z->s.heap.get? c=some o->h₁.get? c=some o:=fun c o hc e=>(hs₁.2 c hc).trans e
 have h1a:h₁.IsTupleIter i1 l1 k1:=h1.at fun o e=>old1 i1 o D.i1z e
 have tup:∀ {h:Heap} {l:Addr} {vs:Array Value},s.heap.IsTuple l vs->(∀ o,s.heap.get? l=some o->h.get? l=some o)->h.IsTuple l vs:=fun ⟨o,e,r⟩ k=>⟨o,k o e,r⟩
 have out:∀ {h:Heap} {e:Addr} {vs:Array Value},h.get? z=some { cls:=Value.type "zip",data:=Data.fields vs }->0 < vs.size->(∀ c o,c≠z->c≠TO->c≠i1->c≠i2->s.heap.get? c=some o->h.get? c=some o)->(∃ o,h.get? e=some o/\o.cls=Value.type "StopIteration") ->
   wpAny (model prog w) A (setField (Value.ref z) 0 Value.none) (fun _ s''=>E (Value.ref e) s'') E { s with heap:=h }:=fun {h e vs} ez hv hk he=>by
  refine wpAny_setField_rec (s:={ s with heap:=h }) ez hv fun h' _ hs=>hE h' e (fun c o c1 c2 c3 c4 g=>(hs.2 c c1).trans (hk c o c1 c2 c3 c4 g)) ?_
  obtain ⟨o,ho,hc⟩:=he
  refine ⟨o,(hs.2 e fun q=>?_).trans ho,hc⟩
  rw[q,ez] at ho
  cases ho
  injection hc with hc
  exact absurd hc δ
 refine wpAny_bind ?_
 show wpAny _ _ (forIn [(Value.ref i1,0),(Value.ref i2,1)] (none,()) _) _ _ _
 rw[List.forIn_cons]
 refine wpAny_bind ?_
 show wpAny _ _ ((Sem.onRaise (Builtin.SmallTypes.nextOf (Value.ref i1) >>= fun v=>pure (some v)) (fun _=>setField (Value.ref z) 0 Value.none)) >>= _) _ _ _
 cases hx:xs[k1]? with
 | none=>
  refine wpAny_bind (wpAny_onRaise (wpAny_bind (j6 (s:={ s with heap:=h₁ }) hh h1a (tup hl1 fun o e=>old1 l1 o D.l1z e) hx fun h₂ e ext he=>?_)))
  exact out (h:=h₂) (ext z _ (Ne.symm D.i1z) hz₁) (Nat.lt_of_sub_pos (Nat.zero_lt_succ 4)) (fun c o c1 c2 c3 c4 g=>ext c o c3 (old1 c o c1 g)) he
 | some x=>
  have hy:ys[k2]?=none:=by
   rcases hend with q | q
   ·rw[hx] at q; cases q
   ·exact q
  refine wpAny_bind (wpAny_onRaise (wpAny_bind (gD (s:={ s with heap:=h₁ }) h1a (tup hl1 fun o e=>old1 l1 o D.l1z e) hx fun h₂ h1b sb₂=>wpAny_pure ?_)))
  have old2:∀ c o,c≠z->c≠i1->s.heap.get? c=some o->h₂.get? c=some o:=fun c o hc hc1 e=>(sb₂.2 c hc1).trans (old1 c o hc e)
  have hTO2:IsPair h₂ TO a b:=old2 TO _ D.TOz D.TOi1 hTO
  show wpAny _ _ (seqItems? (Value.ref TO) >>= _) _ _ _
  refine wpAny_bind (wpAny_seqItems (s:={ s with heap:=h₂ }) hTO2 rfl ?_)
  show wpAny _ _ (updateSeq TO _ >>= _) _ _ _
  refine wpAny_bind (wpAny_updateSeq_pair (s:={ s with heap:=h₂ }) hTO2 fun h₃ g₃ sb₃=>?_)
  refine wpAny_bind (wpAny_letGo (wpAny_pure ?_))
  show wpAny _ _ (forIn [(Value.ref i2,1)] (none,()) _) _ _ _
  rw[List.forIn_cons]
  refine wpAny_bind ?_
  have old3:∀ c o,c≠z->c≠i1->c≠TO->s.heap.get? c=some o->h₃.get? c=some o:=fun c o hc hc1 hc2 e=>(sb₃.2 c hc2).trans (old2 c o hc hc1 e)
  have h2c:h₃.IsTupleIter i2 l2 k2:=h2.at fun o e=>old3 i2 o D.i2z (Ne.symm D.i12) (Ne.symm D.TOi2) e
  have z3:h₃.get? z=_:=(sb₃.2 z (Ne.symm D.TOz)).trans ((sb₂.2 z (Ne.symm D.i1z)).trans hz₁)
  show wpAny _ _ ((Sem.onRaise (Builtin.SmallTypes.nextOf (Value.ref i2) >>= fun v=>pure (some v)) (fun _=>setField (Value.ref z) 0 Value.none)) >>= _) _ _ _
  refine wpAny_bind (wpAny_onRaise (wpAny_bind (j6 (s:={ s with heap:=h₃ }) hh h2c (tup hl2 fun o e=>old3 l2 o D.l2z D.l2i1 D.l2TO e) hy fun h₄ e ext he=>?_)))
  exact out (h:=h₄) (ext z _ (Ne.symm D.i2z) z3) (Nat.lt_of_sub_pos (Nat.zero_lt_succ 4)) (fun c o c1 c2 c3 c4 g=>ext c o c4 (old3 c o c1 c3 c2 g)) he
theorem mC {prog:Program}{w:World}{A:Around}{E:Value->Shared->Prop}{s:Shared}{z TI TO i1 i2 l1 l2:Addr}{k1 k2:Nat}{xs ys:Array Value}{a b:Value}{Q:Option Value->Shared->Prop}(hh:A.handled=none) (D:ZipApart z TI TO i1 i2 l1 l2) (hz:IsZip s.heap z TI TO Value.none) (hTI:IsPair s.heap TI (Value.ref i1) (Value.ref i2)) (hTO:IsPair s.heap TO a b)
  (h1:s.heap.IsTupleIter i1 l1 k1) (h2:s.heap.IsTupleIter i2 l2 k2) (hl1:s.heap.IsTuple l1 xs) (hl2:s.heap.IsTuple l2 ys) (hend:xs[k1]?=none\/ys[k2]?=none)
  (hQ:∀ h':Heap,(∀ c o,c≠z->c≠TO->c≠i1->c≠i2->s.heap.get? c=some o->h'.get? c=some o)->Q none { s with heap:=h' }):wpAny (model prog w) A (pyNext (Value.ref z)) Q E s:=by
 have hT:∃ o,s.heap.get? z=some o/\o.cls=Value.type "zip" := ⟨_,hz,rfl⟩
 exact wpAny_bind (wpAny_attempt (wpAny_callSpecial?_slot hT F.slot_zip_next (wpAny_call_entry F.slot_zip_next hT F.entry_zip_next
  (vU hh D hz hTI hTO h1 h2 hl1 hl2 hend fun h' e hk he=>by
   obtain ⟨o,ho,hc⟩:=he
   exact wpAny_bind (wpAny_isInstance ⟨o,ho,hc⟩ isSubtype_stop (wpAny_pure (hQ h' hk)))) (F.args_zip_next_1 (Value.ref z)))))
def tz1 (h:Heap) (l1:Addr):Heap:=h.push { cls:=Value.type "tuple_iterator",data:=Data.fields #[Value.ref l1,Value.int 0 0] }
def tz2 (h:Heap) (l1 l2:Addr):Heap:=(tz1 h l1).push { cls:=Value.type "tuple_iterator",data:=Data.fields #[Value.ref l2,Value.int 0 0] }
def tz3 (h:Heap) (l1 l2:Addr):Heap:=(tz2 h l1 l2).push { cls:=Value.type "tuple",data:=Data.seq #[Value.ref h.objs.size,Value.ref (tz1 h l1).objs.size] }
def tz4 (h:Heap) (l1 l2:Addr):Heap:=(tz3 h l1 l2).push { cls:=Value.type "tuple",data:=Data.seq #[Value.none,Value.none] }
def tz5 (h:Heap) (l1 l2:Addr):Heap:=(tz4 h l1 l2).push { cls:=Value.type "zip",data:=Data.fields #[Value.none,Value.bool false,Value.bool false,Value.ref (tz2 h l1 l2).objs.size,Value.ref (tz3 h l1 l2).objs.size] }
theorem JK (l1 l2:Addr) (xs ys:Array Value):Meets (Builtin.«zip.__new__» { pos:=[Value.type "zip",Value.ref l1,Value.ref l2] }) fun _ R s=>
  s.heap.IsTuple l1 xs/\s.heap.IsTuple l2 ys/\R (.ok (.ret (.ref (tz4 s.heap l1 l2).objs.size))) { s with heap:=tz5 s.heap l1 l2 }:=by
 refine Meets.of_wp fun prog w A R s h=>?_
 obtain ⟨ht1,ht2,hR⟩:=h
 unfold Builtin.«zip.__new__» Builtin.SmallTypes.newClass
 refine wpAny_bind (wpAny_bind (wpAny_pure (wpAny_ite_false rfl (wpAny_bind (wpAny_of_eq sub_zip (wpAny_ite_false rfl (wpAny_pure ?_)))))))
 show wpAny _ _ (Builtin.SmallTypes.iterAll [Value.ref l1,Value.ref l2] >>= _) _ _ _
 refine wpAny_bind ?_
 unfold Builtin.SmallTypes.iterAll
 refine wpAny_bind ?_
 rw[List.forIn_cons]
 refine wpAny_bind (wpAny_bind (wpAny_holding (wpAny_pyIter_tuple ht1 (wpAny_pure ?_))))
 show wpAny _ _ (forIn [Value.ref l2] #[Value.ref s.heap.objs.size] _) _ _ _
 rw[List.forIn_cons]
 have ht2':(tz1 s.heap l1).IsTuple l2 ys:=by
  obtain ⟨o,e,r⟩:=ht2
  exact ⟨o,Heap.get?_push_of_some _ e,r⟩
 refine wpAny_bind (wpAny_bind (wpAny_holding (wpAny_pyIter_tuple (s:={ s with heap:=tz1 s.heap l1 }) ht2' (wpAny_pure ?_))))
 show wpAny _ _ (forIn [] #[Value.ref s.heap.objs.size,Value.ref (tz1 s.heap l1).objs.size] _) _ _ _
 rw[List.forIn_nil]
 refine wpAny_pure (wpAny_pure ?_)
 show wpAny _ _ (newTuple [Value.ref s.heap.objs.size,Value.ref (tz1 s.heap l1).objs.size] >>= _) _ _ { s with heap:=tz2 s.heap l1 l2 }
 refine wpAny_bind (wpAny_newTuple ?_ (by show 2<=sizeLine; decide))
 show wpAny _ _ (newTuple [Value.none,Value.none] >>= _) _ _ { s with heap:=tz3 s.heap l1 l2 }
 refine wpAny_bind (wpAny_newTuple ?_ (by show 2<=sizeLine; decide))
 show wpAny _ _ (newObj (.type "zip") (.fields #[.none,.bool false,.bool false,.ref (tz2 s.heap l1 l2).objs.size,.ref (tz3 s.heap l1 l2).objs.size]) >>= fun r=>ret r) _ _ { s with heap:=tz4 s.heap l1 l2 }
 refine wpAny_bind (wpAny_newObj_type ?_)
 exact wpAny_pure ⟨_,rfl,hR⟩
theorem BP {prog:Program}{w:World}{A:Around}{E:Value->Shared->Prop}{s:Shared}{l1 l2:Addr}{xs ys:Array Value}{Q:Value->Shared->Prop}(hl1:s.heap.IsTuple l1 xs) (hl2:s.heap.IsTuple l2 ys)
  (h:∀ h':Heap,IsZip h' (s.heap.objs.size + 4) (s.heap.objs.size + 2) (s.heap.objs.size + 3) Value.none->IsPair h' (s.heap.objs.size + 2) (Value.ref s.heap.objs.size) (Value.ref (s.heap.objs.size + 1))->IsPair h' (s.heap.objs.size + 3) Value.none Value.none->h'.IsTupleIter s.heap.objs.size l1 0->h'.IsTupleIter (s.heap.objs.size + 1) l2 0 ->
   h'.objs.size=s.heap.objs.size + 5->(∀ c o,s.heap.get? c=some o->h'.get? c=some o)->Q (Value.ref (s.heap.objs.size + 4)) { s with heap:=h' }):wpAny (model prog w) A (call (Value.type "zip") [Value.ref l1,Value.ref l2]) Q E s:=by
 refine callType_new F.called_zip δ (F.typeCall_zip_2 _ _) (F.newCall_zip_2 _ _) (fun obj=>F.args_object_init_3 obj _ _) F.entry_zip_new (JK l1 l2 xs ys) ⟨hl1,hl2,?_⟩
 have z1:(tz1 s.heap l1).objs.size=s.heap.objs.size + 1:=Heap.size_push ..
 have z2:(tz2 s.heap l1 l2).objs.size=s.heap.objs.size + 2:=(Heap.size_push ..).trans (by rw[z1])
 have z3:(tz3 s.heap l1 l2).objs.size=s.heap.objs.size + 3:=(Heap.size_push ..).trans (by rw[z2])
 have z4:(tz4 s.heap l1 l2).objs.size=s.heap.objs.size + 4:=(Heap.size_push ..).trans (by rw[z3])
 have z5:(tz5 s.heap l1 l2).objs.size=s.heap.objs.size + 5:=(Heap.size_push ..).trans (by rw[z4])
 have g5:(tz5 s.heap l1 l2).get? (tz4 s.heap l1 l2).objs.size=_:=Heap.get?_push_size _ rfl
 have g4:(tz5 s.heap l1 l2).get? (tz3 s.heap l1 l2).objs.size=_:=Heap.get?_push_of_some _ (Heap.get?_push_size _ rfl)
 have g3:(tz5 s.heap l1 l2).get? (tz2 s.heap l1 l2).objs.size=_:=Heap.get?_push_of_some _ (Heap.get?_push_of_some _ (Heap.get?_push_size _ rfl))
 have g2:(tz5 s.heap l1 l2).get? (tz1 s.heap l1).objs.size=_:=Heap.get?_push_of_some _ (Heap.get?_push_of_some _ (Heap.get?_push_of_some _ (Heap.get?_push_size _ rfl)))
 have g1:(tz5 s.heap l1 l2).get? s.heap.objs.size=_:=Heap.get?_push_of_some _ (Heap.get?_push_of_some _ (Heap.get?_push_of_some _ (Heap.get?_push_of_some _ (Heap.get?_push_size _ rfl))))
 have hk:∀ c o,s.heap.get? c=some o->(tz5 s.heap l1 l2).get? c=some o:=fun c o e=>Heap.get?_push_of_some _ (Heap.get?_push_of_some _ (Heap.get?_push_of_some _ (Heap.get?_push_of_some _ (Heap.get?_push_of_some _ e))))
 rw[z4,z2,z3] at g5
 rw[z3] at g4
 rw[z2,z1] at g3
 rw[z1] at g2
 rw[z4]
 generalize tz5 s.heap l1 l2=h' at z5 g5 g4 g3 g2 g1 hk
 exact ⟨⟨_,g5,rfl⟩,h h' g5 g3 g4 ⟨_,g1,rfl,rfl⟩ ⟨_,g2,rfl,rfl⟩ z5 hk⟩
def Itu (K:PySem.W.Frag) (a b:Addr):It:=
 ⟨fun i H=>∃ xs ys x y,SqT K H a xs/\SqT K H b ys/\xs[i]?=some x/\ys[i]?=some y,
  fun i H v H'=>∃ p x y,v=.ref p/\H p=none/\H'=upd H p (.tup [x,y])/\(∀ xs,SqT K H a xs->xs[i]?=some x)/\∀ ys,SqT K H b ys->ys[i]?=some y,
  fun i H=>∃ xs ys,SqT K H a xs/\SqT K H b ys/\(xs[i]?=none\/ys[i]?=none)⟩
theorem GR {P:Program}{w:World}{K:PySem.W.Frag}{es:List Expr}{kk:Nat}{tpos:Pos}{z TI TO i1 i2 l1 l2:Addr}(D:ZipApart z TI TO i1 i2 l1 l2) :
  Turn P w K (.Tuple es kk tpos) (Itu K l1 l2) [z,TI,TO,i1,i2] z (fun i h=>IsZip h z TI TO .none/\IsPair h TI (.ref i1) (.ref i2)/\(∃ a b,IsPair h TO a b)/\h.IsTupleIter i1 l1 i/\h.IsTupleIter i2 l2 i) where
 mem:=by simp
 obj:=fun i h st b hb=>by
  obtain ⟨hz,hTI,⟨a,b',hTO⟩,⟨o1,e1,c1,d1⟩,⟨o2,e2,c2,d2⟩⟩:=st
  simp only[List.mem_cons,List.not_mem_nil,or_false] at hb
  rcases hb with rfl | rfl | rfl | rfl | rfl
  ·exact ⟨_,hz,fun v q=>by cases q⟩
  ·exact ⟨_,hTI,fun v q=>by cases q⟩
  ·exact ⟨_,hTO,fun v q=>by cases q⟩
  ·exact ⟨o1,e1,fun v q=>by rw[d1] at q; cases q⟩
  ·exact ⟨o2,e2,fun v q=>by rw[d2] at q; cases q⟩
 keep:=fun i h h' st k=>by
  obtain ⟨hz,hTI,⟨a,b',hTO⟩,h1,h2⟩:=st
  exact ⟨k z (by simp) _ hz,k TI (by simp) _ hTI,⟨a,b',k TO (by simp) _ hTO⟩,h1.at fun o e=>k i1 (by simp) o e,h2.at fun o e=>k i2 (by simp) o e⟩
 item:=by
  intro X hP hw hK hc i pins s σ H E I hf st hg
  subst hP hw hK
  obtain ⟨xs,ys,x,y,q1,q2,hx,hy⟩:=hg
  obtain ⟨its1,rv1,p1,hz1⟩:=I.tuple q1
  obtain ⟨its2,rv2,p2,hz2⟩:=I.tuple q2
  obtain ⟨u1,hu1,ru1⟩:=rv1.get hx
  obtain ⟨u2,hu2,ru2⟩:=rv2.get hy
  obtain ⟨hz,hTI,⟨a,b',hTO⟩,h1,h2⟩:=st
  refine kJ D hz hTI hTO h1 h2 p1 p2 (x:=u1) (y:=u2) (by simpa using hu1) (by simpa using hu2) fun h' a1 a2 a3 a4 a5 a6 hk=>?_
  have new:cA X.prog X.w (upd H s.heap.objs.size (.tup [x,y])) h' s.heap.objs.size (.tup [x,y]):=⟨by show 2<=sizeLine; decide,[u1,u2],.cons ru1 (.cons ru2 .nil),_,a5,rfl,_,rfl⟩
  have I1:Inv X pins σ (upd H s.heap.objs.size (.tup [x,y])) { s with heap:=h' }:=I.JT (t':=s.toks) (ch:=[z,TO,i1,i2]) (fun b hb=>hf b (by
   simp only[List.mem_cons,List.not_mem_nil,or_false] at hb |-
   rcases hb with r | r | r | r <;> simp [r]))
   (fun b o hb e=>hk b o (fun q=>hb (by simp [q])) (fun q=>hb (by simp [q])) (fun q=>hb (by simp [q])) (fun q=>hb (by simp [q])) e) (Nat.le_refl _) new
  have hTI':IsPair h' TI (.ref i1) (.ref i2):=hk _ _ D.TIz D.TITO D.TIi1 D.TIi2 hTI
  have hsz:∀ b,b∈[z,TI,TO,i1,i2]->b≠s.heap.objs.size:=fun b hb=>by
   obtain ⟨_,_,hlt,_⟩:=hf b hb
   have lt:∃ o,s.heap.get? b=some o:=by
    simp only[List.mem_cons,List.not_mem_nil,or_false] at hb
    rcases hb with rfl | rfl | rfl | rfl | rfl
    ·exact ⟨_,hz⟩
    ·exact ⟨_,hTI⟩
    ·exact ⟨_,hTO⟩
    ·obtain ⟨o,e,_⟩:=h1; exact ⟨o,e⟩
    ·obtain ⟨o,e,_⟩:=h2; exact ⟨o,e⟩
   obtain ⟨o,e⟩:=lt
   exact Nat.ne_of_lt (Heap.lt_size e)
  refine ⟨_,rfl,wpAny_letOwnedTupleGo_zip (s:={ s with heap:=h' }) a1 fun h'' z2 sb=>?_⟩
  have fz:=hf z (by simp)
  have I2:Inv X pins σ (upd H s.heap.objs.size (.tup [x,y])) { s with heap:=h'' }:=Inv.turned (s:={ s with heap:=h' }) (it:=z) (t':=s.toks) I1 (fun b o hb e=>(sb.2 b hb).trans e) (by rw[aH (hsz z (by simp))]; exact fz.1) fz.2.1 fz.2.2.2.1 fz.2.2.2.2.1 fz.2.2.2.2.2
  refine ⟨.ref s.heap.objs.size,_,I2,rfl,⟨_,x,y,rfl,I.fresh,rfl,fun xs' q=>by rw[I.qR q q1]; exact hx,fun ys' q=>by rw[I.qR q q2]; exact hy⟩,
   ⟨z2,(sb.2 _ D.TIz).trans hTI',⟨_,_,(sb.2 _ D.TOz).trans a2⟩,a3.extBut sb.extBut D.i1z,a4.extBut sb.extBut D.i2z⟩,fun b hb=>by rw[aH (hsz b hb)]; exact (hf b hb).1⟩
 done:=by
  intro X hP hw hK hc i pins s σ H E I hf st hg
  subst hP hw hK
  obtain ⟨xs,ys,q1,q2,hx⟩:=hg
  obtain ⟨its1,rv1,p1,hz1⟩:=I.tuple q1
  obtain ⟨its2,rv2,p2,hz2⟩:=I.tuple q2
  obtain ⟨hz,hTI,⟨a,b',hTO⟩,h1,h2⟩:=st
  have hend:its1.toArray[i]?=none\/its2.toArray[i]?=none:=by
   rcases hx with r | r
   ·exact .inl (by simpa using rv1.none_of r)
   ·exact .inr (by simpa using rv2.none_of r)
  refine mC (I.ok.hd hc) D hz hTI hTO h1 h2 p1 p2 hend fun h' hk=>⟨rfl,?_⟩
  exact I.JV (t':=s.toks) (ch:=[z,TO,i1,i2]) (fun b hb=>hf b (by
   simp only[List.mem_cons,List.not_mem_nil,or_false] at hb |-
   rcases hb with r | r | r | r <;> simp [r]))
   (fun b o hb e=>hk b o (fun q=>hb (by simp [q])) (fun q=>hb (by simp [q])) (fun q=>hb (by simp [q])) (fun q=>hb (by simp [q])) e)
 self:=fun _ _ _ _ _ st h=>wpAny_pyIter_zip st.1 h
def zpq (K:PySem.W.Frag) (o1 o2:Option HO) (a b:Addr) (H:Hp) (R:It->Hp->Prop):Prop:=match o1,o2 with
 | some (.lst _),some (.lst _)=>R (Itz K a b) H
 | some (.tup _),some (.tup _)=>R (Itu K a b) H
 | _,_=>False
def zpK (K:PySem.W.Frag) (vs:List V) (H:Hp) (R:It->Hp->Prop):Prop:=match vs with
 | [.ref a,.ref b]=>zpq K (H a) (H b) a b H R
 | _=>False
def Nx (K:PySem.W.Frag) (ta:TA):TI:=fun σ H R=>ta σ H fun vs H1=>zpK K vs H1 R
theorem Nv (K:PySem.W.Frag) (ta:TA) (σ:St) (H:Hp) (R:It->Hp->Prop):Nx K ta σ H R=ta σ H fun vs H1=>zpK K vs H1 R:=rfl
theorem Vj (K:PySem.W.Frag) (a b:Addr) (H:Hp) (R:It->Hp->Prop):zpK K [.ref a,.ref b] H R=zpq K (H a) (H b) a b H R:=rfl
theorem Vi (K:PySem.W.Frag) (xs ys:List V) (a b:Addr) (H:Hp) (R:It->Hp->Prop):zpq K (some (.lst xs)) (some (.lst ys)) a b H R=R (Itz K a b) H:=rfl
theorem Vh (K:PySem.W.Frag) (xs ys:List V) (a b:Addr) (H:Hp) (R:It->Hp->Prop):zpq K (some (.tup xs)) (some (.tup ys)) a b H R=R (Itu K a b) H:=rfl
section
variable {X:Cx}
theorem RG {es:List Expr}{kk:Nat}{tpos:Pos}{a b:Expr}{ta:TA}{p pos:Pos}(hg:Gl X "zip") (hm:X.mg "zip" = none) (ha:PA X [a,b] ta) (hs:starEach [a,b] X.env=[(false,eval a X.env),(false,eval b X.env)]:=by rfl) (hs2:starEach [b] X.env=[(false,eval b X.env)]:=by rfl) :
  PI X (.Tuple es kk tpos) (.Call (.Name "zip" p) [a,b] [] pos) (Nx X.K ta):=by
 intro pins s σ H R I h
 refine Call_ (iT I hg hm boot_zip (PyProof.Rows.callWith_type1 (thA (ha pos pins s σ H _ I h) fun us s1 vs H1 I1 r1 q1=>?_) (by rw[hs,hs2]) (by rw[hs2]; rfl)))
 replace q1:zpK X.K vs H1 R:=q1
 unfold zpK at q1
 split at q1
 ·rename_i l1 l2
  unfold zpq at q1
  cases r1 with
  | cons r rr=>
   cases rr with
   | cons r' rr=>
    cases rr
    cases r
    cases r'
    have apart:l1 < s1.heap.objs.size->l2 < s1.heap.objs.size->ZipApart (s1.heap.objs.size + 4) (s1.heap.objs.size + 2) (s1.heap.objs.size + 3) s1.heap.objs.size (s1.heap.objs.size + 1) l1 l2:=by
     generalize s1.heap.objs.size=n
     intro lt1 lt2
     have lt1':@LT.lt Nat _ l1 n:=lt1
     have lt2':@LT.lt Nat _ l2 n:=lt2
     constructor <;> (intro (z:@Eq Nat _ _); omega)
    have fp:∀ b∈[s1.heap.objs.size + 4,s1.heap.objs.size + 2,s1.heap.objs.size + 3,s1.heap.objs.size,s1.heap.objs.size + 1],rZ X pins H1 b:=fun b hb=>by
     have hle:s1.heap.objs.size<=b:=by
      simp only[List.mem_cons,List.not_mem_nil,or_false] at hb
      rcases hb with rfl | rfl | rfl | rfl | rfl <;> simp
     exact I1.Ob hle (I1.hok.fresh hle)
    split at q1
    ·rename_i xs ys e1 e2
     obtain ⟨its1,rv1,p1,hz1⟩:=I1.list (SqL.of e1)
     obtain ⟨its2,rv2,p2,hz2⟩:=I1.list (SqL.of e2)
     have lt1:l1 < s1.heap.objs.size:=by obtain ⟨_,e,_⟩:=p1.isList; exact Heap.lt_size e
     have lt2:l2 < s1.heap.objs.size:=by obtain ⟨_,e,_⟩:=p2.isList; exact Heap.lt_size e
     refine call_zip_2 p1.isList p2.isList fun h' b1 b2 b3 b4 b5 b6 hk=>?_
     refine wpAny_pyIter_zip (s:={ s1 with heap:=h' }) b1 ?_
     exact ⟨_,_,_,_,H1,rfl,I1.kept (t':=s1.toks) hk,JS (apart lt1 lt2),⟨b1,b2,⟨_,_,b3⟩,b4,b5⟩,fp,q1⟩
    ·rename_i xs ys e1 e2
     obtain ⟨its1,rv1,p1,hz1⟩:=I1.tuple (SqT.of e1)
     obtain ⟨its2,rv2,p2,hz2⟩:=I1.tuple (SqT.of e2)
     have lt1:l1 < s1.heap.objs.size:=by obtain ⟨_,e,_⟩:=p1; exact Heap.lt_size e
     have lt2:l2 < s1.heap.objs.size:=by obtain ⟨_,e,_⟩:=p2; exact Heap.lt_size e
     refine BP p1 p2 fun h' b1 b2 b3 b4 b5 b6 hk=>?_
     refine wpAny_pyIter_zip (s:={ s1 with heap:=h' }) b1 ?_
     exact ⟨_,_,_,_,H1,rfl,I1.kept (t':=s1.toks) hk,GR (apart lt1 lt2),⟨b1,b2,⟨_,_,b3⟩,b4,b5⟩,fp,q1⟩
    ·exact q1.elim
 ·exact q1.elim
theorem Rc {es:List Expr}{kk:Nat}{tpos:Pos}{a b:Expr}{t:TA}{p pos:Pos}(hg:Gl X "zip") (hm:X.mg "zip" = none) (ha:QA X [a,b] t) (hs:starEach [a,b] X.env=[(false,eval a X.env),(false,eval b X.env)]:=by rfl) (hs2:starEach [b] X.env=[(false,eval b X.env)]:=by rfl):QI X (.Tuple es kk tpos) (.Call (.Name "zip" p) [a,b] [] pos) (Nx X.K t):=⟨RG hg hm ha.h hs hs2⟩
end
def pA (n:Nat):Sp:=fun vs H Q _=>∃ x y ok d,vs=[x,y]/\aX ok H x d/\aX ok H y d/\d.depth < n/\∀ H',Same H H'->Q (.bl true) H'
theorem xK {d:PyData}{ds:List PyData}(h:d∈ds):d.depth < (PyData.list ds).depth/\d.depth < (PyData.tuple ds).depth:=by
 have:=qM h
 rw[PyData.depth.eq_1,PyData.depth.eq_2]
 omega
section
variable {K:PySem.W.Frag}{mp:List (Option Nat)}{g:TG}{tc:TT}{te:TE}{σ:St}{H:Hp}{Q:VK}{R:It->Hp->Prop}
theorem Ul {a b:Addr}{xs ys:List V}(hR:R=CG mp g tc te σ Q) (hz:xs.length<=sizeLine) (hl2:xs.length=ys.length) (Pv:Nat->List V->St->Hp->Prop) (h0:Pv 0 [] (lW mp σ) H) (hl:∀ i acc τ H,Pv i acc τ H->acc.length<=i)
  (hq:∀ i acc τ H,Pv i acc τ H->H a=some (.lst xs)/\H b=some (.lst ys))
  (hs:∀ i x y acc τ H p,xs[i]?=some x->ys[i]?=some y->Pv i acc τ H->H p=none->g (.ref p) τ (upd H p (.tup [x,y])) fun τ1 H4=>tc τ1 H4 fun b H5=>if b=true then te τ1 H5 fun v H6=>Pv (i + 1) (acc ++ [v]) τ1 H6 else Pv (i + 1) acc τ1 H5)
  (hd:∀ acc τ H d,Pv xs.length acc τ H->H d=none->Q (.ref d) (upd H d (.lst acc))):R (Itz K a b) H:=by
 refine qN hR xs.length hz Pv h0 hl (fun i acc τ H hi p=>?_) (fun acc τ H p=>?_) (fun i acc τ H x H3 hi p y=>?_) hd
 ·obtain ⟨e1,e2⟩:=hq i acc τ H p
  exact ⟨xs,ys,_,_,SqL.of e1,SqL.of e2,List.getElem?_eq_getElem hi,List.getElem?_eq_getElem ω⟩
 ·obtain ⟨e1,e2⟩:=hq _ acc τ H p
  exact ⟨xs,ys,SqL.of e1,SqL.of e2,.inl (List.getElem?_eq_none (Nat.le_refl _))⟩
 ·obtain ⟨e1,e2⟩:=hq i acc τ H p
  obtain ⟨q,x1,y1,rfl,hq1,rfl,hx,hy⟩:=y
  exact hs i x1 y1 acc τ H q (hx _ (SqL.of e1)) (hy _ (SqL.of e2)) p hq1
theorem Uk {a b:Addr}{xs ys:List V}(hR:R=CG mp g tc te σ Q) (hz:xs.length<=sizeLine) (hl2:xs.length=ys.length) (Pv:Nat->List V->St->Hp->Prop) (h0:Pv 0 [] (lW mp σ) H) (hl:∀ i acc τ H,Pv i acc τ H->acc.length<=i)
  (hq:∀ i acc τ H,Pv i acc τ H->H a=some (.tup xs)/\H b=some (.tup ys))
  (hs:∀ i x y acc τ H p,xs[i]?=some x->ys[i]?=some y->Pv i acc τ H->H p=none->g (.ref p) τ (upd H p (.tup [x,y])) fun τ1 H4=>tc τ1 H4 fun b H5=>if b=true then te τ1 H5 fun v H6=>Pv (i + 1) (acc ++ [v]) τ1 H6 else Pv (i + 1) acc τ1 H5)
  (hd:∀ acc τ H d,Pv xs.length acc τ H->H d=none->Q (.ref d) (upd H d (.lst acc))):R (Itu K a b) H:=by
 refine qN hR xs.length hz Pv h0 hl (fun i acc τ H hi p=>?_) (fun acc τ H p=>?_) (fun i acc τ H x H3 hi p y=>?_) hd
 ·obtain ⟨e1,e2⟩:=hq i acc τ H p
  exact ⟨xs,ys,_,_,SqT.of e1,SqT.of e2,List.getElem?_eq_getElem hi,List.getElem?_eq_getElem ω⟩
 ·obtain ⟨e1,e2⟩:=hq _ acc τ H p
  exact ⟨xs,ys,SqT.of e1,SqT.of e2,.inl (List.getElem?_eq_none (Nat.le_refl _))⟩
 ·obtain ⟨e1,e2⟩:=hq i acc τ H p
  obtain ⟨q,x1,y1,rfl,hq1,rfl,hx,hy⟩:=y
  exact hs i x1 y1 acc τ H q (hx _ (SqT.of e1)) (hy _ (SqT.of e2)) p hq1
end
inductive RowC where
 | one (n t:Int)
 | rng (a b t:Int)
 | low (n t:Int)
 | msk (lo wd bits t:Int)
 | tab (lo:Int) (gs:List Int)
 | pik (l:Int)
def rowCD:RowC->PyData
 | .one n t=>.tuple [.str "is",.int n,.int t]
 | .rng a b t=>.tuple [.str "within",.int a,.int b,.int t]
 | .low n t=>.tuple [.str "below",.int n,.int t]
 | .msk lo wd bits t=>.tuple [.str "mask",.int lo,.int wd,.int bits,.int t]
 | .tab lo gs=>.tuple [.str "table",.int lo,.tuple (gs.map PyData.int)]
 | .pik l=>.tuple [.str "pick",.int l]
def RowCOk (m o:Int):RowC->Prop
 | .one _ t=>btw o m t=true
 | .rng _ _ t=>btw o m t=true
 | .low _ t=>btw o m t=true
 | .msk _ wd bits t=>btw o m t=true/\1<=wd/\wd<=64/\0<=bits
 | .tab _ gs=>gs.all (btw o m)=true
 | .pik _=>True
def YL:RowC->Bool
 | .pik _=>true
 | _=>false
def bitAt (bits place:Int):Bool:=decide (Builtin.bitAnd (bits / 2 ^ place.toNat) 1=1)
def U6 (c:RowC) (o n:Int):Option Int:=match c with
 | .one a t=>some (if n=a then t else o + 1)
 | .rng a b t=>some (if a<=n/\n<=b then t else o + 1)
 | .low a t=>some (if n < a then t else o + 1)
 | .msk lo wd bits t=>if 0<=n - lo/\n - lo < wd then some (if bitAt bits (n - lo)=true then t else o + 1) else none
 | .tab lo gs=>if 0<=n - lo/\n - lo < gs.length then gs[(n - lo).toNat]? else none
 | .pik _=>none
def runC (cs:List RowC) (n:Int):Nat->Int->Option Int×List Int
 | 0,a=>(none,[a])
 | k + 1,a=>match cs[a.toNat]? with
  | some (.pik l)=>(some l,[a])
  | some c=>match U6 c a n with
   | none=>(none,[a])
   | some t=>((runC cs n k t).1,a :: (runC cs n k t).2)
  | none=>(none,[a])
def runOf (cs:List RowC) (n:Int):Option Int×List Int:=runC cs n cs.length 0
def Za:RowC->Addr->List V
 | .one n t,_=>[.str "is",.int n,.int t]
 | .rng a b t,_=>[.str "within",.int a,.int b,.int t]
 | .low n t,_=>[.str "below",.int n,.int t]
 | .msk lo wd bits t,_=>[.str "mask",.int lo,.int wd,.int bits,.int t]
 | .tab lo _,g=>[.str "table",.int lo,.ref g]
 | .pik l,_=>[.str "pick",.int l]
def RowAt (H:Hp) (x:V) (c:RowC):Prop:=∃ a g,x=.ref a/\H a=some (.tup (Za c g))/\∀ lo gs,c=.tab lo gs->H g=some (.tup (gs.map V.int))
def scV:PyData->Option V
 | .int i=>some (.int i)
 | .str z=>some (.str z)
 | _=>none
theorem aX.sc {ok:Addr->Prop}{H:Hp}{x v:V}{d:PyData}(t:aX ok H x d) (h:scV d=some v):x=v:=by
 cases t with
 | int i=>exact Option.some.inj h
 | str z=>exact Option.some.inj h
 | _=>cases h
theorem aK.sc {ok:Addr->Prop}{H:Hp}:∀ {xs vs:List V}{ds:List PyData},aK ok H xs ds->ds.map scV=vs.map some->xs=vs
 | _,[],_,.nil,_=>rfl
 | _,v :: vs,_,.nil,h=>by cases h
 | _,[],_,.cons _ _,h=>by cases h
 | _,v :: vs,_,.cons t ts,h=>by
  rw[List.map_cons,List.map_cons] at h
  injection h with h1 h2
  rw[t.sc h1,ts.sc h2]
theorem aK.uncons {ok:Addr->Prop}{H:Hp}{xs:List V}{d:PyData}{ds:List PyData}(t:aK ok H xs (d :: ds)):∃ x r,xs=x :: r/\aX ok H x d/\aK ok H r ds:=by
 cases t with
 | cons h r=>exact ⟨_,_,rfl,h,r⟩
theorem aX.tupOf {ok:Addr->Prop}{H:Hp}{x:V}{ds:List PyData}(t:aX ok H x (.tuple ds)):∃ p xs,x=.ref p/\H p=some (.tup xs)/\aK ok H xs ds:=by
 cases t with
 | tup o e z ts=>exact ⟨_,_,rfl,e,ts⟩
theorem Qf {c:TT}{tb:TS}{D:Ends}{σ:St}{H:Hp}(m:Nat) (Pv:Nat->St->Hp->Prop) (j0:Nat) (h0:Pv j0 σ H)
  (hs:∀ j σ H,Pv j σ H->c σ H fun b H1=>if b=true then ∃ N:St->Hp->Prop,(∀ σ' H',N σ' H'->∃ m',m' < m - j/\∃ j',m'=m - j'/\Pv j' σ' H')/\tb { D with nx:=N,ct:=N,bk:=D.nx } σ H1 else D.nx σ H1):xZ c tb D σ H:=
 ⟨fun k σ H=>∃ j,k=m - j/\Pv j σ H,⟨_,j0,rfl,h0⟩,by rintro k σ H ⟨j,rfl,p⟩; exact hs j σ H p⟩
section
variable {X:Cx}{e o:Expr}{te to:TE}{pos:Pos}
theorem V0 {i:Nat}{x:Str}{op:Operator}{ti:TIp}{pos':Pos}(h:Nm X.N X.env.scope i x) (hN:X.N.Nodup) (he:QE X e te) (ho:PIp X op ti) (hf:X.fn x=true\/X.env.scope.names.lookup x=some .local:=by exact .inl rfl) :
  QS X (.AugAssign (.Name x pos') op e pos) (Vs i te ti):=⟨Wd hN h.hN h.hv he.h ho hf⟩
def KTup (K:PySem.W.Frag) (p:Addr) (xs:List V):Prop:=∃ (o:Obj) (its:Array Value) (n:Nat),K.lookup p=some o/\o.cls=.type "tuple" /\ o.dict=none/\o.data=.seq its n/\its.size<=sizeLine/\Vals xs its.toList
end
inductive Pl where
 | pick (l:Int)
 | one (k:Nat) (r:Pl)
 | wit (k:Nat) (r:Pl)
 | low (k:Nat) (a b:Pl)
 | msk (l:Int) (r:Pl)
 | tab
def yF:Pl->Nat
 | .pick _=>1
 | .one _ r=>yF r + 1
 | .wit _ r=>yF r + 1
 | .low _ a b=>yF a + yF b + 1
 | .msk _ r=>yF r + 1
 | .tab=>1
abbrev Sts:=List (Int×Int×Int)
def vX (ss:Sts) (k:Nat):Int×Int×Int:=ss.getD k (0,0,0)
structure Lf (ss:Sts) (left:List Nat):Prop where
 ne:left≠[]
 lt:∀ k∈left,k < ss.length
 up:left.Pairwise (· < ·)
def kids (ss:Sts):Pl->List Nat->List (List Nat×Pl)
 | .pick _,_=>[]
 | .tab,_=>[]
 | .one k r,left=>[(left.filter (·≠k),r)]
 | .wit k r,left=>[(left.filter (·≠k),r)]
 | .low k a b,left=>[(left.filter (· < k),a),(left.filter (k<=·),b)]
 | .msk l r,left=>[(left.filter fun k=>(vX ss k).2.2≠l,r)]
def PK (ss:Sts):Pl->List Nat->Prop
 | .pick _,left=>Lf ss left
 | .tab,left=>Lf ss left
 | .one k r,left=>Lf ss left/\PK ss r (left.filter (·≠k))
 | .wit k r,left=>Lf ss left/\PK ss r (left.filter (·≠k))
 | .low k a b,left=>Lf ss left/\PK ss a (left.filter (· < k))/\PK ss b (left.filter (k<=·))
 | .msk l r,left=>Lf ss left/\PK ss r (left.filter fun k=>(vX ss k).2.2≠l)
def U7 (ss:Sts) (left:List Nat):Int:=(vX ss (left.getLast?.getD 0)).2.1 - (vX ss (left.head?.getD 0)).1 + 1
section
variable {X:Cx}{e o:Expr}{te to:TE}{pos:Pos}
end
def lbl (ss:Sts) (k:Nat):Int:=(vX ss k).2.2
def jL (ss:Sts):Pl->List Nat->List (List Nat×Pl)
 | .pick l,left=>[(left,.pick l)]
 | .tab,left=>[(left,.tab)]
 | .one k r,left=>(left,.one k r) :: jL ss r (left.filter (·≠k))
 | .wit k r,left=>(left,.wit k r) :: jL ss r (left.filter (·≠k))
 | .low k a b,left=>(left,.low k a b) :: (jL ss b (left.filter (k<=·)) ++ jL ss a (left.filter (· < k)))
 | .msk l r,left=>(left,.msk l r) :: jL ss r (left.filter fun k=>(vX ss k).2.2≠l)
def Kh (ss:Sts) (W:List (List Nat×Pl)):List (List Nat×Pl):=(W.reverse.map fun x=>jL ss x.2 x.1).flatten
theorem steps_kids (ss:Sts) (p:Pl) (left:List Nat):jL ss p left=(left,p) :: Kh ss (kids ss p left):=by
 cases p <;> simp [jL,Kh,kids]
def VL (ss:Sts) (left:List Nat):Pl->Prop
 | .pick l=>∀ k∈left,lbl ss k=l
 | .tab=>U7 ss left<=200
 | .one k _=>k∈left/\(vX ss k).1=(vX ss k).2.1
 | .wit k _=>k∈left
 | .low k _ _=>k∈left
 | .msk l _=>U7 ss left<=64/\∃ k∈left,lbl ss k=l
def PlV (ss:Sts):Pl->List Nat->Prop
 | .pick l,left=>Lf ss left/\VL ss left (.pick l)
 | .tab,left=>Lf ss left/\VL ss left .tab
 | .one k r,left=>(Lf ss left/\VL ss left (.one k r))/\PlV ss r (left.filter (·≠k))
 | .wit k r,left=>(Lf ss left/\VL ss left (.wit k r))/\PlV ss r (left.filter (·≠k))
 | .low k a b,left=>(Lf ss left/\VL ss left (.low k a b))/\PlV ss a (left.filter (· < k))/\PlV ss b (left.filter (k<=·))
 | .msk l r,left=>(Lf ss left/\VL ss left (.msk l r))/\PlV ss r (left.filter fun k=>(vX ss k).2.2≠l)
def lR:Pl->Nat->List (Nat×Nat)
 | .pick _,_=>[]
 | .tab,_=>[]
 | .one _ r,p=>lR r (p + 1)
 | .wit _ r,p=>lR r (p + 1)
 | .msk _ r,p=>lR r (p + 1)
 | .low _ a b,p=>lR b (p + 1) ++ (p,p + 1 + yF b) :: lR a (p + 1 + yF b)
def T9:List Pl->List Nat->Nat->List (Nat×Nat)
 | [],_,_=>[]
 | c :: rest,T,p=>lR c p ++ (match T with | []=>[] | t :: T'=>match rest with | []=>[] | _ :: _=>(t,p + yF c) :: T9 rest T' (p + yF c))
theorem futA_one (c:Pl) (T:List Nat) (p:Nat):T9 [c] T p=lR c p:=by
 cases T <;> exact List.append_nil _
theorem Xz (xs:List V) (n:Nat) (h:n<=xs.length):rQ xs none (some (n:Int))=xs.take n:=by
 unfold rQ
 have e1:HT.sIx xs.length 0 none=0:=by simp [HT.sIx]
 have e2:HT.sIx xs.length xs.length (some (n:Int))=n:=by
  simp only[HT.sIx]
  split
  ·omega
  ·omega
 rw[e1,e2]
 rfl
def Wlk (h:Heap) (i l:Addr) (k:Nat) (xs:Array Value):Prop:=(h.IsTupleIter i l k/\h.IsTuple l xs)\/(h.IsListIter i l k/\h.IsList l xs)
@[reducible] def IsZip2 (h:Heap) (z TI TO a:Addr) (b:Bool):Prop:=h.get? z=some { cls:=Value.type "zip",data:=Data.fields #[rawInt a,Value.bool b,Value.bool false,Value.ref TI,Value.ref TO] }
theorem nJ:entryFor table "dict.update.loop" = some Builtin.«dict.update.loop»:=entryFor_of_tree (by rfl)
theorem G9 {K:Type} [DecidableEq K] (kvs:List (K×Value)) (k:K) (v:Value):(stored kvs k v).length<=kvs.length + 1:=by
 unfold stored
 split
 ·rw[List.length_map]; omega
 ·rw[List.length_append]; simp
section
variable {X:Cx}
end
section
variable {X:Cx}{o i e value:Expr}{pos pos' tpos:Pos}{td ty tv:TE}
end
section
variable {prog:Program}{w:World}{A:Around}{R:Result->Shared->Prop}{s:Shared}
end
section
variable {X:Cx}{NX N:List Str}{kX:List (Str×NameKind)}{mp:List (Option Nat)}{scope:Scope}
end
section
variable {X:Cx}
end
def slc (ws:List Int) (i j:Nat):List Int:=(ws.drop i).take (j - i)
inductive Tr:List Int->Int->Prop
 | leaf (w:Int):Tr [w] 0
 | node {a b:List Int} {x y:Int}:Tr a x->Tr b y->Tr (a ++ b) ((a ++ b).sum + (x + y))
inductive PTr (ss:Sts) (ws:List Int):Nat->Nat->Pl->Int->Prop
 | leaf {i:Nat}:i < ss.length->PTr ss ws i (i + 1) (.pick (vX ss i).2.2) 0
 | node {i k j:Nat} {a b:Pl} {x y:Int}:i < k->k < j->PTr ss ws i k a x->PTr ss ws k j b y->PTr ss ws i j (.low k a b) ((slc ws i j).sum + (x + y))
theorem range_lt {i k j:Nat}(h1:i<=k) (h2:k<=j):(List.range' i (j - i)).filter (· < k)=List.range' i (k - i):=by
 have e:j - i=(k - i) + (j - k):=by omega
 rw[e,<- List.range'_append_1,List.filter_append,List.filter_eq_self.mpr,List.filter_eq_nil_iff.mpr,List.append_nil]
 ·intro a ha
  rw[List.mem_range'_1] at ha
  simp only[decide_eq_true_eq]
  omega
 ·intro a ha
  rw[List.mem_range'_1] at ha
  simp only[decide_eq_true_eq]
  omega
theorem range_ge {i k j:Nat}(h1:i<=k) (h2:k<=j):(List.range' i (j - i)).filter (k<=·)=List.range' k (j - k):=by
 have e:j - i=(k - i) + (j - k):=by omega
 rw[e,<- List.range'_append_1,List.filter_append,List.filter_eq_nil_iff.mpr,List.filter_eq_self.mpr,List.nil_append]
 ·rw[show i + (k - i)=k by omega]
 ·intro a ha
  rw[List.mem_range'_1] at ha
  simp only[decide_eq_true_eq]
  omega
 ·intro a ha
  rw[List.mem_range'_1] at ha
  simp only[decide_eq_true_eq]
  omega
section
variable {X:Cx}
end
def key2 (a b:Int):List Key:=[Sum.inl a,Sum.inl b]
section
variable {M:Model}{A:Around}{E:Value->Shared->Prop}{env:Env}
variable {nm q:Str}{C N:Addr}{bs bm:List Value}{hdct:Bool}{sn:List Str}{sub:List Value}{ab:Bool}{col:Option Bool}{dd:Option Addr}{k0 k1 k2 k3 k5:Option Value}{newId:String}
end
section
variable {prog:Program}{w:World}{A:Around}{E:Value->Shared->Prop}
variable {nm q:Str}{C N:Addr}{bs bm bmB:List Value}{hdct:Bool}{sn:List Str}{sub:List Value}{ab:Bool}{col:Option Bool}{dd:Option Addr}{k0 k1 k2 k3 k5:Option Value}{nwId B newId initId:String}
end
open PySem.W (Frag clsIn findIn takerIn InstAt looks_clsIn looks_findIn looks_takesIn Looks check_slot looks_mroIn mroIn set_plain osa_eq)
open Builtin Builtin.ObjectAttr
def vbm:List Value:=[.type "ValueError",.type "Exception",.type "BaseException",.type "object"]
section
variable {prog:Program}{w:World}{A:Around}{E:Value->Shared->Prop}{K:Frag}{h:Heap}{g:Array GenState}{d:Drawn}{t:Nat}{os:OsState}{x C D:Addr}{cd:ClassData}{name:Str}{v:Value}{o:Obj}{vs:Array Value}
end
open PySem.W (Frag clsIn findIn takerIn InstAt looks_clsIn looks_findIn looks_takesIn Looks check_slot looks_mroIn mroIn handedIn handedOut_of)
section
variable {prog:Program}{w:World}{A:Around}{E:Value->Shared->Prop}{K:Frag}{h:Heap}{g:Array GenState}{d:Drawn}{t:Nat}{os:OsState}{x C D dx:Addr}{cd:ClassData}{name:Str}{v:Value}{o:Obj}{vs:Array Value}{m:Str->Option Value}{expr:Bool}
end
structure XCls (K:PySem.W.Frag) (C D N fI:Addr):Prop where
 obj:∃ nm q bs sn sub ab col dd k0 k1 k2 k3 k5,K.lookup C=some (excClassObj nm q C N bs (.ref D :: vbm) true sn sub ab col dd k0 k1 k2 k3 k5 "ValueError.__new__")
 tail:PySem.W.tailIn K vbm (.ref D :: vbm)=true
 nsok:PySem.W.nsOkIn K N=true
 init:PySem.W.nsIn K N "__init__" = some (some (.ref fI))
 set:PySem.W.findIn K (.ref C) "__setattr__" = some (some (.builtin "object.__setattr__"))
 ga:PySem.W.findIn K (.ref C) "__getattribute__" = some (some (.builtin "BaseException.__getattribute__"))
 gk:PySem.W.findIn K (.ref C) "__getattr__" = some none
section
variable {X:Cx}{C D N fI:Addr}{x:Str}{np apos cpos:Pos}{e:Expr}{es:List Expr}{t:TA}
end
section
variable {X:Cx}{C D N fI:Addr}{f:Str}{o value:Expr}{pos pos':Pos}{ta tv:TE}
end
abbrev TJ:=St->Hp->(Hp->Prop)->Prop
section
variable {X:Cx}{e:Expr}{es:List Expr}{t:TJ}{te:TE}{x:Str}{j:Nat}{pos:Pos}
end
section
variable {X:Cx}{C D N fI:Addr}{x:Str}{np cpos pos:Pos}{e:Expr}{es:List Expr}{t:TA}{k:Nat}{fd:FuncData}{ps:List Str}{sp:Sp}{E:XK}
end
section
variable {M:Model}{A:Around}{E:Value->Shared->Prop}
variable {nm q nmD qD:Str}{C N D ND:Addr}{bs bm bsD bmD:List Value}{hdct hdctD:Bool}{sn snD:List Str}{sub subD:List Value}{ab abD:Bool}{col colD:Option Bool}{dd ddD:Option Addr}{k0 k1 k2 k3 k5 j0 j1 j2 j3 j5:Option Value}{newId newIdD:String}
end
section
variable {X:Cx}{pins pins':List (Addr×Obj)}{σ:St}{H:Hp}{s:Shared}{xe:Value->Shared->Prop}{x:Addr}
end
section
variable {X:Cx}{pins:List (Addr×Obj)}{σ:St}{H1 H2:Hp}{s1 s2:Shared}{x C:Addr}{ox:Obj}{vs:Array Value}
end
section
variable {X:Cx}{C D N fI ND:Addr}{dn n:Str}{i:Nat}{body suite:List Stmt}{b₀:Stmt}{np hpos pos:Pos}{tb:XK->TS}{ts:TS}
end
open PySem.W (Frag clsIn findIn takerIn InstAt looks_clsIn looks_findIn looks_takesIn looks_specialIn specialIn takesIn Looks check_slot looks_mroIn mroIn handedIn handedOut_of class_get KitX)
section
variable {prog:Program}{w:World}{A:Around}{E:Value->Shared->Prop}{s:Shared}{K:Frag}{x C:Addr}{ox:Obj}{od:Option Obj}
end
section
variable {X:Cx}{pins:List (Addr×Obj)}{σ:St}{H:Hp}{s:Shared}{A:Around}{E:Value->Shared->Prop}{Q:Value->Shared->Prop}{c:Value}{b:Bool}{x C dx:Addr}{fs:List (Str×V)}
variable {D N fI:Addr}{e:Expr}{f:Str}{pos:Pos}{ta:TE}
end
section
variable {P:Program}{w:World}{K:PySem.W.Frag}{mg:Str->Option Value}{base:Heap}
end
section
variable {X:Cx}{k:Nat}{ps:List Str}{sp:Sp}{x f:Str}{p np apos cpos pos pos':Pos}{e o value:Expr}{es:List Expr}{t:TA}{E:XK}{C D N fI:Addr}{te ta tv:TE}
end
section
variable {X:Cx}{k:Nat}{ps:List Str}{sp:Sp}{x:Str}{p pos:Pos}{e:Expr}{es:List Expr}{t:TA}{E:XK}
end
section
variable {X:Cx}{e o:Expr}{te to:TE}{pos:Pos}
end
open Builtin
section
variable {X:Cx}
end
mutual
def noL:PyData->Bool
 | .list _=>false
 | .tuple ds=>YB ds
 | _=>true
def YB:List PyData->Bool
 | []=>true
 | d :: ds=>noL d && YB ds
end
section
variable {X:Cx}{e e2 o i value:Expr}{te te2 to ti tv:TE}{pos tpos:Pos}
end
def Fit (cs:List RowC) (p:Nat) (R:List RowC):Prop:=∀ (i:Nat) c,R[i]?=some c->cs[p + i]?=some c
section
variable {X:Cx}{o e i:Expr}{to te td ty:TE}{pos:Pos}
end
def Xm:Pl->Bool
 | .pick _=>true
 | .tab=>true
 | _=>false
def Oh (ss:Sts) (C:List (List Nat×Pl)):List (List Nat×Pl):=(C.map fun x=>jL ss x.2 x.1).flatten
def Nf (S:List (List Nat×Pl)):Nat->Bool
 | 0=>false
 | i + 1=>match S[i]? with
  | some x=>Xm x.2
  | none=>false
structure AhSt (ss:Sts) (S:List (List Nat×Pl)) (tot:List (Nat×Nat)) (i:Nat) (C:List (List Nat×Pl)) (T:List Nat) (done:List (Nat×Nat)):Prop where
 fl:S.drop i=Oh ss C
 no:Nf S i=false->T.length + 1=C.length/\tot=done ++ T9 (C.map (·.2)) T i
 yes:Nf S i=true->T.length=C.length/\((C=[]/\tot=done)\/∃ t T',T=t :: T'/\tot=done ++ (t,i) :: T9 (C.map (·.2)) T' i)
theorem flat_cons (ss:Sts) (x:List Nat×Pl) (C:List (List Nat×Pl)):Oh ss (x :: C)=jL ss x.2 x.1 ++ Oh ss C:=rfl
section
variable {X:Cx}{pos:Pos}{te:TE}
end
theorem X5.pre {a b:Sts}(h:X5 (a ++ b)):X5 a:=by
 have get:∀ (i:Nat) s,a[i]?=some s->(a ++ b)[i]?=some s:=fun i s e=>by
  rw[List.getElem?_append_left (List.getElem?_eq_some_iff.mp e).1]
  exact e
 exact ⟨fun i s e=>h.lh i s (get i s e),fun i s t e f=>h.nx i s t (get i s e) (get _ t f),fun i s e=>h.bd i s (get i s e)⟩
section
variable {X:Cx}{e o:Expr}{te to:TE}{pos:Pos}
end
def RowOkC (many own:Int):RowC->Prop
 | .one _ t=>btw own many t=true
 | .rng a b t=>a<=b/\btw own many t=true
 | .low _ t=>btw own many t=true
 | .msk _ wd bits t=>(1<=wd/\wd<=64)/\(0<=bits/\bits < 2 ^ wd.toNat)/\btw own many t=true
 | .tab _ gs=>gs≠[]/\gs.all (btw own many)=true
 | .pik l=>0<=l
theorem ln1 {α:Type}{us:List α}(h:us.length=1):∃ a,us=[a]:=by
 cases us with
 | nil=>cases h
 | cons a r=>
  cases r with
  | nil=>exact ⟨a,rfl⟩
  | cons b r=>cases h
theorem ln2 {α:Type}{us:List α}(h:us.length=2):∃ a0 a1,us=[a0,a1]:=by
 cases us with
 | nil=>cases h
 | cons a0 r=>
  obtain ⟨a1,rfl⟩:=ln1 (Nat.succ.inj h)
  exact ⟨a0,a1,rfl⟩
theorem ln3 {α:Type}{us:List α}(h:us.length=3):∃ a0 a1 a2,us=[a0,a1,a2]:=by
 cases us with
 | nil=>cases h
 | cons a0 r=>
  obtain ⟨a1,a2,rfl⟩:=ln2 (Nat.succ.inj h)
  exact ⟨a0,a1,a2,rfl⟩
theorem ln4 {α:Type}{us:List α}(h:us.length=4):∃ a0 a1 a2 a3,us=[a0,a1,a2,a3]:=by
 cases us with
 | nil=>cases h
 | cons a0 r=>
  obtain ⟨a1,a2,a3,rfl⟩:=ln3 (Nat.succ.inj h)
  exact ⟨a0,a1,a2,a3,rfl⟩
def tV (i:Nat):TE:=fun σ H Q=>match σ[i]? with
 | some (some x)=>Q x H
 | _=>False
theorem U5 {i:Nat}{σ:St}{H:Hp}{Q:VK}(h:tV i σ H Q):JZ i σ H Q:=by
 unfold tV at h
 split at h
 ·rename_i x e
  exact ⟨x,e,h⟩
 ·exact h.elim
section
variable {X:Cx}{i:Nat}{x:Str}{pos:Pos}
theorem ao (h:Nm X.N X.env.scope i x):QE X (.Name x pos) (tV i):=⟨fun pins s σ H Q I q=>(Zi h).h pins s σ H Q I (U5 q)⟩
theorem cM (i:Nat) {x:Str}{pos:Pos}(hN:X.N[i]?=some x:=by rfl) (hv:Vis X.env.scope x:=by first | exact Or.inl rfl | exact Or.inr (Or.inl rfl) | exact Or.inr (Or.inr rfl)) (hd:(x == ("__debug__" : Str))=false:=by decide)
  (hcd:(x == ("__classdict__" : Str))=false:=by decide):QE X (.Name x pos) (tV i):=⟨fun pins s σ H Q I q=>(Zh i hN hv hd hcd).h pins s σ H Q I (U5 q)⟩
end
def atq (o:Option V) (H:Hp) (Q:VK):Prop:=∃ v,o=some v/\Q v H
theorem Pj (v:V) (H:Hp) (Q:VK):atq (some v) H Q=Q v H:=propext ⟨fun ⟨_,e,h⟩=>by cases e; exact h,fun h=>⟨v,rfl,h⟩⟩
theorem Np (xs:List V) (i:Int) (H:Hp) (Q:VK):ixq (some (.lst xs)) i H Q=atq (atI xs i) H Q:=rfl
theorem Nk (xs:List V) (i:Int) (H:Hp) (Q:VK):ixq (some (.tup xs)) i H Q=atq (atI xs i) H Q:=rfl
theorem Xw {b:Bool}{P:Bool->Prop}:(∃ k,V.bl b=V.bl k/\P k)=P b:=propext ⟨fun ⟨_,e,h⟩=>by cases e; exact h,fun h=>⟨b,rfl,h⟩⟩
theorem Ud {a:Int}{P:Int->Prop}:(∃ k,V.int a=V.int k/\P k)=P a:=propext ⟨fun ⟨_,e,h⟩=>by cases e; exact h,fun h=>⟨a,rfl,h⟩⟩
theorem Uc {a b:Int}{P:Int->Int->Prop}:(∃ i j,V.int a=V.int i/\V.int b=V.int j/\P i j)=P a b:=propext ⟨fun ⟨_,_,e,f,h⟩=>by cases e; cases f; exact h,fun h=>⟨a,b,rfl,rfl,h⟩⟩
theorem Ub {a b:V}{P:V->V->Prop}:(∃ i j,[a,b]=[i,j]/\P i j)=P a b:=propext ⟨fun ⟨_,_,e,h⟩=>by cases e; exact h,fun h=>⟨a,b,rfl,h⟩⟩
def ry0:=And.intro @CT.eq_1 (And.intro @J5.eq_1 (And.intro @su.eq_1 (And.intro @tOp.eq_1 (And.intro @rI.eq_1 (And.intro @rI0.eq_1 (And.intro @rU.eq_1 (And.intro @tUn.eq_1 (And.intro @tC.eq_1 (And.intro @zT.eq_1 (And.intro @zU.eq_1 (And.intro @mG.eq_1 (And.intro @iW.eq_1 (And.intro @uq.eq_1 (And.intro @tCB.eq_1 (And.intro @tIf.eq_1 (And.intro @tB.eq_1 (And.intro @tOr.eq_1 (And.intro @Kf.eq_1 (And.intro @J2.eq_1 (And.intro @J3.eq_1 (And.intro @G6.eq_1 (And.intro @sW.eq_1 (And.intro @ju.eq_1 (And.intro @T7.eq_1 (And.intro @Je (And.intro @T4 (And.intro @Aj (And.intro @K6 (And.intro @K8 (And.intro @Q9 (And.intro @Ql.eq_1 (And.intro @T8 @Xq))))))))))))))))))))))))))))))))
def ry1:=And.intro @Lb (And.intro @Hw (And.intro @Hx (And.intro @QM (And.intro @Np (And.intro @Nk (And.intro @Qs (And.intro @Tc (And.intro @S9 (And.intro Nq.1 (And.intro Nq.2.1 (And.intro Nq.2.2 (And.intro @Vf (And.intro @Y4 (And.intro @Y0 (And.intro @aB (And.intro @Lg (And.intro @Ld (And.intro @Xp (And.intro @Te (And.intro @Ni (And.intro @Xi (And.intro @Xh (And.intro @kc_bool (And.intro @ty_int (And.intro @Yc (And.intro @ty_str (And.intro @Vm (And.intro @Vl (And.intro @Qj (And.intro @Qi (And.intro @sX (And.intro @qY (And.intro @pI (And.intro @yw @Af))))))))))))))))))))))))))))))))))
def ry2:=And.intro @yu (And.intro @v8 (And.intro @Ae (And.intro @Di (And.intro @Dh (And.intro @Ad (And.intro @yt (And.intro @Dg (And.intro @Ac (And.intro @yq (And.intro @yr (And.intro @v7 (And.intro @v5 (And.intro @uD (And.intro @Bool.or_false (And.intro @Bool.or_self (And.intro @Bool.or_true (And.intro @Bool.not_true (And.intro @Bool.not_false (And.intro @Bool.false_eq_true (And.intro @decide_true (And.intro @decide_false (And.intro @J8.eq_1 (And.intro @rEq.eq_1 (And.intro @rNe.eq_1 @Q8))))))))))))))))))))))))
def ry3:=And.intro @Q7 (And.intro @zF (And.intro @VF (And.intro @VG (And.intro @VH (And.intro @VD (And.intro @Sy (And.intro @VJ (And.intro @YM (And.intro @Hv (And.intro @Qv (And.intro @J4.eq_1 (And.intro @Pn (And.intro @Pk (And.intro @Vr.eq_1 (And.intro @ur.eq_1 (And.intro @KJ (And.intro @Qy (And.intro @KD (And.intro @KH (And.intro @JH.eq_1 (And.intro @U3.eq_1 (And.intro @Vg.eq_1 (And.intro @L2.start.eq_1 (And.intro @List.map_cons.{0,0} (And.intro @List.map_nil.{0,0} (And.intro @List.length_cons.{0} (And.intro @List.length_nil.{0} (And.intro @List.cons_append.{0} (And.intro @List.nil_append.{0} (And.intro @List.replicate_succ.{0} (And.intro @List.replicate_zero.{0} (And.intro @List.append_nil.{0} (And.intro @List.getElem?_cons_zero.{0} @List.getElem?_cons_succ.{0})))))))))))))))))))))))))))))))))
def ry4:=And.intro @List.set_cons_zero.{0} (And.intro @List.set_cons_succ.{0} (And.intro @Nat.sub_self (And.intro @Option.some.injEq.{0} (And.intro @exists_eq_left'.{1} (And.intro @Oj (And.intro @Ua (And.intro @J1.eq_1 (And.intro @V.int.injEq (And.intro @V.str.injEq (And.intro @CW (And.intro @CZ (And.intro @ye (And.intro @CV (And.intro @yd (And.intro @Tp (And.intro @Tj (And.intro @Nt (And.intro @V.bl.injEq (And.intro @V.ref.injEq (And.intro @List.cons.injEq.{0} (And.intro @and_true (And.intro @true_and (And.intro @exists_and_left.{1} (And.intro @decide_eq_true_eq (And.intro @Kd (And.intro @Pu (And.intro @nT (And.intro @qP (And.intro @K3 (And.intro @Qw (And.intro @tSl.eq_1 (And.intro @yc.eq_1 (And.intro @J0.eq_1 @QK)))))))))))))))))))))))))))))))))
def ry5:=And.intro @QL (And.intro @FJ (And.intro @Q0 (And.intro @Q5 (And.intro @QX (And.intro @QZ (And.intro @Ny (And.intro @Tq (And.intro @Ti (And.intro @Tg (And.intro @Qm (And.intro @JX (And.intro @Qk (And.intro @Nv (And.intro @Vj (And.intro @Vi (And.intro @Vh (And.intro @Vs.eq_1 @ipI.eq_1)))))))))))))))))
def ry6:=And.intro @Pj (And.intro @Xw (And.intro @Ud (And.intro @Uc @Ub)))
def rdy:=And.intro ry0 (And.intro ry1 (And.intro ry2 (And.intro ry3 (And.intro ry4 (And.intro ry5 (And.intro ry6 @tV.eq_1))))))
theorem cJ {K:PySem.W.Frag}{h:Heap}{mg:Str->Option Value}{x:Str}{st:Stmt}{ps:List Str}{f:Addr}{oc:Value}{od an:Option Addr}{osl:Array (Option Value)}{kV doc pm cdv ct:Value}(X:K.In h) (G:h.Ns mainGlobals mg) (a:PySem.W.nsIn K mainGlobals x=some (some (.ref f)))
  (l:K.lookup f=some ⟨oc,od,.func (PySem.W.fnOf x x (bw st) (bf st) (aj st) .none kV doc pm an cdv ct),osl⟩) (c:PySem.W.codeIn K cdv x=true) (k:PySem.W.keepIn K (.ref f)=true)
  (hb:∀ (kV doc pm:Value) (an:Option Addr) (cdv ct:Value) (us:List Value),us.length=ps.length->bindArgs (PySem.W.fnOf x x (bw st) (bf st) (aj st) .none kV doc pm an cdv ct) ⟨us,[]⟩=pure (ps.zip us)):X8 K mg x st ps f (PySem.W.fnOf x x (bw st) (bf st) (aj st) .none kV doc pm an cdv ct):=
 ⟨N7 (st:=st) l c k,(N7 (st:=st) l c k).binds hb,PySem.W.mg_of X G a⟩
end L2
set_option maxHeartbeats 4100000
namespace SRT
open PySem PyProof.Rows
def Ris (xs:Array Nat):Prop:=xs.toList.Pairwise (· < ·)
theorem Ris.lt {xs:Array Nat}(h:Ris xs) {i k x y:Nat}(hx:xs[i]?=some x) (hy:xs[k]?=some y) (hik:i < k):x < y:=by
 rw[<- Array.getElem?_toList] at hx hy
 obtain ⟨h1,rfl⟩:=List.getElem?_eq_some_iff.mp hx
 obtain ⟨h2,rfl⟩:=List.getElem?_eq_some_iff.mp hy
 exact List.pairwise_iff_getElem.mp h i k h1 h2 hik
theorem T5 {xs:Array Nat}(hr:Ris xs) (j:Nat):∀ fuel lo hi,hi - lo<=fuel->lo<=hi->hi<=xs.size->(∀ i x,xs[i]?=some x->i < lo->x < j)->(∀ i x,xs[i]?=some x->hi<=i->j<=x) ->
  (∀ i x,xs[i]?=some x->(i < SetTable.below.go xs j fuel lo hi ↔ x < j))/\SetTable.below.go xs j fuel lo hi<=xs.size:=by
 intro fuel
 induction fuel with
 | zero=>
  intro lo hi h1 h2 h3 h4 h5
  have e:hi=lo:=by omega
  subst e
  refine ⟨fun i x hx=>⟨fun hl=>h4 i x hx hl,fun hl=>?_⟩,h3⟩
  show i < hi
  refine Nat.lt_of_not_le fun hle=>?_
  have:=h5 i x hx hle
  omega
 | succ fuel ih=>
  intro lo hi h1 h2 h3 h4 h5
  show (∀ i x,xs[i]?=some x->(i < (if lo < hi then if xs.getD ((lo + hi) / 2) j < j then SetTable.below.go xs j fuel ((lo + hi) / 2 + 1) hi else SetTable.below.go xs j fuel lo ((lo + hi) / 2) else lo) ↔ x < j))/\(if lo < hi then if xs.getD ((lo + hi) / 2) j < j then SetTable.below.go xs j fuel ((lo + hi) / 2 + 1) hi else SetTable.below.go xs j fuel lo ((lo + hi) / 2) else lo)<=xs.size
  by_cases hl:lo < hi
  ·rw[if_pos hl]
   have hm:(lo + hi) / 2 < xs.size:=by omega
   have hg:xs[(lo + hi) / 2]?=some xs[(lo + hi) / 2]:=by simp [hm]
   have hd:xs.getD ((lo + hi) / 2) j=xs[(lo + hi) / 2]:=by simp [Array.getD,hm]
   rw[hd]
   by_cases hc:xs[(lo + hi) / 2] < j
   ·rw[if_pos hc]
    refine ih _ _ ω ω h3 (fun i x hx hi'=>?_) h5
    by_cases e:i=(lo + hi) / 2
    ·subst e; rw[hg] at hx; cases hx; exact hc
    ·exact Nat.lt_trans (hr.lt hx hg ω) hc
   ·rw[if_neg hc]
    refine ih _ _ ω ω ω h4 (fun i x hx hi'=>?_)
    by_cases e:i=(lo + hi) / 2
    ·subst e; rw[hg] at hx; cases hx; omega
    ·have:=hr.lt hg hx ω
     omega
  ·rw[if_neg hl]
   have e:hi=lo:=by omega
   subst e
   refine ⟨fun i x hx=>⟨fun hl=>h4 i x hx hl,fun hl=>?_⟩,h3⟩
   refine Nat.lt_of_not_le fun hle=>?_
   have:=h5 i x hx hle
   omega
theorem oV {xs:Array Nat}(hr:Ris xs) (j:Nat):(∀ i x,xs[i]?=some x->(i < SetTable.below xs j ↔ x < j))/\SetTable.below xs j<=xs.size:=by
 unfold SetTable.below
 refine T5 hr j _ _ _ ω ω (Nat.le_refl _) (fun _ _ _ h=>absurd h ω) fun i x hx hi=>?_
 have:=(Array.getElem?_eq_some_iff.mp hx).1
 omega
theorem Cq {xs:Array Nat}(hr:Ris xs) {j:Nat}(hn:xs[SetTable.below xs j]?≠some j):∀ x∈xs.toList,x≠j:=by
 intro x hx e
 subst e
 obtain ⟨i,hi,e⟩:=List.mem_iff_getElem.mp hx
 have hg:xs[i]?=some x:=by rw[<- Array.getElem?_toList,List.getElem?_eq_getElem hi,e]
 have hs:=oV hr x
 have h1:=(hs.1 i x hg)
 have h2:SetTable.below xs x<=i:=by
  refine Nat.le_of_not_lt fun h=>?_
  exact Nat.lt_irrefl _ (h1.mp h)
 rcases Nat.lt_or_ge (SetTable.below xs x) i with h | h
 ·have hi':i < xs.size:=by simpa using hi
  have hb:SetTable.below xs x < xs.size:=by omega
  have hgb:xs[SetTable.below xs x]?=some xs[SetTable.below xs x]:=by simp [hb]
  have l1:=hr.lt hgb hg h
  have:=(hs.1 _ _ hgb).mpr l1
  omega
 ·have e:SetTable.below xs x=i:=by omega
  rw[e] at hn
  exact hn hg
theorem wk {α:Type}(xs:Array α) (p:Nat) (x:α):(SetTable.insertAt xs p x).toList=xs.toList.take p ++ x :: xs.toList.drop p:=by
 unfold SetTable.insertAt
 simp [Array.toList_extract,List.extract,List.take_of_length_le]
theorem Dj {xs:Array Nat}(hr:Ris xs) {j:Nat}(hn:xs[SetTable.below xs j]?≠some j):Ris (SetTable.insertAt xs (SetTable.below xs j) j):=by
 have hs:=oV hr j
 have hne:=Cq hr hn
 show (SetTable.insertAt xs (SetTable.below xs j) j).toList.Pairwise (· < ·)
 rw[wk]
 have hx:xs.toList.Pairwise (· < ·):=hr
 rw[List.pairwise_append,List.pairwise_cons]
 refine ⟨hx.sublist (List.take_sublist _ _),⟨fun y hy=>?_,hx.sublist (List.drop_sublist _ _)⟩,fun a ha b hb=>?_⟩
 ·obtain ⟨i,hi,e⟩:=List.mem_iff_getElem.mp hy
  rw[List.getElem_drop] at e
  have hl:SetTable.below xs j + i < xs.toList.length:=by rw[List.length_drop] at hi; omega
  have hg:xs[SetTable.below xs j + i]?=some y:=by rw[<- Array.getElem?_toList,List.getElem?_eq_getElem hl,e]
  have h1:=hs.1 _ _ hg
  have h2:=hne y (List.mem_of_mem_drop hy)
  have:¬ (y < j):=fun h=>by have:=h1.mpr h; omega
  omega
 ·have l1:a < j:=by
   obtain ⟨i,hi,e⟩:=List.mem_iff_getElem.mp ha
   rw[List.getElem_take] at e
   have hl:i < SetTable.below xs j/\i < xs.toList.length:=by rw[List.length_take] at hi; omega
   have hg:xs[i]?=some a:=by rw[<- Array.getElem?_toList,List.getElem?_eq_getElem hl.2,e]
   exact (hs.1 _ _ hg).mp hl.1
  rcases List.mem_cons.mp hb with rfl | hb
  ·exact l1
  ·obtain ⟨i,hi,e⟩:=List.mem_iff_getElem.mp hb
   rw[List.getElem_drop] at e
   have hl:SetTable.below xs j + i < xs.toList.length:=by rw[List.length_drop] at hi; omega
   have hg:xs[SetTable.below xs j + i]?=some b:=by rw[<- Array.getElem?_toList,List.getElem?_eq_getElem hl,e]
   have h1:=hs.1 _ _ hg
   have:¬ (b < j):=fun h=>by have:=h1.mpr h; omega
   omega
def TOk (b:Bool) (t:SetTable):Prop:=Ris t.place/\t.dummies=#[]/\t.led=b
theorem G3 {b:Bool}{t:SetTable}(h:TOk b t) (p:Bool):TOk b { t with plain:=p }:=h
theorem Hu (n:Nat):Ris (Array.range n):=by
 show (Array.range n).toList.Pairwise (· < ·)
 rw[Array.toList_range]
 exact List.pairwise_lt_range
theorem jz {b:Bool}{t:SetTable}(h:TOk b t) (n:Nat):TOk b (t.standIn n):=⟨Hu n,rfl,h.2.2⟩
theorem vV {b:Bool}{t:SetTable}(h:TOk b t) (n:Nat):TOk b (t.orStandIn n):=by
 unfold SetTable.orStandIn
 split
 ·exact h
 ·exact jz h n
theorem G4 (f m:Nat) (b:Bool):TOk b (SetTable.fresh f m b):=⟨List.Pairwise.nil,rfl,rfl⟩
theorem Dp {t:SetTable}(hd:t.dummies=#[]) {f:Nat->Int}{h:Int}(hf:∀ i,(f i == h)=false):∀ (fuel:Nat) (p:SetTable.Probe),p.dummy=none ->
  ∀ m,SetTable.probe.go t f h fuel p=some m->∃ j,m=.empty j none/\t.place[SetTable.below t.place j]?≠some j:=by
 intro fuel
 induction fuel with
 | zero=>intro p _ m e; exact absurd e (by simp [SetTable.probe.go])
 | succ fuel ih=>
  intro p hp m e
  unfold SetTable.probe.go at e
  have hnd:∀ j,SetTable.has t.dummies j=false:=fun j=>by rw[hd]; simp [SetTable.has]
  have hadv:∀ q:SetTable.Probe,q.dummy=none->(t.advance q).dummy=none:=fun q hq=>by
   unfold SetTable.advance
   split
   ·exact hq
   ·exact hq
  split at e
  ·rename_i hs
   cases e
   refine ⟨p.j,by rw[hp],fun hc=>?_⟩
   unfold SetTable.slot at hs
   simp [hc] at hs
  ·rename_i hs
   unfold SetTable.slot at hs
   dsimp only at hs
   split at hs
   ·cases hs
   ·rw[hnd] at hs
    simp at hs
  ·rw[hf,if_neg (by simp)] at e
   exact ih _ (hadv _ hp) m e
theorem Bt {t:SetTable}(hd:t.dummies=#[]) {h:Int}{j:Nat}{b:Bool}(e:t.freeSlot h=some (j,b)):t.place[SetTable.below t.place j]?≠some j:=by
 unfold SetTable.freeSlot SetTable.probe at e
 split at e
 ·rename_i j' d hp
  obtain ⟨j2,e2,hn⟩:=Dp hd (f:=fun _=>h + 1) (h:=h) (fun i=>by simp; omega) _ _ rfl _ hp
  cases e2
  simp at e
  rw[<- e.1]
  exact hn
 ·cases e
theorem DW {b:Bool}{t:SetTable}(ht:TOk b t) (es:Array (Int×Value)) (h:Int) (x:Value):TOk b (layNew t es h x).2.1:=by
 unfold layNew
 split
 ·rename_i slot wd hs
  have hn:=Bt ht.2.1 hs
  refine vV ?_ _
  unfold SetTable.put
  refine ⟨Dj ht.1 hn,?_,ht.2.2⟩
  show (if SetTable.has t.dummies slot=true then SetTable.eraseAt t.dummies (SetTable.below t.dummies slot) else t.dummies)=#[]
  rw[ht.2.1]
  rfl
 ·exact jz ht _
theorem yx {b:Bool}{t:SetTable}(ht:TOk b t) (es:Array (Int×Value)) (n:Nat):TOk b (relayAll t es n).2.1:=by
 unfold relayAll
 split
 ·rename_i t' order hr
  dsimp only
  split
  ·unfold SetTable.relaid SetTable.laid at hr
   cases ho:SetTable.layClean (SetTable.sizeAbove n - 1) (es.map (·.1)) with
   | none=>rw[ho] at hr; cases hr
   | some owner=>
    rw[ho] at hr
    simp only[Option.bind_eq_bind,Option.bind_some,Option.pure_def,Option.some.injEq,Prod.mk.injEq] at hr
    obtain ⟨rfl,-⟩:=hr
    refine ⟨?_,rfl,ht.2.2⟩
    show (List.map _ _).toArray.toList.Pairwise (· < ·)
    rw[List.toList_toArray,List.pairwise_map,List.pairwise_filterMap]
    refine List.pairwise_lt_range.imp fun {a c} hac p hp q hq=>?_
    simp only[Option.map_eq_some_iff] at hp hq
    obtain ⟨_,_,rfl⟩:=hp
    obtain ⟨_,_,rfl⟩:=hq
    exact hac
  ·exact jz ht _
 ·exact jz ht _
end SRT
namespace SRT
open PySem PyProof.Rows
section
variable {prog:Program}{w:World}{K:Type} [DecidableEq K]
def SetT (knd:KeyKind prog w K) (b:Bool) (h:Heap) (a:Addr) (S:K->Bool) (n:Nat):Prop:=
 ∃ o es ep t,h.get? a=some o/\o.ExactSet/\o.data=.set es ep t/\(ElemsOf knd es.toList/\(∀ k,S k=true ↔ ∃ e∈es.toList,knd.is k e.2=true)/\es.size < scanBound)/\t.fits es.size=true/\es.size=n/\TOk b t
variable {knd:KeyKind prog w K}{A:Around}{E:Value->Shared->Prop}{s:Shared}{b:Bool}
theorem SetT.get {h h':Heap}{a:Addr}{S:K->Bool}{n:Nat}(hS:SetT knd b h a S n) (hk:∀ o,h.get? a=some o->h'.get? a=some o):SetT knd b h' a S n:=
 let ⟨o,es,ep,t,ho,r⟩:=hS; ⟨o,es,ep,t,hk o ho,r⟩
theorem SetT.congr {h:Heap}{a:Addr}{S S':K->Bool}{n n':Nat}(hS:SetT knd b h a S n) (e:∀ k,S k=S' k) (en:n=n'):SetT knd b h a S' n':=by
 have:S=S':=funext e
 subst this
 subst en
 exact hS
theorem wL {h:Heap}{a:Addr}{o:Obj}{es:Array (Int×Value)}{ep:Nat}{t:SetTable}(ho:h.get? a=some o) (hex:o.ExactSet) (hd:o.data=.set es ep t)
  {es':Array (Int×Value)} {t':SetTable} {S':K->Bool} (hel:ElemsOf knd es'.toList/\(∀ k,S' k=true ↔ ∃ e∈es'.toList,knd.is k e.2=true)/\es'.size < scanBound) (hf:t'.fits es'.size=true) (ht:TOk b t') :
  (h.update a (Obj.putSet es' t')).get? a=some { o with data:=.set es' (ep + 1) t' }/\SetT knd b (h.update a (Obj.putSet es' t')) a S' es'.size:=by
 have hg:(h.update a (Obj.putSet es' t')).get? a=some { o with data:=.set es' (ep + 1) t' }:=by
  have q:=Heap.get?_update_self (Obj.putSet es' t') ho (by rw[putSet_of es' t' hd]; rfl)
  rw[putSet_of es' t' hd] at q
  exact q
 exact ⟨hg,_,es',ep + 1,t',hg,hex,rfl,hel,hf,rfl,ht⟩
theorem Cw {g:Bool->Sem Unit}(hg:∀ (c:Bool) (s₁:Shared) (Q':Unit->Shared->Prop),Q' () s₁->wpAny (model prog w) A (g c) Q' E s₁)
  {a:Addr} {o:Obj} {es:Array (Int×Value)} {ep:Nat} {t:SetTable} (ho:s.heap.get? a=some o) (hex:o.ExactSet) (hd:o.data=.set es ep t)
  {es1:Array (Int×Value)} {t2:SetTable} {S':K->Bool} (hel:ElemsOf knd es1.toList/\(∀ k,S' k=true ↔ ∃ e∈es1.toList,knd.is k e.2=true)/\es1.size < scanBound)
  (hf:t2.fits es1.size=true) (ht:TOk b t2) {wd:Bool} {R:Option Bool->Shared->Prop}
  (h:∀ h',Heap.SameBut a s.heap h'->SetT knd b h' a S' es1.size->R (some true) { s with heap:=h' }) :
  wpAny (model prog w) A (storeSet a es1 t2 >>= fun _=>if (!wd && t2.tooFull)=true then (g (relayAll t2 es1 (SetTable.grown es1.size)).2.2 >>= fun _=>storeSet a (relayAll t2 es1 (SetTable.grown es1.size)).1 (relayAll t2 es1 (SetTable.grown es1.size)).2.1 >>= fun _=>pure (some true)) else pure (some true)) R E s:=by
 refine wpAny_bind (wpAny_storeSet_of ho hd ?_ (fits_of_scanBound hel.2.2))
 obtain ⟨ho1,hS1⟩:=wL (knd:=knd) ho hex hd hel hf ht
 have hsb1:=Heap.SameBut.update s.heap a (Obj.putSet es1 t2)
 by_cases hc:(!wd && t2.tooFull)=true
 ·rw[if_pos hc]
  have hp:=relayAll_perm t2 es1 (SetTable.grown es1.size)
  have hfr:=relayAll_fits t2 es1 (SetTable.grown es1.size)
  have htr:=yx ht es1 (SetTable.grown es1.size)
  generalize relayAll t2 es1 (SetTable.grown es1.size)=Rl at hp hfr htr |-
  obtain ⟨es2,t3,gv⟩:=Rl
  dsimp only at hp hfr htr |-
  have hsz:es2.size=es1.size:=by rw[<- Array.length_toList,hp.length_eq,Array.length_toList]
  have hel2:ElemsOf knd es2.toList/\(∀ k,S' k=true ↔ ∃ e∈es2.toList,knd.is k e.2=true)/\es2.size < scanBound:=
   ⟨hel.1.perm hp,fun k=>(hel.2.1 k).trans ⟨fun ⟨e,he,q⟩=>⟨e,hp.mem_iff.mpr he,q⟩,fun ⟨e,he,q⟩=>⟨e,hp.mem_iff.mp he,q⟩⟩,by rw[hsz]; exact hel.2.2⟩
  refine wpAny_bind (hg _ _ _ (wpAny_bind (wpAny_storeSet_of ho1 rfl ?_ (fits_of_scanBound hel2.2.2))))
  obtain ⟨_,hS2⟩:=wL (knd:=knd) ho1 hex rfl hel2 hfr htr
  rw[hsz] at hS2
  exact wpAny_pure (h _ (hsb1.trans (Heap.SameBut.update _ a _)) hS2)
 ·rw[if_neg hc]
  exact wpAny_pure (h _ hsb1 hS1)
theorem KC {a:Addr}{S:K->Bool}{n:Nat}{k:K}{x:Value}{Q:Bool->Shared->Prop}(hkey:knd.is k x=true) (hsc:x.scannable=true) (hS:SetT knd b s.heap a S n) (hroom:n + 1 < scanBound)
  (h:∀ h',Heap.SameBut a s.heap h'->SetT knd b h' a (fun k'=>S k' || decide (k'=k)) (if S k then n else n + 1)->Q (!S k) { s with heap:=h' }) :
  wpAny (model prog w) A (setAddHashed a x (knd.hash k)) Q E s:=by
 obtain ⟨o,es,ep,t,ho,hex,hd,hel,hf,hn,ht⟩:=hS
 unfold setAddHashed setAddHashedIn
 refine wpAny_holding (wpAny_bind (wpAny_setState_of ho hd hf ?_))
 dsimp only
 rw[byScan_of hsc hel.2.2 hel.1,if_pos rfl]
 unfold setAddByScan
 refine wpAny_bind (wpAny_bind (wpAny_rule (wpAny_bind (wpAny_setScan_of hkey ho hd hf hel.1 ?_))))
 cases hr:List.findIdx? (fun e=>knd.is k e.2) es.toList with
 | some j=>
  dsimp only
  obtain ⟨hj,hpj,_⟩:=List.findIdx?_eq_some_iff_getElem.mp hr
  have hSk:S k=true:=(hel.2.1 k).mpr ⟨es.toList[j],List.getElem_mem hj,hpj⟩
  refine wpAny_pure (wpAny_pure ?_)
  have q:=h s.heap (Heap.SameBut.refl a s.heap) ⟨o,es,ep,t,ho,hex,hd,⟨hel.1,fun k'=>by
   rw[Bool.or_eq_true,decide_eq_true_eq,<- hel.2.1 k']
   exact ⟨fun hk=>hk.elim id (fun e=>e ▸ hSk),.inl⟩,hel.2.2⟩,hf,by rw[hSk]; exact hn,ht⟩
  rw[hSk] at q
  exact q
 | none=>
  dsimp only
  have hSk:S k=false:=by
   cases hk:S k with
   | false=>rfl
   | true=>
    obtain ⟨e,he,hp⟩:=(hel.2.1 k).mp hk
    have q:=List.findIdx?_eq_none_iff.mp hr e he
    rw[hp] at q
    exact Bool.noConfusion q
  have hgw:∀ (c:Bool) {s₁:Shared} {Q':Unit->Shared->Prop},Q' () s₁->wpAny (model prog w) A (match c with | true=>rule "set.scan.the-table-gave-way" | false=>pure ()) Q' E s₁:=
   fun c s₁ Q' hq=>by cases c <;> first | exact wpAny_pure hq | exact wpAny_rule hq
  have hperm:=layNew_perm t es (knd.hash k) x
  have hfits:=layNew_fits t es (knd.hash k) x
  have htok:=DW ht es (knd.hash k) x
  generalize layNew t es (knd.hash k) x=L at hperm hfits htok |-
  obtain ⟨es1,t1,wd,gv⟩:=L
  dsimp only at hperm hfits htok |-
  rw[Array.toList_push] at hperm
  have hsz1:es1.size=n + 1:=by rw[<- Array.length_toList,hperm.length_eq,List.length_append,Array.length_toList,hn]; rfl
  have hel1:ElemsOf knd es1.toList/\(∀ k',(S k' || decide (k'=k))=true ↔ ∃ e∈es1.toList,knd.is k' e.2=true)/\es1.size < scanBound:=
   ⟨(hel.1.push hkey hsc).perm hperm,mem_push_iff hkey hel.2.1 hperm,by rw[hsz1]; exact hroom⟩
  have hend:∀ h',Heap.SameBut a s.heap h'->SetT knd b h' a (fun k'=>S k' || decide (k'=k)) es1.size->Q true { s with heap:=h' }:=by
   intro h' hsb hS'
   have q:=h h' hsb
   rw[hSk] at q
   rw[hsz1] at hS'
   exact q hS'
  refine wpAny_bind (hgw _ ?_)
  by_cases hpl:t1.plain=true
  ·rw[if_pos hpl,hashByValue_scannable 8 hsc]
   refine wpAny_bind (wpAny_pure ?_)
   refine Cw (b:=b) ?_ ho hex hd hel1 (t2:=if plainKind x=true then t1 else { t1 with plain:=false }) ?_ ?_ ?_
   ·intro c s₁ Q' hq; cases c <;> first | exact wpAny_pure hq | exact wpAny_rule hq
   ·split
    ·exact hfits
    ·exact SetTable.fits_plain_off hfits
   ·split
    ·exact htok
    ·exact G3 htok false
   ·intro h' hsb hS'; dsimp only; exact wpAny_pure (hend h' hsb hS')
  ·rw[if_neg hpl]
   refine wpAny_bind (wpAny_pure ?_)
   refine Cw (b:=b) ?_ ho hex hd hel1 hfits htok ?_
   ·intro c s₁ Q' hq; cases c <;> first | exact wpAny_pure hq | exact wpAny_rule hq
   ·intro h' hsb hS'; dsimp only; exact wpAny_pure (hend h' hsb hS')
end
end SRT
namespace SRT
open PySem PyProof.Rows
abbrev bt (w:World):Bool:=w.params.followText "set-order"
section
variable {prog:Program}{w:World}{A:Around}{R:Result->Shared->Prop}{I:Addr}{fp wr:List Addr}{G:Array GenState->Array GenState->Prop}{n:Nat}{P:Nat->Value->Prop}{St:Nat->Shared->Prop}{b:Bool}
theorem JM (W:WalksS prog w A.in1 I fp wr G n P St) (S:Addr) (hSf:S∉fp) (val:Nat->Int) (hval:∀ i v,P i v->∃ t,v=.int (val i) t) (hb:n + 1 < scanBound) :
  ∀ (k i:Nat) (s:Shared),n - i=k->i<=n->St i s->SetT (intKind prog w) b s.heap S (fun k'=>(firstMet val i).any (· == k')) (firstMet val i).length ->
   (∀ s',Moved (S :: wr) G s s'->SetT (intKind prog w) b s'.heap S (fun k'=>(firstMet val n).any (· == k')) (firstMet val n).length->R (.ok (.ret .none)) s') ->
   codeAny (model prog w) A (.builtin "set.update.loop" ⟨[.ref S,.ref I],[]⟩) R s:=by
 have hSw:S∉wr:=fun h=>hSf (W.sub _ h)
 have hsub:∀ c∈wr,c∈S :: wr:=fun c hc=>List.mem_cons_of_mem _ hc
 intro k
 induction k with
 | zero=>
  intro i s hk hi hst hS hR
  have hin:i=n:=by omega
  subst hin
  refine codeAny_builtin F.entry_set_update_loop ?_
  rw[Around.under_plainId F.plain_set_update_loop _]
  show wpAny _ A.in1 (pyNext (.ref I) >>= _) _ _ s
  refine wpAny_bind (W.done s _ _ hst fun s' hm=>?_)
  show wpAny _ A.in1 (ret Value.none) _ _ s'
  exact wpAny_pure (hR s' (hm.mono hsub) (hS.get fun o e=>hm.heap S _ hSw e))
 | succ k ih=>
  intro i s hk hi hst hS hR
  have hlt:i < n:=by omega
  refine codeAny_builtin F.entry_set_update_loop ?_
  rw[Around.under_plainId F.plain_set_update_loop _]
  show wpAny _ A.in1 (pyNext (.ref I) >>= _) _ _ s
  refine wpAny_bind (W.item i s _ _ hlt hst fun v s' hP hst' hm=>?_)
  obtain ⟨t,rfl⟩:=hval i v hP
  have hS':=hS.get fun o e=>hm.heap S _ hSw e
  show wpAny _ A.in1 (holding [Value.int (val i) t] (setAdd S (.int (val i) t)) >>= _) _ _ s'
  refine wpAny_bind (wpAny_holding ?_)
  unfold setAdd
  refine wpAny_holding (wpAny_bind ((intKind prog w).pyHash (k:=val i) (intKind_is _ _ _ _) ?_))
  have hroom:(firstMet val i).length + 1 < scanBound:=by have:=firstMet_length_le val i; omega
  refine KC (knd:=intKind prog w) (s:={ s' with toks:=s'.toks + 1 }) (intKind_is _ _ _ _) rfl hS' hroom fun h' hsb hS2=>?_
  have hSi:SetT (intKind prog w) b h' S (fun k'=>(firstMet val (i + 1)).any (· == k')) (firstMet val (i + 1)).length:=
   hS2.congr (fun k'=>by rw[firstMet_succ,step_any]) (by rw[firstMet_succ,step_length])
  refine wpAny_pure ⟨plainId_quiet F.plain_set_update_loop _,ih (i + 1) _ ω hlt (W.frame _ s' _ _ hst' (Nat.le_succ _) fun c hc o e=>?_) hSi fun s'' hm'' hS''=>?_⟩
  ·rw[hsb.2 c (fun h:c=S=>hSf (by rw[<- h]; exact hc))]; exact e
  ·refine hR s'' (Moved.trans W.gtrans ((hm.mono hsub).then_heap (Nat.le_succ _) fun c o hc e=>?_) hm'') hS''
   rw[hsb.2 c (fun h:c=S=>hc (by rw[h]; exact List.mem_cons_self))]; exact e
end
abbrev vZ (w:World):Obj:={ cls:=.type "set",dict:=none,data:=.set #[] 0 (.fresh 0 0 (!bt w)) }
section
variable {prog:Program}{w:World}{A:Around}{E:Value->Shared->Prop}{s:Shared}
theorem Jl (a:Value) {Q₁:Value->Shared->Prop}(h:Q₁ (.ref s.heap.objs.size) { s with heap:=s.heap.push (vZ w) }) :
  codeAny (model prog w) A (.call (.builtin "set.__new__") ⟨[.type "set",a],[]⟩) (wants Q₁ E) s:=by
 refine codeAny_of_tree (show wpAny _ A.in1 (checkBuiltinCall "set.__new__" ⟨[.type "set",a],[]⟩ >>= fun _=>again (.builtin "set.__new__" ⟨[.type "set",a],[]⟩)) _ _ s from ?_)
 refine wpAny_bind (wpAny_of_eq (F.newCall_set_1 a) (wpAny_pure ⟨plainId_quiet F.plain_set_new _,codeAny_builtin F.entry_set_new ?_⟩))
 rw[Around.under_plainId F.plain_set_new _]
 unfold Builtin.«set.__new__» Builtin.Frozenset.newClass
 have hsub:=sub_set_self
 obtain ⟨hp,g,d,tk,os⟩:=s
 dsimp only
 wp_walk
 refine wpAny_askSetting (wpAny_pure ?_)
 dsimp only
 simp only[newObj]
 exact wpAny_bind (wpAny_alloc (wpAny_pure (wpAny_pure h)))
set_option maxHeartbeats 3200000 in
theorem Jo {l:Addr}{items:Array Value}{ns:List Int}{Q:Value->Shared->Prop}(hh:A.handled=none) (hl:s.heap.IsList l items) (hi:IntsAre items.toList ns) (hb:items.size + 1 < scanBound)
  (h:∀ (h':Heap) (tk:Nat),SetT (intKind prog w) (!bt w) h' s.heap.objs.size (fun k'=>(firstMet (fun i=>ns.getD i 0) items.size).any (· == k')) (firstMet (fun i=>ns.getD i 0) items.size).length ->
   (∀ c o,c < s.heap.objs.size->s.heap.get? c=some o->h'.get? c=some o)->Q (.ref s.heap.objs.size) { s with heap:=h',toks:=tk }) :
  wpAny (model prog w) A (call (.type "set") [.ref l]) Q E s:=by
 obtain ⟨c,tl,hmro⟩:=F.called_set.mro
 have hmade:=F.called_set.made
 have hsub:=F.called_set.sub
 refine wpAny_call (codeAny_of_tree (show wpAny _ _ (callAny (.type "set") _) _ _ _ from wpAny_pure ⟨Code.quiet_builtin _ ψ,codeAny_builtin F.entry_type_call ?_⟩))
 rw[Around.under_plain (weight_type_call_type "set" [.ref l] []) rfl]
 have h1:=F.called_set.notType
 have h2:=F.called_set.canCreate
 have hct:=F.typeCall_set_1 (.ref l)
 repeat (any_goals (first | assumption | wp_step))
 refine codeAny_mono (Jl (.ref l) (E:=E) (Q₁:=fun obj s₁=>obj=.ref s.heap.objs.size/\s₁={ s with heap:=s.heap.push (vZ w) }) ⟨rfl,rfl⟩) fun r s₁ hr=>?_
 cases r with
 | error e=>exact hr
 | ok fl=>
  cases fl with
  | ret obj=>
   obtain ⟨rfl,rfl⟩:=hr
   have hS:(s.heap.push (vZ w)).get? s.heap.objs.size=some (vZ w):=Heap.get?_push_size _ rfl
   have hT:Shared.TypeIs { s with heap:=s.heap.push (vZ w) } (.ref s.heap.objs.size) "set" := ⟨_,hS,rfl⟩
   have hli:=F.called_set.init.lookup
   have hbi:=F.called_set.init.bind (.ref s.heap.objs.size)
   repeat (any_goals (first | assumption | wp_step))
   refine codeAny_mono (codeAny_call_builtin (R:=wants (fun r s₂=>r=.none/\∃ h' tk,s₂={ s with heap:=h',toks:=tk } /\
     SetT (intKind prog w) (!bt w) h' s.heap.objs.size (fun k'=>(firstMet (fun i=>ns.getD i 0) items.size).any (· == k')) (firstMet (fun i=>ns.getD i 0) items.size).length /\
     (∀ c o,c < s.heap.objs.size->s.heap.get? c=some o->h'.get? c=some o)) E) F.called_set.init.plain F.entry_set_init (check_set_init_1 hT ?_)) fun r₂ s₂ hr₂=>?_
   ·obtain ⟨ol,hol,hcl,nl,hdl⟩:=hl
    obtain ⟨ocls,odict,odata,oslots⟩:=ol
    simp only at hcl hdl
    subst hcl
    subst hdl
    have hol':(s.heap.push (vZ w)).get? l=some { cls:=.type "list",dict:=odict,data:=.seq items nl,slots:=oslots }:=Heap.get?_push_of_some _ hol
    have hsls:=F.sub_list_set
    have hslf:=F.sub_list_frozenset
    have hne:(Value.type "list" == Value.type "dict")=false:=by decide
    have hl1:(s.heap.push (vZ w)).IsList l items:=⟨_,hol',rfl,nl,rfl⟩
    unfold Builtin.«set.__init__» noKeywords Builtin.Frozenset.updateFrom
    generalize hPI:pyIter=PI
    wp_walk
    subst hPI
    refine wpAny_pyIter_list hl1 (wpAny_bind (wpAny_runValue ?_))
    have hlS:l < s.heap.objs.size:=Heap.lt_size hol
    have hh3:A.in1.in1.in1.handled=none:=by simp [hh]
    have hneI:l≠(s.heap.push (vZ w)).objs.size:=by
     rw[Heap.size_push]; exact Nat.ne_of_lt (Nat.lt_succ_of_lt hlS)
    have hSf:s.heap.objs.size∉[(s.heap.push (vZ w)).objs.size,l]:=by
     rw[Heap.size_push]; simp only[List.mem_cons,List.mem_singleton,List.not_mem_nil,or_false,not_or]
     exact ⟨Nat.ne_of_lt (Nat.lt_succ_self _),Nat.ne_of_gt hlS⟩
    have hval:∀ (i:Nat) (v:Value),items[i]?=some v->∃ t,v=.int ((fun i=>ns.getD i 0) i) t:=fun i v hv=>IntsAre.int_at hi i v (by rw[Array.getElem?_toList]; exact hv)
    refine JM (b:=!bt w) ((Walks.list hh3 _ l hneI items).toS) s.heap.objs.size hSf (fun i=>ns.getD i 0) hval hb (items.size - 0) 0 _ ω (Nat.zero_le _)
     ⟨⟨_,Heap.get?_push_size _ rfl,rfl,rfl⟩,(hl1.push _)⟩ ?hS0 ?hR
    case hS0=>exact ⟨_,#[],0,_,Heap.get?_push_of_some _ hS,⟨rfl,rfl,rfl⟩,rfl,⟨fun e he=>by simp at he,fun k=>by simp [firstMet_zero],δ⟩,by rfl,rfl,G4 _ _ _⟩
    case hR=>
     intro s' hm hS'
     obtain ⟨h',g',d',tk',os'⟩:=s'
     have eg:g'=s.gens:=hm.gens
     have ed:d'=s.drawn:=hm.drawn
     have eo:os'=s.os:=hm.os
     subst eg; subst ed; subst eo
     show wpAny _ _ _ _ _ _
     refine wpAny_pure (show wpAny _ _ (ret Value.none) _ _ _ from wpAny_pure ⟨rfl,h',tk',rfl,hS',fun c o hc e=>?_⟩)
     have hc1:c≠s.heap.objs.size:=Nat.ne_of_lt hc
     have hc2:c≠(s.heap.push (vZ w)).objs.size:=by
      rw[Heap.size_push]; exact Nat.ne_of_lt (Nat.lt_succ_of_lt hc)
     exact hm.heap c o (by simp only[List.mem_cons,List.mem_singleton,List.not_mem_nil,or_false,not_or]; exact ⟨hc1,hc2⟩) (Heap.get?_push_of_some _ (Heap.get?_push_of_some _ e))
   ·cases r₂ with
    | error e=>exact hr₂
    | ok fl₂=>
     cases fl₂ with
     | ret r=>
      obtain ⟨rfl,h',tk,rfl,hS',hk'⟩:=hr₂
      repeat (any_goals (first | assumption | wp_step))
      exact h _ _ hS' hk'
     | _=>exact hr₂.elim
  | _=>exact hr.elim
end
end SRT
namespace SRT
open PySem PyProof.Rows
theorem oF {α:Type}:∀ {l:List α}{i:Nat}(h:i < l.length),(l[i] :: l.eraseIdx i).Perm l
 | x :: l,0,_=>List.Perm.refl _
 | x :: l,i + 1,h=>by
  have h':i < l.length:=by simpa using h
  show (l[i] :: x :: l.eraseIdx i).Perm (x :: l)
  exact (List.Perm.swap _ _ _).trans (List.Perm.cons _ (oF h'))
section
variable {prog:Program}{w:World}{A:Around}{E:Value->Shared->Prop}
theorem wp_choose {s:Shared}{src:Source}{n:Nat}{Q:Nat->Shared->Prop}(hn:n≠0) (h:∀ k d,k < n->Q k { s with drawn:=d }):wpAny (model prog w) A (choose src n) Q E s:=
 fun _ _ _=>⟨hn,h _ _ (Nat.mod_lt _ (Nat.pos_of_ne_zero hn))⟩
theorem Ug {α:Type}:∀ (n:Nat) (xs:List α) (s:Shared) {Q:List α->Shared->Prop},xs.length=n->(∀ ys d,ys.Perm xs->Q ys { s with drawn:=d })->wpAny (model prog w) A (drawOrder n xs) Q E s:=by
 intro n
 induction n with
 | zero=>
  intro xs s Q hl h
  have e:xs=[]:=List.length_eq_zero_iff.mp hl
  subst e
  exact wpAny_pure (h [] s.drawn (List.Perm.refl _))
 | succ n ih=>
  intro xs s Q hl h
  cases xs with
  | nil=>cases hl
  | cons x xs=>
   unfold drawOrder
   refine wpAny_bind (wp_choose (by simp) fun i d hi=>?_)
   have hg:(x :: xs)[i]?=some (x :: xs)[i]:=List.getElem?_eq_getElem hi
   rw[hg]
   dsimp only
   refine wpAny_bind (ih _ _ (by rw[List.length_eraseIdx,if_pos hi]; simpa using hl) fun ys d' hp=>wpAny_pure (h _ d' ?_))
   exact (List.Perm.cons _ hp).trans (oF hi)
end
theorem RD {α:Type}(next:Nat->Nat):∀ (fuel k:Nat) (left:List α) (out:Array α),left.length=fuel->(pickOrder.go next fuel k left out).toList.Perm (out.toList ++ left):=by
 intro fuel
 induction fuel with
 | zero=>
  intro k left out hl
  have e:left=[]:=List.length_eq_zero_iff.mp hl
  subst e
  show out.toList.Perm _
  rw[List.append_nil]
 | succ fuel ih=>
  intro k left out hl
  unfold pickOrder.go
  have hi:next k % left.length < left.length:=Nat.mod_lt _ ω
  rw[List.getElem?_eq_getElem hi]
  dsimp only
  refine (ih (k + 1) _ _ (by rw[List.length_eraseIdx,if_pos hi]; omega)).trans ?_
  rw[Array.toList_push,List.append_assoc]
  exact List.Perm.append_left _ (oF hi)
theorem HD {α:Type}(next:Nat->Nat) (xs:Array α):(pickOrder next xs).toList.Perm xs.toList:=by
 have:=RD next xs.size 0 xs.toList #[] (by simp)
 simpa [pickOrder] using this
def gO (h:Heap) (S:Addr) (es:Array (Int×Value)) (ep:Nat) (t:SetTable):Prop:=∃ o,h.get? S=some o/\o.ExactSet/\o.data=.set es ep t
def fJ (h:Heap) (I:Addr) (first:Value) (i:Nat) (S:Addr) (n ep:Nat):Prop:=
 h.get? I=some { cls:=.type "set_iterator",dict:=none,data:=.fields #[first,.int i 0,.ref S,.int n 0,.int ep 0],slots:=#[] }
theorem gO.get {h h':Heap}{S:Addr}{es:Array (Int×Value)}{ep:Nat}{t:SetTable}(hS:gO h S es ep t) (hk:∀ o,h.get? S=some o->h'.get? S=some o):gO h' S es ep t:=
 let ⟨o,ho,r⟩:=hS; ⟨o,hk o ho,r⟩
section
variable {prog:Program}{w:World}{A:Around}{E:Value->Shared->Prop}{s:Shared}{S:Addr}{es:Array (Int×Value)}{ep:Nat}{t:SetTable}
theorem mH {Q:(Array (Int×Value)×Nat×SetTable)->Shared->Prop}(hS:gO s.heap S es ep t) (hf:t.fits es.size=true) (h:Q (es,ep,t) s):wpAny (model prog w) A (setState S) Q E s:=
 let ⟨_,ho,_,hd⟩:=hS; wpAny_setState_of ho hd hf h
theorem below_at {xs:Array Nat}(hr:Ris xs) {i:Nat}(hi:i<=xs.size):SetTable.below xs (if i=0 then 0 else xs.getD (i - 1) 0 + 1)=i:=by
 have hs:=oV hr (if i=0 then 0 else xs.getD (i - 1) 0 + 1)
 generalize hb:SetTable.below xs (if i=0 then 0 else xs.getD (i - 1) 0 + 1)=b at hs
 by_cases h0:i=0
 ·subst h0
  simp only[↓reduceIte] at hs
  rcases Nat.eq_zero_or_pos b with h | h
  ·exact h
  ·have hl:0 < xs.size:=by omega
   have hg:xs[0]?=some xs[0]:=by simp [hl]
   have:=(hs.1 0 _ hg).mp h
   omega
 ·rw[if_neg h0] at hs
  have hl:i - 1 < xs.size:=by omega
  have hg:xs[i - 1]?=some xs[i - 1]:=by simp [hl]
  have hd:xs.getD (i - 1) 0=xs[i - 1]:=by simp [Array.getD,hl]
  rw[hd] at hs
  have h1:i - 1 < b:=(hs.1 _ _ hg).mpr ω
  rcases Nat.lt_or_ge i b with h | h
  ·have hl2:i < xs.size:=by omega
   have hg2:xs[i]?=some xs[i]:=by simp [hl2]
   have h2:=(hs.1 _ _ hg2).mp h
   have h3:=hr.lt hg hg2 ω
   omega
  ·omega
theorem Sx (hf:t.fits es.size=true) (ht:TOk (!bt w) t) (hd:bt w=true\/(!t.plain && decide (es.size > 1))=false) :
  ∃ (vs:List Value) (sl:Nat->Nat),sl 0=0/\vs.Perm (es.toList.map (·.2))/\∀ (i:Nat) (s:Shared) (A:Around) (E:Value->Shared->Prop) (Q:Option (Value×Nat)->Shared->Prop),i<=vs.length->gO s.heap S es ep t ->
   Q (vs[i]?.map fun x=>(x,sl (i + 1))) s->wpAny (model prog w) A (setNext S (sl i) i ep) Q E s:=by
 by_cases hb:bt w=true
 ·refine ⟨(pickOrder (w.params.setOrder S ep) es).toList.map (·.2),fun _=>0,rfl,(HD _ es).map _,fun i s A E Q hi hS h=>?_⟩
  unfold setNext
  refine wpAny_bind (mH hS hf ?_)
  dsimp only
  unfold setsByText
  refine wpAny_bind (wpAny_bind (wpAny_askSetting (wpAny_pure ?_)))
  show wpAny _ _ (if bt w=true then _ else _) _ _ _
  rw[if_pos hb,if_neg (by simp)]
  unfold setWalk
  refine wpAny_bind (wpAny_bind (mH hS hf ?_))
  dsimp only
  unfold setsByText
  refine wpAny_bind (wpAny_bind (wpAny_askSetting (wpAny_pure ?_)))
  show wpAny _ _ (if bt w=true then _ else _) _ _ _
  rw[if_pos hb]
  refine wpAny_bind (wpAny_askSetting (wpAny_pure (wpAny_pure ?_)))
  have e:((pickOrder (w.params.setOrder S ep) es)[i]?).map (fun e=>(e.2,0))=(((pickOrder (w.params.setOrder S ep) es).toList.map (·.2))[i]?).map fun x=>(x,0):=by
   rw[List.getElem?_map,Option.map_map,Array.getElem?_toList]
   rfl
  show Q (((pickOrder (w.params.setOrder S ep) es)[i]?).map (fun e=>(e.2,0))) s
  rw[e]
  exact h
 ·have hb':bt w=false:=by simpa using hb
  have hdr:=hd.resolve_left hb
  have hps:t.place.size=es.size:=by
   have:=hf
   unfold SetTable.fits at this
   simp only[Bool.and_eq_true,beq_iff_eq] at this
   exact this.1
  refine ⟨es.toList.map (·.2),fun i=>if i=0 then 0 else t.place.getD (i - 1) 0 + 1,rfl,List.Perm.refl _,fun i s A E Q hi hS h=>?_⟩
  unfold setNext
  refine wpAny_bind (mH hS hf ?_)
  dsimp only
  unfold setsByText
  refine wpAny_bind (wpAny_bind (wpAny_askSetting (wpAny_pure ?_)))
  show wpAny _ _ (if bt w=true then _ else _) _ _ _
  rw[if_neg hb]
  show wpAny _ _ (if (!t.plain && decide (es.size > 1))=true then _ else _) _ _ _
  rw[if_neg (by rw[hdr]; simp)]
  refine wpAny_bind ?_
  show wpAny _ _ (if (!t.led && !es.isEmpty)=true then _ else _) _ _ _
  have hled:t.led=true:=by rw[ht.2.2,hb']; rfl
  rw[if_neg (by rw[hled]; simp)]
  refine wpAny_pure (wpAny_pure ?_)
  have hi':i<=es.size:=by simpa using hi
  rw[below_at ht.1 (by rw[hps]; exact hi')]
  rcases Nat.lt_or_ge i es.size with hlt | hge
  ·have g1:es[i]?=some es[i]:=by simp [hlt]
   have g2:t.place[i]?=some t.place[i]:=by simp [hps,hlt]
   have g3:(es.toList.map (·.2))[i]?=some es[i].2:=by rw[List.getElem?_map,Array.getElem?_toList,g1]; rfl
   rw[g1,g2]
   rw[g3] at h
   have g4:t.place.getD i 0=t.place[i]'(by rw[hps]; exact hlt):=by simp [Array.getD,hps,hlt]
   simp only[Option.map_some,Nat.add_one_ne_zero,if_false,Nat.add_sub_cancel,g4] at h
   exact h
  ·have g1:es[i]?=none:=by simp [hge]
   have g3:(es.toList.map (·.2))[i]?=none:=by rw[List.getElem?_map,Array.getElem?_toList,g1]; rfl
   rw[g1]
   rw[g3] at h
   exact h
end
end SRT
namespace SRT
open PySem PyProof.Rows
theorem Bx:entryFor table "set.__iter__" = some Builtin.«frozenset.__iter__»:=entryFor_alias (id' := "frozenset.__iter__") (by kernel_rfl) rfl ψ (by kernel_rfl)
theorem cU:Slot "set_iterator" "__next__" "set_iterator.__next__" :=
 .of (owner := "set_iterator") (n := "__next__") (by rw[typeLookup_type,builtinLookup_eq_fast]; kernel_rfl) ψ ψ ψ (by first | exact .inl ψ | exact .inr ψ) (by rw[isSubtype_type]; kernel_rfl)
theorem uy:Slot "set_iterator" "__iter__" "set_iterator.__iter__" :=
 .of (owner := "set_iterator") (n := "__iter__") (by rw[typeLookup_type,builtinLookup_eq_fast]; kernel_rfl) ψ ψ ψ (by first | exact .inl ψ | exact .inr ψ) (by rw[isSubtype_type]; kernel_rfl)
theorem jG:entryFor table "set_iterator.__next__" = some Builtin.«set_iterator.__next__»:=entryFor_of_tree (by kernel_rfl)
theorem Bw:entryFor table "set_iterator.__iter__" = some Builtin.«dict_keyiterator.__iter__»:=entryFor_alias (id' := "dict_keyiterator.__iter__") (by kernel_rfl) rfl ψ (by kernel_rfl)
theorem lQ (a:Value):argsOk "set_iterator.__next__" ⟨[a],[]⟩:=by unfold argsOk; kernel_rfl
theorem EY (a:Value):argsOk "set_iterator.__iter__" ⟨[a],[]⟩:=by unfold argsOk; kernel_rfl
section
variable {prog:Program}{w:World}{A:Around}{E:Value->Shared->Prop}{s:Shared}{S I:Addr}{es:Array (Int×Value)}{ep:Nat}{t:SetTable}
theorem fJ.ty {h:Shared}{first:Value}{i n:Nat}(hI:fJ h.heap I first i S n ep):h.TypeIs (.ref I) "set_iterator" := ⟨_,hI,rfl⟩
theorem fJ.get {h h':Heap}{first:Value}{i n:Nat}(hI:fJ h I first i S n ep) (hk:∀ o,h.get? I=some o->h'.get? I=some o):fJ h' I first i S n ep:=hk _ hI
theorem jw {Q:Array (Int×Value)->Shared->Prop}(hS:gO s.heap S es ep t) (hf:t.fits es.size=true) (h:Q es s):wpAny (model prog w) A (setEntries S) Q E s:=
 let ⟨_,ho,_,hd⟩:=hS; wpAny_setEntries_of ho hd hf h
theorem Bv {Q:Nat->Shared->Prop}(hS:gO s.heap S es ep t) (hf:t.fits es.size=true) (h:Q ep s):wpAny (model prog w) A (setEpoch S) Q E s:=
 let ⟨_,ho,_,hd⟩:=hS; wpAny_setEpoch_of ho hd hf h
theorem Fl (hh:A.handled=none) {s:Shared}{P:Fin->Shared->Prop}{E':Value->Shared->Prop}(h:∀ (h':Heap) (e:Value),(∀ c o,s.heap.get? c=some o->h'.get? c=some o)->Shared.TypeIs { s with heap:=h' } e "StopIteration" -> E' e { s with heap:=h' }) :
  wpAny (model prog w) A (newExc (.type "StopIteration") [] >>= fun e=>(raiseNew e:Sem Fin)) P E' s:=by
 refine wpAny_bind ?_
 simp only[newExc,newTuple]
 refine wpAny_bind (wpAny_newObj_type (wpAny_bind (m:=firstArgMember _ _) (wpAny_of_eq (a:=Value.none) (by first | rfl | (simp only[firstArgMember]; rfl)) ?_)) (by size_fits))
 refine wpAny_newObj_type ?_ (by size_fits)
 simp only[raiseNew]
 refine wpAny_bind (wpAny_handled ?_)
 rw[hh]
 refine wpAny_bind (wpAny_pure (wpAny_throw (h _ (.ref _) (fun c o e=>Heap.get?_push_of_some _ (Heap.get?_push_of_some _ e)) ⟨_,Heap.get?_push_size _ rfl,rfl⟩)))
theorem next_item {n i:Nat}{first:Nat}{v:Value}{sl:Nat}{Q:Option Value->Shared->Prop}(hI:fJ s.heap I (.int first 0) i S es.size ep) (hS:gO s.heap S es ep t) (hf:t.fits es.size=true)
  (hn:∀ (s:Shared) (A:Around) (E:Value->Shared->Prop) (Q:Option (Value×Nat)->Shared->Prop),gO s.heap S es ep t->Q (some (v,sl)) s->wpAny (model prog w) A (setNext S first i ep) Q E s)
  (hne:S≠I) (hQ:∀ h',fJ h' I (.int sl 0) (i + 1) S es.size ep->Heap.SameBut I s.heap h'->Q (some v) { s with heap:=h' }):wpAny (model prog w) A (pyNext (.ref I)) Q E s:=by
 unfold pyNext
 refine wpAny_bind (wpAny_attempt (wpAny_callSpecial?_slot (name:=Str.ofString "__next__") hI.ty cU (wpAny_call_entry cU hI.ty jG ?_ (lQ _))))
 show wpAny _ _ (fieldsOf (.ref I) >>= _) _ _ s
 refine wpAny_bind (wpAny_fieldsOf hI rfl ?_)
 refine wpAny_bind (jw hS hf ?_)
 rw[if_neg (by simp)]
 dsimp only
 refine wpAny_bind (hn s _ _ _ hS ?_)
 dsimp only
 refine wpAny_bind (wpAny_setField_rec hI (by simp) fun h1 g1 b1=>?_)
 refine wpAny_bind (wpAny_setField_rec (s:={ s with heap:=h1 }) g1 (by simp) fun h2 g2 b2=>?_)
 exact wpAny_pure ⟨_,rfl,wpAny_pure (hQ h2 g2 (b1.trans b2))⟩
end
end SRT
namespace SRT
open PySem PyProof.Rows
section
variable {prog:Program}{w:World}{A:Around}{E:Value->Shared->Prop}{s:Shared}{S I T:Addr}{es:Array (Int×Value)}{ep:Nat}{t:SetTable}
theorem Ag {a:Addr}{h h' h'':Heap}(b:Heap.SameBut a h h') (k:∀ c o,h'.get? c=some o->h''.get? c=some o) (c:Addr) (o:Obj) (hc:c≠a) (e:h.get? c=some o):h''.get? c=some o:=k c o (b.extBut c o hc e)
theorem next_end {i first:Nat}{Q:Option Value->Shared->Prop}(hh:A.handled=none) (hI:fJ s.heap I (.int first 0) i S es.size ep) (hS:gO s.heap S es ep t) (hf:t.fits es.size=true)
  (hn:∀ (s:Shared) (A:Around) (E:Value->Shared->Prop) (Q:Option (Value×Nat)->Shared->Prop),gO s.heap S es ep t->Q none s->wpAny (model prog w) A (setNext S first i ep) Q E s)
  (hQ:∀ h',(∀ c o,c≠I->s.heap.get? c=some o->h'.get? c=some o)->Q none { s with heap:=h' }):wpAny (model prog w) A (pyNext (.ref I)) Q E s:=by
 unfold pyNext
 refine wpAny_bind (wpAny_attempt (wpAny_callSpecial?_slot (name:=Str.ofString "__next__") hI.ty cU (wpAny_call_entry cU hI.ty jG ?_ (lQ _))))
 show wpAny _ _ (fieldsOf (.ref I) >>= _) _ _ s
 refine wpAny_bind (wpAny_fieldsOf hI rfl (wpAny_bind (jw hS hf ?_)))
 rw[if_neg (by simp)]
 dsimp only
 refine wpAny_bind (hn s _ _ _ hS ?_)
 dsimp only
 refine wpAny_bind (wpAny_setField_rec hI (by simp) fun h1 g1 b1=>?_)
 refine Fl (s:={ s with heap:=h1 }) (by simpa using hh) fun h2 e k2 ty=>wpAny_bind (wpAny_isInstance ty isSubtype_stop (wpAny_pure (hQ h2 fun c o hc x=>Ag b1 k2 c o hc x)))
def TupAt (h:Heap) (T:Addr) (ds:List Nat):Prop:=h.get? T=some { cls:=.type "tuple",data:=.seq (ds.map fun (i:Nat)=>rawInt i).toArray }
theorem Em {i d:Nat}{ds:List Nat}{v:Value}{Q:Option Value->Shared->Prop}(hI:fJ s.heap I (.ref T) i S es.size ep) (hS:gO s.heap S es ep t) (hT:TupAt s.heap T ds) (hf:t.fits es.size=true)
  (hd:ds[i]?=some d) (hv:(es[d]?).map (·.2)=some v) (hne:S≠I)
  (hQ:∀ h',fJ h' I (.ref T) (i + 1) S es.size ep->Heap.SameBut I s.heap h'->Q (some v) { s with heap:=h' }):wpAny (model prog w) A (pyNext (.ref I)) Q E s:=by
 unfold pyNext
 refine wpAny_bind (wpAny_attempt (wpAny_callSpecial?_slot (name:=Str.ofString "__next__") hI.ty cU (wpAny_call_entry cU hI.ty jG ?_ (lQ _))))
 show wpAny _ _ (fieldsOf (.ref I) >>= _) _ _ s
 refine wpAny_bind (wpAny_fieldsOf hI rfl (wpAny_bind (jw hS hf ?_)))
 rw[if_neg (by simp)]
 dsimp only
 refine wpAny_bind (wpAny_seqItems hT rfl ?_)
 dsimp only
 have hg:(ds.map fun (i:Nat)=>rawInt i).toArray[(i:Int).toNat]?=some (.int (d:Int) 0):=by
  rw[Int.toNat_natCast,List.getElem?_toArray,List.getElem?_map,hd]
  rfl
 rw[hg]
 dsimp only
 unfold setNextDrawn
 refine wpAny_bind (wpAny_bind (mH hS hf ?_))
 dsimp only
 rw[if_neg (by simp)]
 obtain ⟨⟨hh,x⟩,he,rfl⟩:=Option.map_eq_some_iff.mp hv
 rw[Int.toNat_natCast,he]
 dsimp only
 refine wpAny_pure ?_
 refine wpAny_bind (wpAny_setField_rec hI (by simp) fun h1 g1 b1=>?_)
 exact wpAny_pure ⟨_,rfl,wpAny_pure (hQ h1 g1 b1)⟩
theorem Jj {i:Nat}{ds:List Nat}{Q:Option Value->Shared->Prop}(hh:A.handled=none) (hI:fJ s.heap I (.ref T) i S es.size ep) (hS:gO s.heap S es ep t) (hT:TupAt s.heap T ds) (hf:t.fits es.size=true)
  (hd:ds[i]?=none) (hQ:∀ h',(∀ c o,c≠I->s.heap.get? c=some o->h'.get? c=some o)->Q none { s with heap:=h' }):wpAny (model prog w) A (pyNext (.ref I)) Q E s:=by
 unfold pyNext
 refine wpAny_bind (wpAny_attempt (wpAny_callSpecial?_slot (name:=Str.ofString "__next__") hI.ty cU (wpAny_call_entry cU hI.ty jG ?_ (lQ _))))
 show wpAny _ _ (fieldsOf (.ref I) >>= _) _ _ s
 refine wpAny_bind (wpAny_fieldsOf hI rfl (wpAny_bind (jw hS hf ?_)))
 rw[if_neg (by simp)]
 dsimp only
 refine wpAny_bind (wpAny_seqItems hT rfl ?_)
 dsimp only
 have hg:(ds.map fun (i:Nat)=>rawInt i).toArray[(i:Int).toNat]?=none:=by
  rw[Int.toNat_natCast,List.getElem?_toArray,List.getElem?_map,hd]
  rfl
 rw[hg]
 dsimp only
 refine wpAny_bind (wpAny_setField_rec hI (by simp) fun h1 g1 b1=>?_)
 refine wpAny_bind (wpAny_setField_rec (s:={ s with heap:=h1 }) g1 (by simp) fun h2 g2 b2=>?_)
 refine Fl (s:={ s with heap:=h2 }) (by simpa using hh) fun h3 e k3 ty=>wpAny_bind (wpAny_isInstance ty isSubtype_stop (wpAny_pure (hQ h3 fun c o hc x=>Ag (b1.trans b2) k3 c o hc x)))
theorem Fx {first:Value}{i n:Nat}{Q:Value->Shared->Prop}(hI:fJ s.heap I first i S n ep) (h:Q (.ref I) s):wpAny (model prog w) A (pyIter (.ref I)) Q E s:=by
 refine wpAny_pyIter_slot hI.ty uy (wpAny_call_entry uy hI.ty Bw ?_ (EY _))
 show wpAny _ _ (ret (.ref I)) _ _ s
 exact wpAny_pure ⟨_,rfl, "set_iterator",_,hI.ty,cU.lookup,h⟩
theorem Kz {Q:Value->Shared->Prop}(hh:A.handled=none) (hS:gO s.heap S es ep t) (hf:t.fits es.size=true) (ht:TOk (!bt w) t) (hz:es.size<=sizeLine)
  (h:∀ (s':Shared) (I:Addr) (fp:List Addr) (vs:List Value) (St:Nat->Shared->Prop),(∀ c o,s.heap.get? c=some o->s'.heap.get? c=some o)->s'.gens=s.gens->s'.os=s.os->s'.toks=s.toks->vs.Perm (es.toList.map (·.2))->I=s'.heap.objs.size - 1->s.heap.objs.size<=I->I < s'.heap.objs.size ->
   (∀ A':Around,A'.handled=none->WalksS prog w A' I fp [I] (fun a b=>b=a) vs.length (fun i v=>vs[i]?=some v) St)->St 0 s'->(∀ b∈fp,b < s'.heap.objs.size/\(b=S\/s.heap.objs.size<=b))->Q (.ref I) s') :
  wpAny (model prog w) A (pyIter (.ref S)) Q E s:=by
 obtain ⟨o,ho,hx,hd⟩:=id hS
 have hty:s.TypeIs (.ref S) "set" := ⟨o,ho,hx.1⟩
 have lt:S < s.heap.objs.size:=Heap.lt_size ho
 refine wpAny_pyIter_slot hty F.slot_set_iter (wpAny_call_entry F.slot_set_iter hty Bx ?_ (F.args_set_iter_1 _))
 unfold Builtin.«frozenset.__iter__»
 show wpAny _ _ (Builtin.Frozenset.sizeOf S >>= _) _ _ s
 unfold Builtin.Frozenset.sizeOf
 refine wpAny_bind (wpAny_bind (jw hS hf (wpAny_pure ?_)))
 unfold setDrawn setsByText
 refine wpAny_bind (wpAny_bind (mH hS hf ?_))
 dsimp only
 refine wpAny_bind (wpAny_bind (wpAny_askSetting (wpAny_pure (wpAny_pure ?_))))
 show wpAny _ _ (if (!bt w && (!t.plain && decide (es.size > 1)))=true then _ else _) _ _ _
 have arith:∀ {n m:Nat},m=n + 1->n=m - 1:=by intros; omega
 by_cases hc:(!bt w && (!t.plain && decide (es.size > 1)))=true
 ·rw[if_pos hc]
  refine wpAny_bind (Ug es.size (List.range es.size) _ (List.length_range) fun ds d hp=>?_)
  have hdl:ds.length=es.size:=by rw[hp.length_eq,List.length_range]
  refine wpAny_bind (wpAny_newTuple ?_ (by rw[List.length_map,hdl]; exact hz))
  have hS1:gO (s.heap.push { cls:=.type "tuple",data:=.seq (ds.map fun (i:Nat)=>rawInt i).toArray }) S es ep t:=hS.get fun o e=>Heap.get?_push_of_some _ e
  have hT1:TupAt (s.heap.push { cls:=.type "tuple",data:=.seq (ds.map fun (i:Nat)=>rawInt i).toArray }) s.heap.objs.size ds:=Heap.get?_push_size _ rfl
  have hz1:(s.heap.push { cls:=.type "tuple",data:=.seq (ds.map fun (i:Nat)=>rawInt i).toArray }).objs.size=s.heap.objs.size + 1:=Heap.size_push ..
  have hk1:∀ c o,s.heap.get? c=some o->(s.heap.push { cls:=.type "tuple",data:=.seq (ds.map fun (i:Nat)=>rawInt i).toArray }).get? c=some o:=fun c o e=>Heap.get?_push_of_some _ e
  generalize s.heap.push { cls:=.type "tuple",data:=.seq (ds.map fun (i:Nat)=>rawInt i).toArray }=h1 at hS1 hT1 hz1 hk1 |-
  refine wpAny_bind (Bv (s:={ s with drawn:=d,heap:=h1 }) hS1 hf (wpAny_bind (wpAny_newObj_type ?_)))
  have hI:fJ (h1.push { cls:=.type "set_iterator",data:=.fields #[.ref s.heap.objs.size,.int (0:Nat) 0,.ref S,.int (es.size:Nat) 0,.int (ep:Nat) 0] }) h1.objs.size (.ref s.heap.objs.size) 0 S es.size ep:=Heap.get?_push_size _ rfl
  refine wpAny_pure ⟨_,rfl, "set_iterator",_,⟨_,hI,rfl⟩,cU.lookup,?_⟩
  have hz2:(h1.push { cls:=.type "set_iterator",data:=.fields #[.ref s.heap.objs.size,.int (0:Nat) 0,.ref S,.int (es.size:Nat) 0,.int (ep:Nat) 0] }).objs.size=h1.objs.size + 1:=Heap.size_push ..
  have hk2:∀ c o,h1.get? c=some o->(h1.push { cls:=.type "set_iterator",data:=.fields #[.ref s.heap.objs.size,.int (0:Nat) 0,.ref S,.int (es.size:Nat) 0,.int (ep:Nat) 0] }).get? c=some o:=fun c o e=>Heap.get?_push_of_some _ e
  show Q (.ref h1.objs.size) { s with drawn:=d,heap:=h1.push { cls:=.type "set_iterator",data:=.fields #[.ref s.heap.objs.size,.int (0:Nat) 0,.ref S,.int (es.size:Nat) 0,.int (ep:Nat) 0] } }
  generalize h1.push { cls:=.type "set_iterator",data:=.fields #[.ref s.heap.objs.size,.int (0:Nat) 0,.ref S,.int (es.size:Nat) 0,.int (ep:Nat) 0] }=h2 at hI hz2 hk2 |-
  have n1:S≠h1.objs.size:=by rw[hz1]; exact Nat.ne_of_lt (Nat.lt_succ_of_lt lt)
  have n2:s.heap.objs.size≠h1.objs.size:=by rw[hz1]; exact Nat.ne_of_lt (Nat.lt_succ_self _)
  have hmem:∀ i d:Nat,ds[i]?=some d->∃ x:Value,(es[d]?).map (fun (e:Int×Value)=>e.2)=some x/\(ds.map fun d=>(es.toList.map (·.2)).getD d .none)[i]?=some x:=by
   intro i d hi
   have:d < es.size:=by have:=hp.mem_iff.mp (List.mem_of_getElem? hi); simpa using this
   refine ⟨es[d].2,by simp [this],?_⟩
   rw[List.getElem?_map,hi]
   simp [this]
  refine h { s with drawn:=d,heap:=h2 } h1.objs.size [h1.objs.size,S,s.heap.objs.size] (ds.map fun d=>(es.toList.map (·.2)).getD d .none)
   (fun i s'=>fJ s'.heap h1.objs.size (.ref s.heap.objs.size) i S es.size ep/\gO s'.heap S es ep t/\TupAt s'.heap s.heap.objs.size ds)
   (fun c o e=>hk2 c o (hk1 c o e)) rfl rfl rfl ?_ (arith hz2) (by rw[hz1]; exact Nat.le_succ _) (by show h1.objs.size < h2.objs.size; rw[hz2]; exact Nat.lt_succ_self _) (fun A' hh'=>?_) ⟨hI,hS1.get (hk2 S),hk2 _ _ hT1⟩ ?_
  ·have e:(List.range es.size).map (fun d=>(es.toList.map (·.2)).getD d .none)=es.toList.map (·.2):=by
    refine List.ext_getElem (by simp) fun i h1 h2=>?_
    simp at h1 h2
    simp [h2]
   exact (hp.map fun d=>(es.toList.map fun (x:Int×Value)=>x.2).getD d Value.none).trans (List.Perm.of_eq e)
  ·have hlen:(ds.map fun d=>(es.toList.map (·.2)).getD d .none).length=ds.length:=List.length_map _
   exact {
    sub:=fun b hb=>by simp at hb; simp [hb]
    grefl:=fun _=>rfl
    gtrans:=fun a b c e f=>f.trans e
    frame:=fun i s1 h' tk st _ hk=>⟨st.1.get fun o e=>hk _ (by simp) o e,st.2.1.get fun o e=>hk _ (by simp) o e,hk _ (by simp) _ st.2.2⟩
    item:=fun i s1 Q1 E1 hi st hQ1=>by
     rw[hlen] at hi
     obtain ⟨x,e1,e2⟩:=hmem i ds[i] (List.getElem?_eq_getElem hi)
     refine Em st.1 st.2.1 st.2.2 hf (List.getElem?_eq_getElem hi) e1 n1 fun h' i' b'=>?_
     exact hQ1 x { s1 with heap:=h' } e2 ⟨i',st.2.1.get fun o e=>b'.extBut _ o n1 e,b'.extBut _ _ n2 st.2.2⟩ ⟨fun b o hb e=>b'.extBut b o (fun z=>hb (by simp [z])) e,rfl,rfl,rfl,Nat.le_refl _⟩
    done:=fun s1 Q1 E1 st hQ1=>by
     refine Jj hh' st.1 st.2.1 st.2.2 hf (by rw[hlen]; simp) fun h' k'=>?_
     exact hQ1 { s1 with heap:=h' } ⟨fun b o hb e=>k' b o (fun z=>hb (by simp [z])) e,rfl,rfl,rfl,Nat.le_refl _⟩
    self:=fun i s1 Q1 E1 st hQ1=>Fx st.1 hQ1 }
  ·intro b hb
   show b < h2.objs.size/\_
   have l0:=Nat.lt_succ_of_lt lt
   simp only[List.mem_cons,List.not_mem_nil,or_false] at hb
   rw[hz2,hz1]
   rcases hb with rfl | rfl | rfl
   ·rw[hz1]; exact ⟨Nat.lt_succ_self _,.inr (Nat.le_succ _)⟩
   ·exact ⟨Nat.lt_succ_of_lt l0,.inl rfl⟩
   ·exact ⟨Nat.lt_succ_of_lt (Nat.lt_succ_self _),.inr (Nat.le_refl _)⟩
 ·rw[if_neg hc]
  obtain ⟨vs,sl,sl0,hp,hn⟩:=Sx (prog:=prog) (w:=w) (S:=S) (ep:=ep) hf ht (by
   cases hb:bt w with
   | true=>exact .inl rfl
   | false=>rw[hb] at hc; exact .inr (by simpa using hc))
  refine wpAny_bind (wpAny_pure (wpAny_bind (Bv hS hf (wpAny_bind (wpAny_newObj_type ?_)))))
  have hI:fJ (s.heap.push { cls:=.type "set_iterator",data:=.fields #[.int (0:Nat) 0,.int (0:Nat) 0,.ref S,.int (es.size:Nat) 0,.int (ep:Nat) 0] }) s.heap.objs.size (.int (sl 0) 0) 0 S es.size ep:=by rw[sl0]; exact Heap.get?_push_size _ rfl
  refine wpAny_pure ⟨_,rfl, "set_iterator",_,⟨_,hI,rfl⟩,cU.lookup,?_⟩
  have hz2:(s.heap.push { cls:=.type "set_iterator",data:=.fields #[.int (0:Nat) 0,.int (0:Nat) 0,.ref S,.int (es.size:Nat) 0,.int (ep:Nat) 0] }).objs.size=s.heap.objs.size + 1:=Heap.size_push ..
  have hk2:∀ c o,s.heap.get? c=some o->(s.heap.push { cls:=.type "set_iterator",data:=.fields #[.int (0:Nat) 0,.int (0:Nat) 0,.ref S,.int (es.size:Nat) 0,.int (ep:Nat) 0] }).get? c=some o:=fun c o e=>Heap.get?_push_of_some _ e
  show Q (.ref s.heap.objs.size) { s with heap:=s.heap.push { cls:=.type "set_iterator",data:=.fields #[.int (0:Nat) 0,.int (0:Nat) 0,.ref S,.int (es.size:Nat) 0,.int (ep:Nat) 0] } }
  generalize s.heap.push { cls:=.type "set_iterator",data:=.fields #[.int (0:Nat) 0,.int (0:Nat) 0,.ref S,.int (es.size:Nat) 0,.int (ep:Nat) 0] }=h2 at hI hz2 hk2 |-
  have n1:S≠s.heap.objs.size:=Nat.ne_of_lt lt
  refine h { s with heap:=h2 } s.heap.objs.size [s.heap.objs.size,S] vs (fun i s'=>fJ s'.heap s.heap.objs.size (.int (sl i) 0) i S es.size ep/\gO s'.heap S es ep t)
   (fun c o e=>hk2 c o e) rfl rfl rfl hp (arith hz2) (Nat.le_refl _) (by show s.heap.objs.size < h2.objs.size; rw[hz2]; exact Nat.lt_succ_self _) (fun A' hh'=>?_) ⟨hI,hS.get (hk2 S)⟩ ?_
  ·exact {
    sub:=fun b hb=>by simp at hb; simp [hb]
    grefl:=fun _=>rfl
    gtrans:=fun a b c e f=>f.trans e
    frame:=fun i s1 h' tk st _ hk=>⟨st.1.get fun o e=>hk _ (by simp) o e,st.2.get fun o e=>hk _ (by simp) o e⟩
    item:=fun i s1 Q1 E1 hi st hQ1=>by
     have hv:vs[i]?=some vs[i]:=List.getElem?_eq_getElem hi
     refine next_item (n:=0) st.1 st.2 hf (v:=vs[i]) (sl:=sl (i + 1)) (fun s2 A2 E2 Q2 st2 hQ2=>hn i s2 A2 E2 Q2 (Nat.le_of_lt hi) st2 (by rw[hv]; exact hQ2)) n1 fun h' i' b'=>?_
     exact hQ1 vs[i] { s1 with heap:=h' } hv ⟨i',st.2.get fun o e=>b'.extBut _ o n1 e⟩ ⟨fun b o hb e=>b'.extBut b o (fun z=>hb (by simp [z])) e,rfl,rfl,rfl,Nat.le_refl _⟩
    done:=fun s1 Q1 E1 st hQ1=>by
     have hv:vs[vs.length]?=none:=by simp
     refine next_end hh' st.1 st.2 hf (fun s2 A2 E2 Q2 st2 hQ2=>hn vs.length s2 A2 E2 Q2 (Nat.le_refl _) st2 (by rw[hv]; exact hQ2)) fun h' k'=>?_
     exact hQ1 { s1 with heap:=h' } ⟨fun b o hb e=>k' b o (fun z=>hb (by simp [z])) e,rfl,rfl,rfl,Nat.le_refl _⟩
    self:=fun i s1 Q1 E1 st hQ1=>Fx st.1 hQ1 }
  ·intro b hb
   show b < h2.objs.size/\_
   rw[hz2]
   simp only[List.mem_cons,List.not_mem_nil,or_false] at hb
   rcases hb with rfl | rfl
   ·exact ⟨Nat.lt_succ_self _,.inr (Nat.le_refl _)⟩
   ·exact ⟨Nat.lt_succ_of_lt lt,.inl rfl⟩
end
end SRT
namespace SRT
open PySem PyProof.Rows
def T6:Bool->Keyed->Array Keyed->Nat->Nat->Nat->StateT SortSt Sem (Option Nat):=sortPriv% PySem.Builtin.gallop
def MN:Array Keyed->Array Keyed->StateT SortSt Sem (Array Keyed):=sortPriv% PySem.Builtin.mergeLo
def MT:Array Keyed->Array Keyed->StateT SortSt Sem (Array Keyed):=sortPriv% PySem.Builtin.mergeHi
def IK (p:Keyed):Prop:=∃ n t,p.1=.int n t
def AllIK (xs:Array Keyed):Prop:=∀ (i:Nat) p,xs[i]?=some p->IK p
section
variable {prog:Program}{w:World}{s:Shared}{A:Around}{E:Value->Shared->Prop}
theorem bC {st:SortSt}{xs:Array Keyed}{i:Nat}{Q:Keyed->SortSt->Prop}(hi:i < xs.size) (h:∀ p,xs[i]?=some p->Q p st):wpS (model prog w) A E s (elem' xs i) Q st:=by
 rw[elem'_eq]
 have e:xs[i]?=some xs[i]:=getElem?_pos xs i hi
 rw[e]
 exact wpS_pure (h _ e)
end
end SRT
namespace SRT
open PySem PyProof.Rows
abbrev jy (st:SortSt) (g:Nat):SortSt:=SortSt.mk' (kindOf st) (arrOf st) (pendingOf st) g (failedOf st)
section
variable {prog:Program}{w:World}{s:Shared}{A:Around}{E:Value->Shared->Prop}
def dI (a b out:Array Keyed) (i j:Nat):List Keyed:=out.toList ++ (a.toList.drop i ++ b.toList.drop j)
theorem S8 {a b out:Array Keyed}{i j:Nat}:(out ++ a.extract i a.size ++ b.extract j b.size).toList=dI a b out i j:=by
 unfold dI
 simp [List.take_of_length_le]
theorem S7 {a b out:Array Keyed}{i j:Nat}:(out ++ b.extract j b.size ++ a.extract i a.size).toList.Perm (dI a b out i j):=by
 unfold dI
 simp [List.take_of_length_le]
 exact List.Perm.append_left _ List.perm_append_comm
theorem Nb {a b out:Array Keyed}{i j:Nat}{p:Keyed}(h:a[i]?=some p):(dI a b (out.push p) (i + 1) j).Perm (dI a b out i j):=by
 unfold dI
 have hi:i < a.toList.length:=by
  have:=(Array.getElem?_eq_some_iff.mp h).1
  simpa using this
 have e:a.toList.drop i=p :: a.toList.drop (i + 1):=by
  rw[List.drop_eq_getElem_cons hi]
  have:=(Array.getElem?_eq_some_iff.mp h).2
  simp [this]
 rw[e]
 simp
theorem M9 {a b out:Array Keyed}{i j:Nat}{p:Keyed}(h:b[j]?=some p):(dI a b (out.push p) i (j + 1)).Perm (dI a b out i j):=by
 unfold dI
 have hi:j < b.toList.length:=by
  have:=(Array.getElem?_eq_some_iff.mp h).1
  simpa using this
 have e:b.toList.drop j=p :: b.toList.drop (j + 1):=by
  rw[List.drop_eq_getElem_cons hi]
  have:=(Array.getElem?_eq_some_iff.mp h).2
  simp [this]
 rw[e]
 simp
 exact List.Perm.append_left _ List.perm_middle.symm
theorem S6 {a b out:Array Keyed}{i j k:Nat}:(dI a b (out ++ a.extract i (i + k)) (i + k) j).Perm (dI a b out i j):=by
 unfold dI
 have e:a.toList.drop i=(a.extract i (i + k)).toList ++ a.toList.drop (i + k):=by
  rw[Array.toList_extract]
  rw[show i + k=i + k from rfl]
  simp [List.extract,<- List.drop_drop]
 rw[e]
 simp
theorem S5 {a b out:Array Keyed}{i j k:Nat}:(dI a b (out ++ b.extract j (j + k)) i (j + k)).Perm (dI a b out i j):=by
 unfold dI
 have e:b.toList.drop j=(b.extract j (j + k)).toList ++ b.toList.drop (j + k):=by
  rw[Array.toList_extract]
  simp [List.extract,<- List.drop_drop]
 rw[e]
 simp only[Array.toList_append,List.append_assoc]
 refine (List.Perm.append_left _ ?_)
 rw[<- List.append_assoc]; rw[<- List.append_assoc]
 exact (List.Perm.append_right _ List.perm_append_comm)
end
end SRT
namespace SRT
open PySem PyProof.Rows
section
variable {prog:Program}{w:World}{s:Shared}{A:Around}{E:Value->Shared->Prop}
def gU (a b out:Array Keyed) (i j:Nat):List Keyed:=(a.toList.take i ++ b.toList.take j) ++ out.toList
theorem T3 {a b out:Array Keyed}{i j:Nat}:(a.extract 0 i ++ b.extract 0 j ++ out.reverse).toList.Perm (gU a b out i j):=by
 unfold gU
 simp
 exact List.Perm.append_left _ (List.Perm.append_left _ (List.reverse_perm _))
theorem NQ {a b out:Array Keyed}{i j:Nat}:(b.extract 0 j ++ a.extract 0 i ++ out.reverse).toList.Perm (gU a b out i j):=by
 unfold gU
 simp
 rw[<- List.append_assoc]; rw[<- List.append_assoc]
 exact List.Perm.append List.perm_append_comm (List.reverse_perm _)
theorem zR {xs:List Keyed}{x i:Nat}(h:x<=i):xs.take i=xs.take x ++ (xs.drop x).take (i - x):=by
 conv=>lhs; rw[show i=x + (i - x) by omega,List.take_add]
theorem TY {a b out:Array Keyed}{i j x:Nat}(h:x<=i):(gU a b (out ++ (a.extract x i).reverse) x j).Perm (gU a b out i j):=by
 unfold gU
 rw[zR (xs:=a.toList) h]
 simp [List.extract]
 refine (List.Perm.append_left _ ?_)
 rw[<- List.append_assoc]
 refine (List.perm_append_comm (l₁:=List.take j b.toList ++ out.toList)).trans ?_
 exact List.Perm.append_right _ (List.reverse_perm _)
theorem TX {a b out:Array Keyed}{i j x:Nat}(h:x<=j):(gU a b (out ++ (b.extract x j).reverse) i x).Perm (gU a b out i j):=by
 unfold gU
 rw[zR (xs:=b.toList) h]
 simp [List.extract]
 refine List.Perm.append_left _ (List.Perm.append_left _ ?_)
 exact List.perm_append_comm.trans (List.Perm.append_right _ (List.reverse_perm _))
theorem Gp {a:Array Keyed}{i:Nat}{p:Keyed}(h:a[i]?=some p):(a.extract i (i + 1)).reverse=#[p]:=by
 have:=(Array.getElem?_eq_some_iff.mp h)
 obtain ⟨h1,h2⟩:=this
 apply Array.ext'
 simp [List.extract]
 rw[List.drop_eq_getElem_cons (by simpa using h1)]
 simp [h2]
end
end SRT
namespace SRT
open PySem PyProof.Rows
def Chain:List (Nat×Nat×Nat)->Nat->Nat->Prop
 | [],a,b=>a=b
 | (p,n,_) :: t,a,b=>p=a/\1<=n/\Chain t (a + n) b
theorem Chain.le:∀ {l:List (Nat×Nat×Nat)}{a b:Nat},Chain l a b->a<=b
 | [],_,_,h=>Nat.le_of_eq h
 | (_,n,_) :: _,a,_,⟨_,_,h⟩=>Nat.le_trans (Nat.le_add_right a n) h.le
theorem Chain.two:∀ {pre post:List (Nat×Nat×Nat)}{sa na w sb nb v a b:Nat},Chain (pre ++ (sa,na,w) :: (sb,nb,v) :: post) a b ->
  sb=sa + na/\1<=na/\1<=nb/\sb + nb<=b/\Chain (pre ++ (sa,na + nb,w) :: post) a b
 | [],post,sa,na,w,sb,nb,v,a,b,⟨h1,h2,h3,h4,h5⟩=>by
  have:=h5.le
  refine ⟨ω,h2,h4,ω,h1,ω,?_⟩
  rw[<- Nat.add_assoc]
  exact h5
 | (_,_,_) :: pre,post,sa,na,w,sb,nb,v,a,b,⟨h1,h2,h3⟩=>by
  obtain ⟨k1,k2,k3,k4,k5⟩:=Chain.two h3
  exact ⟨k1,k2,k3,k4,h1,h2,k5⟩
theorem Chain.snoc:∀ {l:List (Nat×Nat×Nat)}{a b n w:Nat},Chain l a b->1<=n->Chain (l ++ [(b,n,w)]) a (b + n)
 | [],a,b,n,w,h,h1=>by cases h; exact ⟨rfl,h1,rfl⟩
 | (_,_,_) :: t,a,b,n,w,⟨k1,k2,k3⟩,h1=>⟨k1,k2,k3.snoc h1⟩
theorem Chain.Ah:∀ {l:List (Nat×Nat×Nat)}{a b p n w v:Nat},Chain (l ++ [(p,n,w)]) a b->Chain (l ++ [(p,n,v)]) a b
 | [],a,b,p,n,w,v,h=>h
 | (_,_,_) :: t,a,b,p,n,w,v,⟨k1,k2,k3⟩=>⟨k1,k2,k3.Ah⟩
theorem yE:∀ (m:List Keyed) (k:Nat) (l1 l2 l3:List Keyed) (sa:Nat),l1.length=sa + k->l2.length=m.length->∀ a:Array Keyed,a.toList=l1 ++ (l2 ++ l3) ->
  ((m.zipIdx k).foldl (fun a (x:Keyed×Nat)=>a.setIfInBounds (sa + x.2) x.1) a).toList=l1 ++ (m ++ l3)
 | [],k,l1,l2,l3,sa,h1,h2,a,ha=>by
  have:l2=[]:=List.eq_nil_of_length_eq_zero h2
  subst this
  exact ha
 | x :: m,k,l1,[],l3,sa,h1,h2,a,ha=>by cases h2
 | x :: m,k,l1,y :: l2,l3,sa,h1,h2,a,ha=>by
  rw[List.zipIdx_cons,List.foldl_cons]
  have h2':l2.length=m.length:=by simpa using h2
  have:=yE m (k + 1) (l1 ++ [x]) l2 l3 sa (by simp; omega) h2' (a.setIfInBounds (sa + k) x) (by
   rw[Array.toList_setIfInBounds,ha,List.set_append_right _ _ ω,h1,Nat.sub_self]
   simp)
  rw[this]
  simp
theorem Lq {a m:Array Keyed}{sa sb e:Nat}(h1:sa<=sb) (h2:sb<=e) (h3:e<=a.size) (hm:m.toList.Perm ((a.extract sa sb).toList ++ (a.extract sb e).toList)) :
  (m.toList.zipIdx.foldl (fun a (x:Keyed×Nat)=>a.setIfInBounds (sa + x.2) x.1) a).toList.Perm a.toList:=by
 have ea:a.toList=a.toList.take sa ++ (((a.extract sa sb).toList ++ (a.extract sb e).toList) ++ a.toList.drop e):=by
  apply List.ext_getElem?
  intro i
  simp only[Array.toList_extract,List.extract_eq_take_drop,List.getElem?_append,List.getElem?_take,List.getElem?_drop,List.length_take,List.length_append,List.length_drop,Array.length_toList]
  split
  ·rw[if_pos ω]
  ·split
   ·split
    ·rw[if_pos ω]; congr 1; omega
    ·rw[if_pos ω]; congr 1; omega
   ·congr 1; omega
 have:=yE m.toList 0 (a.toList.take sa) _ (a.toList.drop e) sa (by simp; omega) hm.length_eq.symm a ea
 rw[this]
 conv=>rhs; rw[ea]
 exact List.Perm.append_left _ (List.Perm.append_right _ hm)
section
variable {prog:Program}{w:World}{s:Shared}{A:Around}{E:Value->Shared->Prop}{a₀:Array Keyed}
structure MB (a₀:Array Keyed) (st:SortSt):Prop where
 kind:kindOf st=oneType'
 perm:(arrOf st).toList.Perm a₀.toList
 fail:failedOf st=none
theorem MB.size {st:SortSt}(h:MB a₀ st):(arrOf st).size=a₀.size:=by simpa using h.perm.length_eq
theorem Qd {σ:Type}{x st:σ}{Q:PUnit->σ->Prop}(h:Q ⟨⟩ x):wpS (model prog w) A E s (set x:StateT σ Sem PUnit) Q st:=by
 unfold wpS; rw[StateT.run_set]; exact wpAny_pure ⟨rfl,h⟩
theorem wC {σ:Type}{st:σ}{b:Bool}{Q:Bool->σ->Prop}(hb:b=true) (h:Q true st):wpS (model prog w) A E s (pure b:StateT σ Sem Bool) Q st:=by
 subst hb; exact wpS_pure h
end
end SRT
namespace SRT
open PySem PyProof.Rows
section
variable {prog:Program}{w:World}{s:Shared}{A:Around}{E:Value->Shared->Prop}{a₀:Array Keyed}{pd:Array (Nat×Nat×Nat)}
end
end SRT
namespace SRT
open PySem PyProof.Rows
section
variable {prog:Program}{w:World}{s:Shared}{A:Around}{E:Value->Shared->Prop}{a₀:Array Keyed}{pd:Array (Nat×Nat×Nat)}
def MC (a₀:Array Keyed) (hi:Nat) (st:SortSt):Prop:=MB a₀ st/\Chain (pendingOf st).toList 0 hi
theorem XC:∀ (l:List (Nat×Nat×Nat)) (i:Nat),i + 1 < l.length->∃ pre x y post,l=pre ++ x :: y :: post/\pre.length=i
 | [],i,h=>by simp at h
 | [x],i,h=>by simp at h
 | x :: y :: t,0,h=>⟨[],x,y,t,rfl,rfl⟩
 | x :: y :: t,i + 1,h=>by
  obtain ⟨pre,u,v,post,e,hl⟩:=XC (y :: t) i (by simpa using h)
  exact ⟨x :: pre,u,v,post,by rw[e]; rfl,by simp [hl]⟩
theorem Qu:∀ (l:List (Nat×Nat×Nat)),l≠[]->∃ t p n v,l=t ++ [(p,n,v)]
 | l,h=>⟨l.dropLast,(l.getLast h).1,(l.getLast h).2.1,(l.getLast h).2.2,(List.dropLast_concat_getLast h).symm⟩
theorem sO {α:Type}(f:α->α) (x:α):∀ t:List α,(t ++ [x]).modify t.length f=t ++ [f x]
 | []=>rfl
 | y :: t=>congrArg (y :: ·) (sO f x t)
theorem MC.push {st:SortSt}{lo n:Nat}(h:MC a₀ lo st) (h1:1<=n):MC a₀ (lo + n) (setPending st ((pendingOf st).push (lo,n,0))):=by
 refine ⟨⟨h.1.kind,h.1.perm,h.1.fail⟩,?_⟩
 show Chain ((pendingOf st).push (lo,n,0)).toList 0 (lo + n)
 rw[Array.toList_push]
 exact h.2.snoc h1
theorem Xk {c:Prop} [Decidable c] {n:Nat}(h:¬ n<=1):(if c then n - 2 - 1 else n - 2) + 1 < n:=by split <;> omega
theorem GK (a:Array (Nat×Nat×Nat)) (i:Nat) (h:i < a.size):∃ x y z,a[i]?=some (x,y,z):=⟨a[i].1,a[i].2.1,a[i].2.2,by rw[getElem?_pos a i h]⟩
theorem xY {σ α:Type}{c:Prop} [Decidable c] {m n:StateT σ Sem α}{st:σ}{Q:α->σ->Prop}(h1:c->wpS (model prog w) A E s m Q st) (h2:¬ c->wpS (model prog w) A E s n Q st):wpS (model prog w) A E s (if c then m else n) Q st:=by
 by_cases h:c
 ·rw[if_pos h]; exact h1 h
 ·rw[if_neg h]; exact h2 h
end
end SRT
namespace SRT
open PySem PyProof.Rows
section
variable {prog:Program}{w:World}{s:Shared}{A:Around}{E:Value->Shared->Prop}
theorem nR (vs:List Value):((pairsOf vs).map (·.2)).toList=vs:=by
 unfold pairsOf
 simp [List.map_snd_zip]
end
end SRT
namespace SRT
open PySem PyProof.Rows
theorem xG {vs xs:List Value}(hp:xs.Perm vs):∀ {ns:List Int},IntsAre vs ns->∃ ns',IntsAre xs ns'/\ns'.Perm ns:=by
 induction hp with
 | nil=>intro ns h; exact ⟨ns,h,List.Perm.refl _⟩
 | cons x _ ih=>
  intro ns h
  cases h with
  | cons n t h=>
   obtain ⟨ns',h1,h2⟩:=ih h
   exact ⟨n :: ns',.cons n t h1,h2.cons n⟩
 | swap x y l=>
  intro ns h
  cases h with
  | cons n t h=>
   cases h with
   | cons m u h=>exact ⟨m :: n :: _,.cons m u (.cons n t h),List.Perm.swap _ _ _⟩
 | trans _ _ ih1 ih2=>
  intro ns h
  obtain ⟨n1,a1,b1⟩:=ih2 h
  obtain ⟨n2,a2,b2⟩:=ih1 a1
  exact ⟨n2,a2,b2.trans b1⟩
theorem oh {α:Type} [DecidableEq α]:∀ {l ks:List α},l.Nodup->(∀ x∈l,x∈ks)->ks.length=l.length->ks.Perm l
 | [],ks,_,_,h=>by rw[List.length_eq_zero_iff.mp h]
 | x :: l,ks,hn,hs,hl=>by
  obtain ⟨h1,h2⟩:=List.nodup_cons.mp hn
  have hx:x∈ks:=hs x (List.mem_cons_self ..)
  refine (List.perm_cons_erase hx).trans (List.Perm.cons _ (oh h2 (fun y hy=>?_) ?_))
  ·have:y≠x:=fun e=>h1 (e ▸ hy)
   exact (List.mem_erase_of_ne this).mpr (hs y (List.mem_cons_of_mem _ hy))
  ·rw[List.length_erase_of_mem hx,hl]; rfl
theorem nH (val:Nat->Int):∀ i,(firstMet val i).Nodup
 | 0=>List.nodup_nil
 | i + 1=>by
  rw[firstMet_succ]
  unfold step_dedup
  have ih:=nH val i
  split
  ·exact ih
  ·rename_i h
   rw[List.nodup_append]
   refine ⟨ih,by simp,fun a ha b hb e=>?_⟩
   simp only[List.mem_singleton] at hb
   exact h (List.any_eq_true.mpr ⟨a,ha,by simp [e,hb]⟩)
def ded (ns:List Int):List Int:=firstMet (fun i=>ns.getD i 0) ns.length
theorem Jk (ns:List Int):(ded ns).Nodup:=nH _ _
theorem Gs (ns:List Int):(ded ns).length<=ns.length:=firstMet_length_le _ _
theorem Uh {ns:List Int}{k:Int}:k∈ded ns ↔ k∈ns:=by
 have e:=firstMet_any (fun i=>ns.getD i 0) ns.length k
 have hr:(List.range ns.length).map (fun i=>ns.getD i 0)=ns:=by
  refine List.ext_getElem (by simp) fun i h1 h2=>?_
  simp at h1 h2
  simp [h2]
 rw[hr] at e
 have a1:∀ l:List Int,l.any (· == k)=true ↔ k∈l:=fun l=>by simp
 rw[<- a1,<- a1]
 unfold ded
 rw[e]
section
variable {prog:Program}{w:World}{A:Around}{E:Value->Shared->Prop}{s:Shared}{S:Addr}{es:Array (Int×Value)}{ep:Nat}{t:SetTable}
theorem vG:∀ {l:List (Int×Value)},ElemsOf (intKind prog w) l->∃ ks:List Int,IntsAre (l.map (·.2)) ks/\∀ k,k∈ks ↔ ∃ e∈l,(intKind prog w).is k e.2=true
 | [],_=>⟨[],.nil,fun k=>by simp⟩
 | (h,v) :: l,he=>by
  obtain ⟨⟨k,hk,_⟩,_⟩:=he.head
  obtain ⟨tk,e⟩:=Value.isInt_shape hk
  dsimp only at e hk
  subst e
  obtain ⟨ks,h1,h2⟩:=vG he.tail
  refine ⟨k :: ks,.cons k tk h1,fun j=>?_⟩
  rw[List.mem_cons,h2]
  constructor
  ·rintro (rfl | ⟨e,a,b⟩)
   ·exact ⟨_,List.mem_cons_self ..,hk⟩
   ·exact ⟨e,List.mem_cons_of_mem _ a,b⟩
  ·rintro ⟨e,a,b⟩
   rcases List.mem_cons.mp a with rfl | a
   ·exact .inl ((intKind prog w).inj _ _ _ b hk)
   ·exact .inr ⟨e,a,b⟩
theorem Nr {vs:List Value}{acc:Array Value}(h:ItemsOf (fun i v=>vs[i]?=some v) acc vs.length):acc.toList=vs:=by
 refine List.ext_getElem (by simpa using h.1) fun i h1 h2=>?_
 have:vs[i]?=some acc[i]:=h.2 i acc[i] (by simp)
 rw[List.getElem?_eq_getElem h2] at this
 simpa using this.symm
theorem BJ {Q:List Value->Shared->Prop}(hh:A.handled=none) (hS:gO s.heap S es ep t) (hf:t.fits es.size=true) (ht:TOk (!bt w) t) (hz:es.size<=sizeLine)
  (hQ:∀ (s':Shared) (vs:List Value),vs.Perm (es.toList.map (·.2))->(∀ c o,s.heap.get? c=some o->s'.heap.get? c=some o)->s'.gens=s.gens->s'.os=s.os->s.heap.objs.size<=s'.heap.objs.size->Q vs s') :
  wpAny (model prog w) A (collect (.ref S)) Q E s:=by
 obtain ⟨o,ho,hx,hd⟩:=id hS
 have hty:s.TypeIs (.ref S) "set" := ⟨o,ho,hx.1⟩
 have lt:S < s.heap.objs.size:=Heap.lt_size ho
 unfold collect
 refine wpAny_bind (wpAny_runValue (codeAny_builtin F.entry_proto_collect ?_))
 rw[Around.under_plainId F.plain_proto_collect _]
 show wpAny _ A.in1 (newList [] >>= fun l=>again (.builtin "list.__iadd__" ⟨[l,.ref S],[]⟩)) _ _ s
 refine wpAny_bind (wpAny_newObj_type ?_)
 refine wpAny_pure ⟨plainId_quiet F.plain_list_iadd _,codeAny_builtin F.entry_list_iadd ?_⟩
 rw[Around.under_plainId F.plain_list_iadd _]
 have hS1:gO (s.heap.push { cls:=.type "list",data:=.seq ([]:List Value).toArray }) S es ep t:=hS.get fun o e=>Heap.get?_push_of_some _ e
 have hL1:(s.heap.push { cls:=.type "list",data:=.seq ([]:List Value).toArray }).get? s.heap.objs.size=some { cls:=.type "list",data:=.seq ([]:List Value).toArray }:=Heap.get?_push_size _ rfl
 have hk1:∀ c o,s.heap.get? c=some o->(s.heap.push { cls:=.type "list",data:=.seq ([]:List Value).toArray }).get? c=some o:=fun c o e=>Heap.get?_push_of_some _ e
 have hty1:Shared.TypeIs { s with heap:=s.heap.push { cls:=.type "list",data:=.seq ([]:List Value).toArray } } (.ref S) "set" := ⟨o,hk1 _ _ ho,hx.1⟩
 generalize s.heap.push { cls:=.type "list",data:=.seq ([]:List Value).toArray }=h1 at hS1 hL1 hk1 hty1 |-
 have ne1:s.heap.objs.size≠S:=Nat.ne_of_gt lt
 show wpAny _ A.in1 (Builtin.List.listExtendWith (.ref s.heap.objs.size) (.ref S) (.ref s.heap.objs.size)) _ _ _
 unfold Builtin.List.listExtendWith
 refine wpAny_bind (wpAny_typeOf hty1 ?_)
 have q1:Builtin.List.listSameRef (.ref s.heap.objs.size) (.ref S)=false:=by simp [Builtin.List.listSameRef,ne1]
 rw[if_neg (by rw[q1]; decide)]
 refine wpAny_bind (Kz (s:={ s with heap:=h1 }) hh hS1 hf ht hz fun s2 I fp vs St hk2 hg2 ho2 ht2 hp hI hle hlt W st0 hfp=>?_)
 have hty2:s2.TypeIs (.ref S) "set" := ⟨o,hk2 _ _ (hk1 _ _ ho),hx.1⟩
 refine wpAny_bind (wpAny_holding ?_)
 unfold Builtin.List.listLengthHint
 refine wpAny_bind (wpAny_specialOf hty2 F.slot_set_len.lookup ?_)
 (generalize hid:("set.__len__" : String)=id0; (fail_if_success (clear hid id0)); wp_delta; rw[show splitId id0=some ("set", "__len__") from by subst hid; decide +kernel]; subst hid)
 refine wpAny_bind (wpAny_isInstance (b:=true) hty2 sub_set_self ?_)
 refine wpAny_ite_false rfl (wpAny_ite_true ψ (wpAny_bind (wpAny_typeOf hty2 (wpAny_pure ?_))))
 rw[if_pos δ]
 have hSf:s.heap.objs.size∉fp:=fun z=>by
  have l1:s.heap.objs.size < h1.objs.size:=Heap.lt_size hL1
  rcases (hfp _ z).2 with e | e
  ·exact ne1 e
  ·exact Nat.lt_irrefl _ (Nat.lt_of_lt_of_le l1 e)
 have hL2:=hk2 _ _ hL1
 refine wpAny_bind (wpAny_rule (wpAny_bind ?_))
 show wpAny _ A.in1 (updateSeq s.heap.objs.size (·.push .none) >>= fun _=>updateSeq s.heap.objs.size (·.pop)) _ _ _
 refine wpAny_bind (wpAny_updateSeq hL2 rfl ?_)
 have hL3:=Heap.get?_update_self (Obj.mapSeq (·.push Value.none)) hL2 rfl
 refine wpAny_updateSeq hL3 rfl ?_
 have hL4:=Heap.get?_update_self (Obj.mapSeq (·.pop)) hL3 rfl
 have oth:∀ b o,b≠s.heap.objs.size->s2.heap.get? b=some o->((s2.heap.update s.heap.objs.size (Obj.mapSeq (·.push Value.none))).update s.heap.objs.size (Obj.mapSeq (·.pop))).get? b=some o:=
  fun b o hb e=>(Heap.get?_update_other _ _ (Ne.symm hb)).trans ((Heap.get?_update_other _ _ (Ne.symm hb)).trans e)
 have W1:=W A.in1 (by simpa using hh)
 refine wpAny_pure ⟨plainId_quiet F.plain_extend_loop _,codeAny_extend_loopS W1 (by rw[hp.length_eq,List.length_map,Array.length_toList]; exact hz) _ hSf _ vs.length 0 _ _ _ rfl (Nat.zero_le _)
  (W1.frame 0 s2 _ s2.toks st0 (Nat.le_refl _) fun b hb o e=>oth b o (fun z=>hSf (z ▸ hb)) e) hL4 (ItemsOf.nil _) fun s' acc' c' hm hS' hacc=>?_⟩
 show wpAny _ A (load s.heap.objs.size >>= _) _ _ s'
 refine wpAny_bind (wpAny_load hS' (wpAny_pure ?_))
 rw[Nr hacc]
 have l2:s.heap.objs.size < s'.heap.objs.size:=Heap.lt_size hS'
 refine hQ s' vs hp (fun c o e=>?_) (hm.gens.trans hg2) (hm.os.trans ho2) (Nat.le_of_lt l2)
 have lc:c < s.heap.objs.size:=Heap.lt_size e
 have nI:c≠I:=fun z=>by
  have l3:s.heap.objs.size < h1.objs.size:=Heap.lt_size hL1
  have l4:h1.objs.size<=I:=hle
  rw[z] at lc
  exact Nat.lt_irrefl _ (Nat.lt_of_lt_of_le (Nat.lt_trans lc l3) l4)
 exact hm.heap c o (by simp only[List.mem_cons,List.not_mem_nil,or_false,not_or]; exact ⟨Nat.ne_of_lt lc,nI⟩) (oth c o (Nat.ne_of_lt lc) (hk2 _ _ (hk1 _ _ e)))
end
end SRT
set_option maxHeartbeats 4000000
namespace L2
open PySem PySem.Spec PyProof.Rows
theorem uf:∀ {xs:List Int}{us:List Value},Vals (xs.map V.int) us->IntsAre us xs
 | [],_,h=>by cases h; exact .nil
 | x :: xs,_,h=>by
  cases h with
  | cons r h=>
   obtain ⟨t,rfl⟩:=r
   exact .cons x t (uf h)
theorem xu:∀ {us:List Value}{xs:List Int},IntsAre us xs->Vals (xs.map V.int) us
 | _,_,.nil=>.nil
 | _,_,.cons n t h=>.cons ⟨t,rfl⟩ (xu h)
section
variable {X:Cx}{pins:List (Addr×Obj)}{s:Shared}{σ:St}{H:Hp}
theorem Inv.drawn (I:Inv X pins σ H s) (d:Drawn):Inv X pins σ H { s with drawn:=d }:=
 I.step (g':=s.gens) (d':=d) (t':=s.toks) (h':=s.heap) (ch:=[]) (fun _ z=>nomatch z) (fun b o _ _ _ e _=>e) (fun b o _ _ _ e _=>⟨o.slots,e⟩) (fun _ _ _ _ n=>n) (fun b o _ e=>⟨o,e⟩) (fun _ _ e=>e) (fun _ _ _ e=>e) (fun b ps e=>⟨#[],by rw[e]; simp⟩) (fun _ h=>h) I.hok I.bare
end
theorem qT {ok:Addr->Prop}{H:Hp}{x:V}{it:It1} (t:aX ok H x (itD it)):∃ p,x=.ref p/\ok p/\nM H p it:=by
 cases it with
 | one a=>
  cases t with
  | tup o e z ts=>cases ts with | cons t1 ts=>cases t1; cases ts with | cons t2 ts=>cases t2; cases ts; exact ⟨_,rfl,o,⟨e⟩⟩
 | rng a b=>
  cases t with
  | tup o e z ts=>cases ts with | cons t1 ts=>cases t1; cases ts with | cons t2 ts=>cases t2; cases ts with | cons t3 ts=>cases t3; cases ts; exact ⟨_,rfl,o,⟨e⟩⟩
 | bits m v=>
  cases t with
  | tup o e z ts=>cases ts with | cons t1 ts=>cases t1; cases ts with | cons t2 ts=>cases t2; cases ts with | cons t3 ts=>cases t3; cases ts; exact ⟨_,rfl,o,⟨e⟩⟩
theorem jW {ok:Addr->Prop}{H:Hp}{x:V}{its:List It1} (t:aX ok H x (jJ its)):∃ q us,x=.ref q/\ok q/\H q=some (.lst us)/\us.length<=1000000/\aK ok H us (its.map itD):=by
 cases t with
 | lst o e z ts=>exact ⟨_,_,rfl,o,e,z,ts⟩
theorem iu {ok:Addr->Prop}{H:Hp}{x:V}{w s:Int}{css:List (List It1)}(t:aX ok H x (ig w s css)) :
  ∃ p c vs,x=.ref p/\ok p/\H p=some (.tup [.int w,.int s,.ref c])/\ok c/\H c=some (.lst vs)/\vs.length<=1000000/\aK ok H vs (css.map jJ):=by
 cases t with
 | tup o e z ts=>cases ts with | cons t1 ts=>cases t1; cases ts with | cons t2 ts=>cases t2; cases ts with | cons t3 ts=>cases ts; cases t3 with | lst o2 e2 z2 ts2=>exact ⟨_,_,_,rfl,o,e,o2,e2,z2,ts2⟩
theorem Fj:("from" : Str) ≠ "bits" := by decide +kernel
theorem Tt:∀ {a b:It1},itD a=itD b->a=b:=by
 intro a b h
 cases a <;> cases b <;> simp only[itD,PyData.tuple.injEq,List.cons.injEq,PyData.str.injEq,PyData.int.injEq,and_true,true_and,reduceCtorEq,and_false] at h
 ·rw[h]
 ·rw[h.1,h.2]
 ·exact absurd h.1 Fj
 ·exact absurd h.1.symm Fj
 ·obtain ⟨h1,h2⟩:=h
  rw[Int.ofNat_inj.mp h1,Int.ofNat_inj.mp h2]
open Classical in
noncomputable def pickD (w n:Int) (d:PyData):Bool:=decide (∃ it,d=itD it/\aQ w n it=true)
theorem Ao (w n:Int) (it:It1):pickD w n (itD it)=aQ w n it:=by
 unfold pickD
 cases h:aQ w n it with
 | true=>exact @decide_eq_true _ (_) ⟨it,rfl,h⟩
 | false=>exact @decide_eq_false _ (_) fun ⟨it2,e,q⟩=>by rw[<- Tt e,h] at q; cases q
theorem Py (w n:Int) (its:List It1):((its.map itD).map (pickD w n)).any id=its.any (aQ w n):=by
 rw[List.map_map,List.any_map]
 congr 1
 funext it
 exact Ao w n it
def jq (w n:Int):List (List It1)->Nat
 | []=>0
 | its :: r=>if its.any (aQ w n)=true then 0 else jq w n r + 1
theorem vd {w n:Int}{its:List It1}:∀ {css:List (List It1)}{i:Nat},css[i]?=some its->(∀ (j:Nat) (cs:List It1),j < i->css[j]?=some cs->cs.any (aQ w n)=false)->its.any (aQ w n)=true->jq w n css=i
 | c :: css,0,h,_,e=>by
  simp only[List.getElem?_cons_zero,Option.some.injEq] at h
  subst h
  unfold jq
  rw[if_pos e]
 | c :: css,i + 1,h,hb,e=>by
  unfold jq
  rw[if_neg (by rw[hb 0 c ω rfl]; decide),vd (i:=i) (by simpa using h) (fun j cs hj hc=>hb (j + 1) cs ω (by simpa using hc)) e]
theorem xg {w n:Int}:∀ {css:List (List It1)},(∀ (j:Nat) (cs:List It1),css[j]?=some cs->cs.any (aQ w n)=false)->jq w n css=css.length
 | [],_=>rfl
 | c :: css,hb=>by
  unfold jq
  rw[if_neg (by rw[hb 0 c rfl]; decide),xg fun j cs hc=>hb (j + 1) cs (by simpa using hc)]
  rfl
def zZ:Sp:=fun vs H Q _=>∃ (x:V) (n w s:Int) (ok:Addr->Prop) (css:List (List It1)),vs=[x,.int n]/\1<=w/\w<=40/\aX ok H x (ig w s css)/\∀ H',Same H H'->Q (.int (jq w n css:Nat)) H'
section
variable {prog:Program}{w:World}{A:Around}{R:Result->Shared->Prop}{s:Shared}
end
end L2
set_option maxHeartbeats 8000000
namespace L2
open PySem PySem.Spec PyProof.Rows
section
variable {X:Cx}{NX N:List Str}{kX:List (Str×NameKind)}{mp:List (Option Nat)}{scope:Scope}
end
end L2
set_option maxHeartbeats 4000000
namespace L2
open PySem PySem.Spec PyProof.Rows
section
variable {mp:List (Option Nat)}{wi wi2:TI}{g g2:TG}{te:TE}{σ τ1:St}{H:Hp}{Q:VK}{R:It->Hp->Prop}{K:PySem.W.Frag}{a:Addr}{xs:List V}
end
section
variable {X:Cx}
end
section
variable {X:Cx}{o e:Expr}{p pos:Pos}{to ti:TE}
theorem Pq (o:Expr) (u) (e:Expr) (p pos:Pos) (env:Env) (v:Value):assign (.Subscript o (.UnaryOp u e p) pos) env v=(do
   let ov <- holding [v] (eval o env)
   let iv <- holding [v,ov] (eval (.UnaryOp u e p) env)
   standAt pos
   holding [v,ov,iv] (setItem ov iv v)
   release [v,ov,iv] []):=rfl
theorem Rf {u}{t:PJ}(ho:QE X o to) (hi:QE X (.UnaryOp u e p) ti) (hs:PL X t):QG X (.Subscript o (.UnaryOp u e p) pos) (T7 to ti t):=⟨LC ho.h hi.h hs (fun v=>Pq o u e p pos X.env v)⟩
end
end L2
namespace SRT
open PySem PySem.Builtin PySem.Builtin.List PyProof.Rows
def oZ:SortKind:=(sortPriv% PySem.Builtin.KeyKind.tuples) true
section
variable {prog:Program}{w:World}{s:Shared}{A:Around}{E:Value->Shared->Prop}
theorem Dt {a b:Int}{t u:Tok}{Q:Bool->Shared->Prop}(h:Q (decide (a < b)) s):wpAny (model prog w) A (oneLt' false (.int a t) (.int b u)) Q E s:=by
 rw[oneLt'_eq]
 refine wpAny_bind (wpAny_richCompare_same (op:=.Lt) (T := "int") (typeIs_int s a t) (typeIs_int s b u) slot_int_lt (call_int_lt ⟨(by intro h; cases h),?_⟩))
 exact wpAny_truthy_bool h
end
end SRT
namespace SRT
open PySem PyProof.Rows
def Rk (f:Keyed->Int) (xs:Array Keyed) (i:Nat):Int:=match xs[i]? with
 | some p=>f p
 | none=>0
theorem Rk.at {f:Keyed->Int}{xs ys:Array Keyed}{i j:Nat}(h:xs[i]?=ys[j]?):Rk f xs i=Rk f ys j:=by
 unfold Rk
 rw[h]
def Asc (f:Keyed->Int) (xs:Array Keyed) (n:Nat):Prop:=∀ i j,i < j->j < n->Rk f xs i < Rk f xs j
def Dsc (f:Keyed->Int) (xs:Array Keyed) (n:Nat):Prop:=∀ i j,i < j->j < n->Rk f xs j < Rk f xs i
structure RB (a₀:Array Keyed) (st:SortSt):Prop where
 kind:kindOf st=oZ
 perm:(arrOf st).toList.Perm a₀.toList
 fail:failedOf st=none
 pend:pendingOf st=#[]
theorem RB.size {a₀:Array Keyed}{st:SortSt}(h:RB a₀ st):(arrOf st).size=a₀.size:=by
 have:=h.perm.length_eq
 simpa using this
section
variable {prog:Program}{w:World}{s:Shared}{A:Around}{E:Value->Shared->Prop}{a₀:Array Keyed}{f:Keyed->Int}
end
end SRT
namespace SRT
open PySem PyProof.Rows
section
variable {prog:Program}{w:World}{s:Shared}{A:Around}{E:Value->Shared->Prop}{a₀:Array Keyed}{f:Keyed->Int}
end
end SRT
namespace SRT
open PySem PyProof.Rows
section
variable {prog:Program}{w:World}{s:Shared}{A:Around}{E:Value->Shared->Prop}
theorem JQ {v:Value}{vs:List Value}{ns:List Int}(hI:IntsAre (v :: vs) ns):oneTypeOnly' (v :: vs).toArray=pure (some (.type "int")):=by
 simp only[oneTypeOnly'_eq,List.mapM_toArray,mapM_typeOf_ints hI,map_pure,pure_bind,List.map_cons,List.getElem?_toArray,List.getElem?_cons_zero]
 rw[if_pos ?_]
 rw[List.all_toArray,List.all_cons]
 have e:(Value.type "int" == Value.type "int")=true:=rfl
 rw[e,Bool.true_and,List.all_map]
 exact List.all_eq_true.mpr fun _ _=>rfl
theorem mK {vs:List Value}{p:Keyed}(h:p∈(pairsOf vs).toList):p.1∈vs/\p.2=p.1:=by
 unfold pairsOf at h
 rw[Array.toList_zip] at h
 obtain ⟨i,hi,rfl⟩:=List.getElem_of_mem h
 simp
end
end SRT
namespace SRT
open PySem PyProof.Rows
section
variable {prog:Program}{w:World}{s:Shared}{A:Around}{E:Value->Shared->Prop}
end
end SRT
namespace L2
open PySem PySem.Spec PyProof.Rows
theorem wD:∀ {ps:List Addr}{us:List Value},Vals (ps.map V.ref) us->us=ps.map Value.ref
 | [],_,h=>by cases h; rfl
 | p :: ps,_,h=>by
  cases h with
  | cons r h=>
   cases r
   rw[wD h]
   rfl
theorem wM:∀ (ps:List Addr),Vals (ps.map V.ref) (ps.map Value.ref)
 | []=>.nil
 | p :: ps=>.cons rfl (wM ps)
theorem HN:∀ {xs:List Value}{ps:List Addr},xs.Perm (ps.map Value.ref)->∃ qs:List Addr,xs=qs.map Value.ref/\qs.Perm ps:=fun {xs ps} h=>by
 have hx:∀ v∈xs,∃ p,v=Value.ref p:=fun v hv=>by
  obtain ⟨p,_,e⟩:=List.mem_map.mp (h.mem_iff.mp hv)
  exact ⟨p,e.symm⟩
 obtain ⟨qs,rfl⟩:∃ qs:List Addr,xs=qs.map Value.ref:=by
  clear h
  induction xs with
  | nil=>exact ⟨[],rfl⟩
  | cons v xs ih=>
   obtain ⟨p,rfl⟩:=hx v (List.mem_cons_self ..)
   obtain ⟨qs,rfl⟩:=ih fun x m=>hx x (List.mem_cons_of_mem _ m)
   exact ⟨p :: qs,rfl⟩
 refine ⟨qs,rfl,?_⟩
 have:=h.filterMap fun v=>match v with | .ref p=>some p | _=>none
 simpa [List.filterMap_map,Function.comp_def] using this
section
variable {X:Cx}
end
end L2
namespace SRT
open PySem PyProof.Rows
def TP (s:Shared) (x:Value) (a:Int):Prop:=∃ q o n t z,x=.ref q/\s.heap.get? q=some o/\o.cls=.type "tuple" /\ o.data=.seq #[.int a t,z] n
section
variable {prog:Program}{w:World}{s:Shared}{A:Around}{E:Value->Shared->Prop}
theorem Xu {v:Value}{a:Int}{Q:Option Value->Shared->Prop}(h:TP s v a) (q:∀ t,Q (some (.int a t)) s):wpAny (model prog w) A (firstOfTuple' v) Q E s:=by
 obtain ⟨p,o,n,t,z,rfl,ho,hc,hs⟩:=h
 show wpAny _ _ (typeOf (.ref p) >>= fun ty=>_) _ _ s
 refine wpAny_bind (wpAny_typeOf (T := "tuple") (show s.TypeIs (.ref p) "tuple" from ⟨o,ho,hc⟩) ?_)
 rw[if_neg δ]
 exact wpAny_bind (listItems_at ho hs (wpAny_pure (q t)))
theorem firstsP:∀ {vs:List Value}{Q:List (Option Value)->Shared->Prop},(∀ v∈vs,∃ a,TP s v a)->(∀ (ws:List Value) (ns:List Int),IntsAre ws ns->ws.length=vs.length->Q (ws.map some) s)->wpAny (model prog w) A (vs.mapM firstOfTuple') Q E s
 | [],Q,_,q=>by
  rw[List.mapM_nil]
  exact wpAny_pure (q [] [] .nil rfl)
 | v :: vs,Q,h,q=>by
  rw[List.mapM_cons]
  obtain ⟨a,hv⟩:=h v (List.mem_cons_self ..)
  refine wpAny_bind (Xu hv fun t=>?_)
  refine wpAny_bind (firstsP (vs:=vs) (fun x hx=>h x (List.mem_cons_of_mem _ hx)) fun ws ns hI hl=>?_)
  exact wpAny_pure (q (.int a t :: ws) (a :: ns) (.cons a t hI) (by rw[List.length_cons,List.length_cons,hl]))
theorem YK {vs:List Value}{Q:SortKind->Shared->Prop}(h:∀ v∈vs,∃ a,TP s v a) (hn:1<=vs.length) (q:Q oZ s):wpAny (model prog w) A (keyKind' vs.toArray) Q E s:=by
 rw[keyKind'_eq]
 rw[List.mapM_toArray]
 rw[map_eq_pure_bind]
 refine wpAny_bind (wpAny_bind (firstsP h fun ws ns hI hl=>wpAny_pure ?_))
 have ha:(ws.map some).toArray.all (·.isSome)=true:=by simp
 rw[if_pos ha]
 have hfm:(ws.map some).toArray.filterMap id=ws.toArray:=by simp [List.filterMap_map]
 rw[hfm]
 cases ws with
 | nil=>rw[<- hl] at hn; cases hn
 | cons v ws=>
  rw[JQ hI]
  refine wpAny_bind (wpAny_rule ?_)
  exact wpAny_bind (wpAny_pure (wpAny_pure q))
end
end SRT
namespace L2
open PySem PySem.Spec PyProof.Rows
def rkP (key:Addr->Int):Value->Int
 | .ref p=>key p
 | _=>0
section
variable {X:Cx}
end
end L2
namespace SRT
open PySem PyProof.Rows
def Inn (a₀ xs:Array Keyed):Prop:=∀ (i:Nat) p,xs[i]?=some p->p∈a₀.toList
theorem bL {f:Keyed->Int}{xs:Array Keyed}{i:Nat}{p:Keyed}(h:xs[i]?=some p):Rk f xs i=f p:=by unfold Rk; rw[h]
section
variable {κ:SortKind}{prog:Program}{w:World}{s:Shared}{A:Around}{E:Value->Shared->Prop}{a₀:Array Keyed}{f:Keyed->Int}
end
end SRT
namespace SRT
open PySem PyProof.Rows
section
variable {κ:SortKind}{prog:Program}{w:World}{s:Shared}{A:Around}{E:Value->Shared->Prop}{a₀:Array Keyed}{f:Keyed->Int}
abbrev Upl (f:Keyed->Int) (xs:List Keyed):Prop:=xs.Pairwise fun x y=>f x < f y
structure SI (f:Keyed->Int) (a b out:Array Keyed) (i j:Nat):Prop where
 pm:(dI a b out i j).Perm (a.toList ++ b.toList)
 up:Upl f out.toList
 ga:∀ o,o∈out.toList->∀ t,i<=t->t < a.size->f o < Rk f a t
 gb:∀ o,o∈out.toList->∀ t,j<=t->t < b.size->f o < Rk f b t
def RetQ (f:Keyed->Int) (a b:Array Keyed) (c:Option (Array Keyed)):Prop:=∃ r,c=some r/\r.toList.Perm (a.toList ++ b.toList)/\Upl f r.toList
end
end SRT
namespace SRT
open PySem PyProof.Rows
section
variable {κ:SortKind}{prog:Program}{w:World}{s:Shared}{A:Around}{E:Value->Shared->Prop}{a₀:Array Keyed}{f:Keyed->Int}
structure SH (f:Keyed->Int) (a b out:Array Keyed) (i j:Nat):Prop where
 pm:(gU a b out i j).Perm (a.toList ++ b.toList)
 up:out.toList.Pairwise fun x y=>f y < f x
 ga:∀ o,o∈out.toList->∀ t,t < i->t < a.size->Rk f a t < f o
 gb:∀ o,o∈out.toList->∀ t,t < j->t < b.size->Rk f b t < f o
end
end SRT
namespace SRT
open PySem PyProof.Rows
section
variable {κ:SortKind}{prog:Program}{w:World}{s:Shared}{A:Around}{E:Value->Shared->Prop}{a₀:Array Keyed}{f:Keyed->Int}{pd:Array (Nat×Nat×Nat)}
def Y8 (f:Keyed->Int) (xs:Array Keyed) (lo hi:Nat):Prop:=∀ i j,lo<=i->i < j->j < hi->Rk f xs i < Rk f xs j
structure QB (κ:SortKind) (a₀:Array Keyed) (pd:Array (Nat×Nat×Nat)) (st:SortSt):Prop where
 kind:kindOf st=κ
 perm:(arrOf st).toList.Perm a₀.toList
 fail:failedOf st=none
 pend:pendingOf st=pd
theorem QB.size {st:SortSt}(h:QB κ a₀ pd st):(arrOf st).size=a₀.size:=by simpa using h.perm.length_eq
theorem QB.set {st:SortSt}{xs:Array Keyed}(h:QB κ a₀ pd st) (hp:xs.Perm (arrOf st)):QB κ a₀ pd (setArr st xs):=⟨h.kind,(Array.perm_iff_toList_perm.mp hp).trans h.perm,h.fail,h.pend⟩
theorem QB.inn {st:SortSt}(h:QB κ a₀ pd st):Inn a₀ (arrOf st):=fun i p e=>h.perm.mem_iff.mp (by simpa using Array.mem_of_getElem? e)
end
end SRT
namespace SRT
open PySem PyProof.Rows
theorem Rn {a m:Array Keyed}{c e:Nat}(h:c + m.size=e) (he:e<=a.size) (t:Nat):(m.toList.zipIdx.foldl (fun a (x:Keyed×Nat)=>a.setIfInBounds (c + x.2) x.1) a)[t]?=if t < c then a[t]? else if t < e then m[t - c]? else a[t]?:=by
 have ea:a.toList=a.toList.take c ++ ((a.toList.drop c).take m.size ++ a.toList.drop e):=by
  rw[<- h,<- List.drop_drop,List.take_append_drop,List.take_append_drop]
 have:=yE m.toList 0 (a.toList.take c) ((a.toList.drop c).take m.size) (a.toList.drop e) c (by simp; omega) (by simp; omega) a ea
 rw[<- Array.getElem?_toList,this]
 by_cases c1:t < c
 ·rw[if_pos c1,List.getElem?_append_left (by simp; omega),List.getElem?_take,if_pos c1,Array.getElem?_toList]
 ·rw[if_neg c1,List.getElem?_append_right (by simp; omega)]
  have l1:(a.toList.take c).length=c:=by simp; omega
  rw[l1]
  by_cases c2:t < e
  ·rw[if_pos c2,List.getElem?_append_left (by simp; omega),Array.getElem?_toList]
  ·rw[if_neg c2,List.getElem?_append_right (by simp; omega),List.getElem?_drop,Array.getElem?_toList]
   congr 1
   simp
   omega
theorem Chain.len:∀ {l:List (Nat×Nat×Nat)}{a b:Nat},Chain l a b->a + l.length<=b
 | [],_,_,h=>Nat.le_of_eq h
 | (_,n,_) :: t,a,_,⟨_,h1,h⟩=>by have:=h.len; rw[List.length_cons]; omega
theorem Chain.mem:∀ {l:List (Nat×Nat×Nat)}{a b:Nat},Chain l a b->∀ r,r∈l->a<=r.1/\r.1 + r.2.1<=b
 | [],_,_,_,r,m=>by cases m
 | (p,n,v) :: t,a,b,⟨e,h1,h⟩,r,m=>by
  rcases List.mem_cons.mp m with rfl | m
  ·have:=h.le
   exact ⟨by show a<=p; omega,by show p + n<=b; omega⟩
  ·have:=h.mem r m
   omega
theorem Chain.parts:∀ {pre post:List (Nat×Nat×Nat)}{sa na w sb nb v a b:Nat},Chain (pre ++ (sa,na,w) :: (sb,nb,v) :: post) a b->(∀ r,r∈pre->r.1 + r.2.1<=sa)/\∀ r,r∈post->sb + nb<=r.1
 | [],post,sa,na,w,sb,nb,v,a,b,⟨h1,h2,h3,h4,h5⟩=>⟨fun r m=>(by cases m),fun r m=>by have:=(h5.mem r m).1; omega⟩
 | (p,n,u) :: pre,post,sa,na,w,sb,nb,v,a,b,⟨h1,h2,h3⟩=>by
  obtain ⟨k1,k2⟩:=Chain.parts h3
  refine ⟨fun r m=>?_,k2⟩
  rcases List.mem_cons.mp m with rfl | m
  ·have:=(h3.mem (sa,na,w) (by simp)).1
   show p + n<=sa
   omega
  ·exact k1 r m
section
variable {κ:SortKind}{prog:Program}{w:World}{s:Shared}{A:Around}{E:Value->Shared->Prop}{a₀:Array Keyed}{f:Keyed->Int}{pd:Array (Nat×Nat×Nat)}
structure QC (κ:SortKind) (a₀:Array Keyed) (f:Keyed->Int) (hi:Nat) (st:SortSt):Prop where
 b:QB κ a₀ (pendingOf st) st
 c:Chain (pendingOf st).toList 0 hi
 u:∀ r,r∈(pendingOf st).toList->Y8 f (arrOf st) r.1 (r.1 + r.2.1)
theorem QC.push {st:SortSt}{lo n:Nat}(h:QC κ a₀ f lo st) (h1:1<=n) (hu:Y8 f (arrOf st) lo (lo + n)):QC κ a₀ f (lo + n) (setPending st ((pendingOf st).push (lo,n,0))):=by
 refine ⟨⟨h.b.kind,h.b.perm,h.b.fail,rfl⟩,?_,fun r m=>?_⟩
 ·show Chain ((pendingOf st).push (lo,n,0)).toList 0 (lo + n)
  rw[Array.toList_push]
  exact h.c.snoc h1
 ·replace m:r∈((pendingOf st).push (lo,n,0)).toList:=m
  rw[Array.toList_push] at m
  rcases List.mem_append.mp m with m | m
  ·exact h.u r m
  ·rw[List.mem_singleton.mp m]
   exact hu
end
end SRT
namespace SRT
open PySem PyProof.Rows
section
variable {prog:Program}{w:World}{s:Shared}{A:Around}{E:Value->Shared->Prop}
end
end SRT
namespace L2
open PySem PySem.Spec PyProof.Rows
section
variable {X:Cx}
end
end L2
namespace SRT
open PySem PyProof.Rows
def tM (κ:SortKind) (prog:Program) (w:World) (A:Around) (E:Value->Shared->Prop) (s:Shared) (a₀:Array Keyed) (f:Keyed->Int):Prop:=
 ∀ (st:SortSt) (x y:Keyed) (Q:Option Bool->SortSt->Prop),kindOf st=κ->x∈a₀.toList->y∈a₀.toList->Q (some (decide (f x < f y))) st->wpS (model prog w) A E s (lt' x y) Q st
def Bey (left:Bool) (k r:Int):Bool:=if left then decide (r < k) else !decide (k < r)
theorem Pb {left:Bool}{k r:Int}(h:Bey left k r=true):r<=k:=by
 unfold Bey at h
 cases left <;> simp at h <;> omega
theorem Gf {left:Bool}{k r:Int}(h:Bey left k r=false):k<=r:=by
 unfold Bey at h
 cases left <;> simp at h <;> omega
theorem Cp {left:Bool}{k r q:Int}(hr:r<=q) (h:Bey left k q=true):Bey left k r=true:=by
 unfold Bey at h |-
 cases left <;> simp at h |- <;> omega
section
variable {κ:SortKind}{prog:Program}{w:World}{s:Shared}{A:Around}{E:Value->Shared->Prop}{a₀:Array Keyed}{f:Keyed->Int}
theorem jE {st:SortSt}{left:Bool}{key:Keyed}{arr:Array Keyed}{base n hint:Nat}{Q:Option Nat->SortSt->Prop}(O:tM κ prog w A E s a₀ f) (hk:kindOf st=κ) (hkey:key∈a₀.toList) (ha:Inn a₀ arr) (hb:base + n<=arr.size) (hh:hint < n)
  (up:∀ i j,i < j->j < n->Rk f arr (base + i)<=Rk f arr (base + j))
  (h:∀ k,k<=n->(∀ i,i < k->Rk f arr (base + i)<=f key)->(∀ i,k<=i->i < n->f key<=Rk f arr (base + i))->Q (some k) st) :
  wpS (model prog w) A E s (T6 left key arr base n hint) Q st:=by
 have beyok:∀ (i:Nat) (Q':Option Bool->SortSt->Prop),i < n->Q' (some (Bey left (f key) (Rk f arr (base + i)))) st->wpS (model prog w) A E s (do
   let p <- elem' arr (base + i)
   if left=true then lt' p key else do
    let r <- lt' key p
    pure (r.map fun z=>!z)) Q' st:=by
  intro i Q' hi hq
  refine wpS_bind (bC ω fun p hp=>?_)
  rw[bL hp] at hq
  cases left with
  | true=>exact O st p key Q' hk (ha _ p hp) hkey hq
  | false=>exact wpS_bind (O st key p _ hk hkey (ha _ p hp) (wpS_pure hq))
 have upw:∀ {i j:Nat},i<=j->j < n->Rk f arr (base + i)<=Rk f arr (base + j):=fun {i j} hij hj=>by
  by_cases c:i=j
  ·rw[c]; exact Int.le_refl _
  ·exact up i j ω hj
 have below:∀ {i j:Nat},i<=j->j < n->Bey left (f key) (Rk f arr (base + j))=true->Bey left (f key) (Rk f arr (base + i))=true:=fun {i j} hij hj hl=>Cp (upw hij hj) hl
 have above:∀ {i j:Nat},j<=i->i < n->Bey left (f key) (Rk f arr (base + j))=false->Bey left (f key) (Rk f arr (base + i))=false:=fun {i j} hij hi hl=>
  Bool.eq_false_iff.mpr fun z=>Bool.eq_false_iff.mp hl (Cp (upw hij hi) z)
 refine wpS_bind (beyok hint _ hh ?_)
 by_cases cr:Bey left (f key) (Rk f arr (base + hint))=true
 ·rw[cr]
  refine wpS_bind (wpS_mono (wpS_forRange (I:=fun x c st'=>st'=st/\∃ a b,c=(none,a,b)/\a < b/\x + 1<=b/\hint + a < n/\Bey left (f key) (Rk f arr (base + (hint + a)))=true) (Q:=fun c st'=>st'=st/\∃ a b,c=(none,a,b)/\a < b/\hint + a < n/\Bey left (f key) (Rk f arr (base + (hint + a)))=true/\(b < n - hint->Bey left (f key) (Rk f arr (base + (hint + b)))=false)) ?_ ?_ ⟨rfl,0,1,rfl,δ,δ,hh,cr⟩) ?_)
  ·rintro x c st' _ _ ⟨rfl,a,b,rfl,q1,q2,q3,q4⟩
   dsimp only
   split
   ·exact wpS_pure ⟨rfl,a,b,rfl,q1,q3,q4,fun z=>by omega⟩
   ·rename_i hab
    refine wpS_bind (beyok _ _ ω ?_)
    by_cases c:Bey left (f key) (Rk f arr (base + (hint + b)))=true
    ·rw[c]
     exact wpS_pure ⟨rfl,b,2 * b + 1,rfl,ω,ω,ω,c⟩
    ·rw[Bool.eq_false_iff.mpr c]
     exact wpS_pure ⟨rfl,a,b,rfl,q1,q3,q4,fun _=>Bool.eq_false_iff.mpr c⟩
  ·rintro c st' ⟨rfl,a,b,rfl,q1,q2,q3,q4⟩
   exact ⟨rfl,a,b,rfl,q1,q3,q4,fun z=>by omega⟩
  ·rintro c st' ⟨rfl,a,b,rfl,q1,q3,q4,q5⟩
   refine wpS_bind (wpS_mono (wpS_forRange (I:=fun x c z=>z=st'/\∃ l r,c=(none,l,r)/\l<=r/\r<=n/\r - l<=n - x/\(∀ i,i < l->Bey left (f key) (Rk f arr (base + i))=true)/\(∀ i,r<=i->i < n->Bey left (f key) (Rk f arr (base + i))=false)) (Q:=fun c z=>z=st'/\∃ r,c=(none,r,r)/\r<=n/\(∀ i,i < r->Bey left (f key) (Rk f arr (base + i))=true)/\(∀ i,r<=i->i < n->Bey left (f key) (Rk f arr (base + i))=false)) ?_ ?_ ⟨rfl,hint + a + 1,hint + min b (n - hint),rfl,ω,ω,ω,fun i hi=>below (j:=hint + a) ω q3 q4,fun i h1 h2=>above (j:=hint + b) ω h2 (q5 ω)⟩) ?_)
   ·rintro x c z _ hx ⟨rfl,l,r,rfl,p1,p2,p3,p4,p5⟩
    dsimp only
    split
    ·have:l=r:=by omega
     subst this
     exact wpS_pure ⟨rfl,l,rfl,p2,p4,p5⟩
    ·rename_i hab
     refine wpS_bind (beyok _ _ ω ?_)
     by_cases c:Bey left (f key) (Rk f arr (base + (l + (r - l) / 2)))=true
     ·rw[c]
      exact wpS_pure ⟨rfl,_,_,rfl,ω,p2,ω,fun i hi=>below (j:=l + (r - l) / 2) ω ω c,p5⟩
     ·rw[Bool.eq_false_iff.mpr c]
      exact wpS_pure ⟨rfl,_,_,rfl,ω,ω,ω,p4,fun i h1 h2=>above (j:=l + (r - l) / 2) h1 h2 (Bool.eq_false_iff.mpr c)⟩
   ·rintro c z ⟨rfl,l,r,rfl,p1,p2,p3,p4,p5⟩
    have:l=r:=by omega
    subst this
    exact ⟨rfl,l,rfl,p2,p4,p5⟩
   ·rintro c z ⟨rfl,r,rfl,p2,p4,p5⟩
    exact wpS_pure (h r p2 (fun i hi=>Pb (p4 i hi)) (fun i h1 h2=>Gf (p5 i h1 h2)))
 ·rw[Bool.eq_false_iff.mpr cr]
  have cr2:Bey left (f key) (Rk f arr (base + hint))=false:=Bool.eq_false_iff.mpr cr
  refine wpS_bind (wpS_mono (wpS_forRange (I:=fun x c st'=>st'=st/\∃ a b,c=(none,a,b)/\a < b/\x + 1<=b/\a<=hint/\Bey left (f key) (Rk f arr (base + (hint - a)))=false) (Q:=fun c st'=>st'=st/\∃ a b,c=(none,a,b)/\a < b/\a<=hint/\Bey left (f key) (Rk f arr (base + (hint - a)))=false/\(b < hint + 1->Bey left (f key) (Rk f arr (base + (hint - b)))=true)) ?_ ?_ ⟨rfl,0,1,rfl,δ,δ,Nat.zero_le _,cr2⟩) ?_)
  ·rintro x c st' _ _ ⟨rfl,a,b,rfl,q1,q2,q3,q4⟩
   dsimp only
   split
   ·exact wpS_pure ⟨rfl,a,b,rfl,q1,q3,q4,fun z=>by omega⟩
   ·rename_i hab
    refine wpS_bind (beyok _ _ ω ?_)
    by_cases c:Bey left (f key) (Rk f arr (base + (hint - b)))=true
    ·rw[c]
     exact wpS_pure ⟨rfl,a,b,rfl,q1,q3,q4,fun _=>c⟩
    ·rw[Bool.eq_false_iff.mpr c]
     exact wpS_pure ⟨rfl,b,2 * b + 1,rfl,ω,ω,ω,Bool.eq_false_iff.mpr c⟩
  ·rintro c st' ⟨rfl,a,b,rfl,q1,q2,q3,q4⟩
   exact ⟨rfl,a,b,rfl,q1,q3,q4,fun z=>by omega⟩
  ·rintro c st' ⟨rfl,a,b,rfl,q1,q3,q4,q5⟩
   refine wpS_bind (wpS_mono (wpS_forRange (I:=fun x c z=>z=st'/\∃ l r,c=(none,l,r)/\l<=r/\r<=n/\r - l<=n - x/\(∀ i,i < l->Bey left (f key) (Rk f arr (base + i))=true)/\(∀ i,r<=i->i < n->Bey left (f key) (Rk f arr (base + i))=false)) (Q:=fun c z=>z=st'/\∃ r,c=(none,r,r)/\r<=n/\(∀ i,i < r->Bey left (f key) (Rk f arr (base + i))=true)/\(∀ i,r<=i->i < n->Bey left (f key) (Rk f arr (base + i))=false)) ?_ ?_ ⟨rfl,hint + 1 - min b (hint + 1),hint - a,rfl,ω,ω,ω,fun i hi=>below (j:=hint - b) ω ω (q5 ω),fun i h1 h2=>above (j:=hint - a) h1 h2 q4⟩) ?_)
   ·rintro x c z _ hx ⟨rfl,l,r,rfl,p1,p2,p3,p4,p5⟩
    dsimp only
    split
    ·have:l=r:=by omega
     subst this
     exact wpS_pure ⟨rfl,l,rfl,p2,p4,p5⟩
    ·rename_i hab
     refine wpS_bind (beyok _ _ ω ?_)
     by_cases c:Bey left (f key) (Rk f arr (base + (l + (r - l) / 2)))=true
     ·rw[c]
      exact wpS_pure ⟨rfl,_,_,rfl,ω,p2,ω,fun i hi=>below (j:=l + (r - l) / 2) ω ω c,p5⟩
     ·rw[Bool.eq_false_iff.mpr c]
      exact wpS_pure ⟨rfl,_,_,rfl,ω,ω,ω,p4,fun i h1 h2=>above (j:=l + (r - l) / 2) h1 h2 (Bool.eq_false_iff.mpr c)⟩
   ·rintro c z ⟨rfl,l,r,rfl,p1,p2,p3,p4,p5⟩
    have:l=r:=by omega
    subst this
    exact ⟨rfl,l,rfl,p2,p4,p5⟩
   ·rintro c z ⟨rfl,r,rfl,p2,p4,p5⟩
    exact wpS_pure (h r p2 (fun i hi=>Pb (p4 i hi)) (fun i h1 h2=>Gf (p5 i h1 h2)))
end
end SRT
namespace SRT
open PySem PyProof.Rows
def gQ (f:Keyed->Int) (xs:Array Keyed) (n:Nat):Prop:=∀ i j,i < j->j < n->Rk f xs i<=Rk f xs j
section
variable {κ:SortKind}{prog:Program}{w:World}{s:Shared}{A:Around}{E:Value->Shared->Prop}{a₀:Array Keyed}{f:Keyed->Int}
abbrev Cy (f:Keyed->Int) (xs:List Keyed):Prop:=xs.Pairwise fun x y=>f x<=f y
theorem UG {a:Array Keyed}(h:gQ f a a.size):Cy f a.toList:=by
 refine List.pairwise_iff_getElem.mpr fun i j hi hj hij=>?_
 have hi':i < a.size:=by simpa using hi
 have hj':j < a.size:=by simpa using hj
 have:=h i j hij hj'
 rw[bL (getElem?_pos a i hi'),bL (getElem?_pos a j hj')] at this
 simpa using this
theorem Qh {a:Array Keyed}(h:Cy f a.toList):gQ f a a.size:=fun i j hij hj=>by
 have hi:i < a.size:=by omega
 have:=(List.pairwise_iff_getElem.mp h) i j (by simpa using hi) (by simpa using hj) hij
 rw[bL (getElem?_pos a i hi),bL (getElem?_pos a j hj)]
 simpa using this
theorem fW {a:Array Keyed}(h:gQ f a a.size) (x y:Nat):Cy f (a.extract x y).toList:=by
 rw[Array.toList_extract]
 exact (UG h).sublist ((List.take_sublist _ _).trans (List.drop_sublist _ _))
theorem bx {a:Array Keyed}{x y:Nat}{p:Keyed}(h:p∈(a.extract x y).toList):∃ t,x<=t/\t < y/\t < a.size/\a[t]?=some p:=by
 obtain ⟨i,hi,e⟩:=List.mem_iff_getElem.mp h
 have hi':i < min y a.size - x:=by
  have:=hi
  simp at this
  omega
 have e2:(a.extract x y).toList[i]?=some p:=by rw[List.getElem?_eq_getElem hi,e]
 rw[Array.getElem?_toList,Array.getElem?_extract,if_pos ω] at e2
 exact ⟨x + i,ω,ω,ω,e2⟩
structure SIw (f:Keyed->Int) (a b out:Array Keyed) (i j:Nat):Prop where
 pm:(dI a b out i j).Perm (a.toList ++ b.toList)
 up:Cy f out.toList
 ga:∀ o,o∈out.toList->∀ t,i<=t->t < a.size->f o<=Rk f a t
 gb:∀ o,o∈out.toList->∀ t,j<=t->t < b.size->f o<=Rk f b t
theorem SIw.sE {a b out:Array Keyed}{i j:Nat}{p:Keyed}(h:SIw f a b out i j) (ub:gQ f b b.size) (hp:b[j]?=some p) (hlt:∀ t,i<=t->t < a.size->Rk f b j<=Rk f a t):SIw f a b (out.push p) i (j + 1):=by
 have hj:j < b.size:=(Array.getElem?_eq_some_iff.mp hp).1
 have e:=bL (f:=f) hp
 refine ⟨(M9 hp).trans h.pm,?_,fun o m t h1 h2=>?_,fun o m t h1 h2=>?_⟩
 ·rw[Array.toList_push]
  refine List.pairwise_append.mpr ⟨h.up,List.pairwise_singleton _ _,fun x mx y my=>?_⟩
  rw[List.mem_singleton.mp my,<- e]
  exact h.gb x mx j (Nat.le_refl _) hj
 ·rw[Array.toList_push] at m
  rcases List.mem_append.mp m with m | m
  ·exact h.ga o m t h1 h2
  ·rw[List.mem_singleton.mp m,<- e]; exact hlt t h1 h2
 ·rw[Array.toList_push] at m
  rcases List.mem_append.mp m with m | m
  ·exact h.gb o m t ω h2
  ·rw[List.mem_singleton.mp m,<- e]; exact ub j t ω h2
theorem SIw.lX {a b out:Array Keyed}{i j:Nat}{p:Keyed}(h:SIw f a b out i j) (ua:gQ f a a.size) (hp:a[i]?=some p) (hlt:∀ t,j<=t->t < b.size->Rk f a i<=Rk f b t):SIw f a b (out.push p) (i + 1) j:=by
 have hi:i < a.size:=(Array.getElem?_eq_some_iff.mp hp).1
 have e:=bL (f:=f) hp
 refine ⟨(Nb hp).trans h.pm,?_,fun o m t h1 h2=>?_,fun o m t h1 h2=>?_⟩
 ·rw[Array.toList_push]
  refine List.pairwise_append.mpr ⟨h.up,List.pairwise_singleton _ _,fun x mx y my=>?_⟩
  rw[List.mem_singleton.mp my,<- e]
  exact h.ga x mx i (Nat.le_refl _) hi
 ·rw[Array.toList_push] at m
  rcases List.mem_append.mp m with m | m
  ·exact h.ga o m t ω h2
  ·rw[List.mem_singleton.mp m,<- e]; exact ua i t ω h2
 ·rw[Array.toList_push] at m
  rcases List.mem_append.mp m with m | m
  ·exact h.gb o m t h1 h2
  ·rw[List.mem_singleton.mp m,<- e]; exact hlt t h1 h2
theorem SIw.QF {a b out:Array Keyed}{i j k:Nat}(h:SIw f a b out i j) (ua:gQ f a a.size) (hlt:∀ t,i<=t->t < i + k->t < a.size->∀ u,j<=u->u < b.size->Rk f a t<=Rk f b u):SIw f a b (out ++ a.extract i (i + k)) (i + k) j:=by
 refine ⟨S6.trans h.pm,?_,fun o m t h1 h2=>?_,fun o m t h1 h2=>?_⟩
 ·rw[Array.toList_append]
  refine List.pairwise_append.mpr ⟨h.up,fW ua _ _,fun x mx y my=>?_⟩
  obtain ⟨t,t1,t2,t3,e⟩:=bx my
  rw[<- bL (f:=f) e]
  exact h.ga x mx t t1 t3
 ·rw[Array.toList_append] at m
  rcases List.mem_append.mp m with m | m
  ·exact h.ga o m t ω h2
  ·obtain ⟨u,t1,t2,t3,e⟩:=bx m
   rw[<- bL (f:=f) e]
   exact ua u t ω h2
 ·rw[Array.toList_append] at m
  rcases List.mem_append.mp m with m | m
  ·exact h.gb o m t h1 h2
  ·obtain ⟨u,t1,t2,t3,e⟩:=bx m
   rw[<- bL (f:=f) e]
   exact hlt u t1 t2 t3 t h1 h2
theorem SIw.Hs {a b out:Array Keyed}{i j k:Nat}(h:SIw f a b out i j) (ub:gQ f b b.size) (hlt:∀ t,j<=t->t < j + k->t < b.size->∀ u,i<=u->u < a.size->Rk f b t<=Rk f a u):SIw f a b (out ++ b.extract j (j + k)) i (j + k):=by
 refine ⟨S5.trans h.pm,?_,fun o m t h1 h2=>?_,fun o m t h1 h2=>?_⟩
 ·rw[Array.toList_append]
  refine List.pairwise_append.mpr ⟨h.up,fW ub _ _,fun x mx y my=>?_⟩
  obtain ⟨t,t1,t2,t3,e⟩:=bx my
  rw[<- bL (f:=f) e]
  exact h.gb x mx t t1 t3
 ·rw[Array.toList_append] at m
  rcases List.mem_append.mp m with m | m
  ·exact h.ga o m t h1 h2
  ·obtain ⟨u,t1,t2,t3,e⟩:=bx m
   rw[<- bL (f:=f) e]
   exact hlt u t1 t2 t3 t h1 h2
 ·rw[Array.toList_append] at m
  rcases List.mem_append.mp m with m | m
  ·exact h.gb o m t ω h2
  ·obtain ⟨u,t1,t2,t3,e⟩:=bx m
   rw[<- bL (f:=f) e]
   exact ub u t ω h2
def oA (f:Keyed->Int) (a b:Array Keyed) (c:Option (Array Keyed)):Prop:=∃ r,c=some r/\r.toList.Perm (a.toList ++ b.toList)/\Cy f r.toList
theorem SIw.dn {a b out:Array Keyed}{i j:Nat}(h:SIw f a b out i j) (ua:gQ f a a.size) (ub:gQ f b b.size) (he:b.size<=j\/a.size<=i):oA f a b (some (out ++ a.extract i a.size ++ b.extract j b.size)):=by
 refine ⟨_,rfl,by rw[S8]; exact h.pm,?_⟩
 rw[Array.toList_append,Array.toList_append]
 refine List.pairwise_append.mpr ⟨List.pairwise_append.mpr ⟨h.up,fW ua _ _,fun x mx y my=>?_⟩,fW ub _ _,fun x mx y my=>?_⟩
 ·obtain ⟨t,t1,t2,t3,e⟩:=bx my
  rw[<- bL (f:=f) e]
  exact h.ga x mx t t1 t3
 ·obtain ⟨t,t1,t2,t3,e⟩:=bx my
  rcases List.mem_append.mp mx with mx | mx
  ·rw[<- bL (f:=f) e]
   exact h.gb x mx t t1 t3
  ·obtain ⟨u,u1,u2,u3,e2⟩:=bx mx
   omega
theorem SIw.ls {a b out:Array Keyed}{i j:Nat}(h:SIw f a b out i j) (ua:gQ f a a.size) (ub:gQ f b b.size) (hi:i + 1=a.size) (hL:∀ t,t < b.size->Rk f b t<=Rk f a (a.size - 1)):oA f a b (some (out ++ b.extract j b.size ++ a.extract i a.size)):=by
 refine ⟨_,rfl,S7.trans h.pm,?_⟩
 rw[Array.toList_append,Array.toList_append]
 refine List.pairwise_append.mpr ⟨List.pairwise_append.mpr ⟨h.up,fW ub _ _,fun x mx y my=>?_⟩,fW ua _ _,fun x mx y my=>?_⟩
 ·obtain ⟨t,t1,t2,t3,e⟩:=bx my
  rw[<- bL (f:=f) e]
  exact h.gb x mx t t1 t3
 ·obtain ⟨t,t1,t2,t3,e⟩:=bx my
  rw[<- bL (f:=f) e]
  rcases List.mem_append.mp mx with mx | mx
  ·exact h.ga x mx t t1 t3
  ·obtain ⟨u,u1,u2,u3,e2⟩:=bx mx
   rw[<- bL (f:=f) e2,show t=a.size - 1 by omega]
   exact hL u u3
def PN (f:Keyed->Int) (a b out:Array Keyed) (i j:Nat):Prop:=SIw f a b out i j/\i + 1 < a.size/\j < b.size
theorem MK {st:SortSt}{a b:Array Keyed}{Q:Array Keyed->SortSt->Prop}(O:tM κ prog w A E s a₀ f) (hk:kindOf st=κ) (ha:Inn a₀ a) (hb:Inn a₀ b) (ua:gQ f a a.size) (ub:gQ f b b.size) (h1:1<=a.size) (h2:1<=b.size) (h0:Rk f b 0<=Rk f a 0) (hL:Rk f b (b.size - 1)<=Rk f a (a.size - 1))
  (h:∀ out g,out.toList.Perm (a.toList ++ b.toList)->Cy f out.toList->Q out (jy st g)):wpS (model prog w) A E s (MN a b) Q st:=by
 have hLa:∀ t,t < b.size->Rk f b t<=Rk f a (a.size - 1):=fun t ht=>by
  by_cases c:t=b.size - 1
  ·rw[c]; exact hL
  ·have:=ub t (b.size - 1) ω ω; omega
 have ale:∀ {i t:Nat},i<=t->t < a.size->Rk f a i<=Rk f a t:=fun {i t} h1 h2=>by
  by_cases c:i=t
  ·rw[c]; omega
  ·have:=ua i t ω h2; omega
 have ble:∀ {i t:Nat},i<=t->t < b.size->Rk f b i<=Rk f b t:=fun {i t} h1 h2=>by
  by_cases c:i=t
  ·rw[c]; omega
  ·have:=ub i t ω h2; omega
 refine wpS_bind (wpS_lift (wpAny_rule (And.intro rfl ?_)))
 refine wpS_bind (bC ω fun p hp=>?_)
 dsimp only
 have p0:SIw f a b #[p] 0 1:=by
  have z:SIw f a b #[] 0 0:=⟨by unfold dI; simp,.nil,fun o m=>(by cases m),fun o m=>(by cases m)⟩
  have:=z.sE ub hp fun t _ ht=>by have:=ale (Nat.zero_le t) ht; omega
  exact this
 by_cases hb1:(1 == b.size)=true
 ·rw[if_pos hb1]
  obtain ⟨r,e,q1,q2⟩:=p0.dn ua ub (.inl (by have:1=b.size:=(by simpa using hb1); omega))
  cases e
  exact wpS_pure (h _ (gallopOf st) q1 q2)
 ·rw[if_neg hb1]
  by_cases ha1:(0 + 1 == a.size)=true
  ·rw[if_pos ha1]
   obtain ⟨r,e,q1,q2⟩:=p0.ls ua ub (by simpa using ha1) hLa
   cases e
   exact wpS_pure (h _ (gallopOf st) q1 q2)
  ·rw[if_neg ha1]
   have hb1':1 < b.size:=by have:¬ (1=b.size):=(by simpa using hb1); omega
   have ha1':0 + 1 < a.size:=by have:¬ (0 + 1=a.size):=(by simpa using ha1); omega
   refine wpS_bind (wpS_get ?_)
   refine wpS_bind (wpS_mono (wpS_forRange (I:=fun x c z=>∃ g,z=jy st g/\∃ out i j m,c=(none,out,i,j,m)/\PN f a b out i j/\x<=i + j) (Q:=fun c z=>∃ g,z=jy st g/\oA f a b c.1) ?step ?fin ⟨gallopOf st,rfl,_,_,_,_,rfl,⟨p0,ha1',hb1'⟩,Nat.zero_le _⟩) ?post)
   case post=>
    rintro c z ⟨g,rfl,r,hr,hp,hu⟩
    rw[hr]
    exact wpS_pure (h r g hp hu)
   case fin=>
    rintro c z ⟨g,rfl,out,i,j,m,rfl,⟨_,l1,l2⟩,hx⟩
    exfalso
    omega
   case step=>
    rintro x c z _ hx ⟨g,rfl,out,i,j,m,rfl,hI,hxi⟩
    dsimp only
    refine wpS_bind (wpS_mono (wpS_forRange (I:=fun y c z=>z=jy st g/\∃ out i j ac bc,c=(none,out,i,j,ac,bc)/\PN f a b out i j/\x + y<=i + j) (Q:=fun c z=>z=jy st g/\(oA f a b c.1\/∃ out i j ac bc,c=(none,out,i,j,ac,bc)/\PN f a b out i j/\x + 1<=i + j)) ?step1 ?fin1 ⟨rfl,_,_,_,_,_,rfl,hI,hxi⟩) ?post1)
    case fin1=>
     rintro c z ⟨rfl,out,i,j,ac,bc,rfl,⟨_,l1,l2⟩,hy⟩
     exfalso
     omega
    case step1=>
     rintro y c z _ hy ⟨rfl,out,i,j,ac,bc,rfl,⟨si,l1,l2⟩,hyi⟩
     dsimp only
     refine wpS_bind (bC l2 fun q hq=>?_)
     refine wpS_bind (bC (show i < a.size by omega) fun r hr=>?_)
     refine wpS_bind (O _ _ _ _ hk (hb _ _ hq) (ha _ _ hr) ?_)
     rw[<- bL (f:=f) hq,<- bL (f:=f) hr]
     by_cases o:Rk f b j < Rk f a i
     ·rw[decide_eq_true o]
      refine wpS_bind (bC l2 fun q hq=>?_)
      have s2:=si.sE ub hq fun t t1 t2=>by have:=ale t1 t2; omega
      split
      ·rename_i hj
       exact wpS_pure ⟨rfl,.inl (s2.dn ua ub (.inl (by have:j + 1=b.size:=(by simpa using hj); omega)))⟩
      ·rename_i hj
       have l2':j + 1 < b.size:=by have:¬ (j + 1=b.size):=(by simpa using hj); omega
       split
       ·exact wpS_pure ⟨rfl,.inr ⟨_,_,_,_,_,rfl,⟨s2,l1,l2'⟩,ω⟩⟩
       ·exact wpS_pure ⟨rfl,_,_,_,_,_,rfl,⟨s2,l1,l2'⟩,ω⟩
     ·rw[decide_eq_false o]
      refine wpS_bind (bC (show i < a.size by omega) fun r hr=>?_)
      have s2:=si.lX ua hr fun t t1 t2=>by have:=ble t1 t2; omega
      split
      ·rename_i hj
       exact wpS_pure ⟨rfl,.inl (s2.ls ua ub (by simpa using hj) hLa)⟩
      ·rename_i hj
       have l1':i + 1 + 1 < a.size:=by have:¬ (i + 1 + 1=a.size):=(by simpa using hj); omega
       split
       ·exact wpS_pure ⟨rfl,.inr ⟨_,_,_,_,_,rfl,⟨s2,l1',l2⟩,ω⟩⟩
       ·exact wpS_pure ⟨rfl,_,_,_,_,_,rfl,⟨s2,l1',l2⟩,ω⟩
    case post1=>
     rintro c z ⟨rfl,hc⟩
     rcases hc with ⟨r,hr,hp,hu⟩ | ⟨out,i,j,ac,bc,rfl,hI1,hxi1⟩
     ·rw[hr]
      exact wpS_pure ⟨g,rfl,r,rfl,hp,hu⟩
     ·dsimp only
      refine wpS_bind (wpS_lift (wpAny_rule (And.intro rfl ?_)))
      refine wpS_bind (wpS_mono (wpS_forRange (I:=fun y c z=>∃ g,z=jy st g/\∃ out i j m ac bc,c=(none,out,i,j,m,ac,bc)/\PN f a b out i j/\x + 1<=i + j) (Q:=fun c z=>∃ g,z=jy st g/\(oA f a b c.1\/∃ out i j m ac bc,c=(none,out,i,j,m,ac,bc)/\PN f a b out i j/\x + 1<=i + j)) ?step2 (fun c z ⟨g,hz,hc⟩=>⟨g,hz,.inr hc⟩) ⟨g,rfl,_,_,_,_,_,_,rfl,hI1,hxi1⟩) ?post2)
      case post2=>
       rintro c z ⟨g,rfl,hc⟩
       rcases hc with ⟨r,hr,hp,hu⟩ | ⟨out,i,j,m,ac,bc,rfl,hI1,hxi1⟩
       ·rw[hr]
        exact wpS_pure ⟨g,rfl,r,rfl,hp,hu⟩
       ·refine wpS_bind (wpS_modify ?_)
        exact wpS_pure ⟨m + 1,rfl,_,_,_,_,rfl,hI1,hxi1⟩
      case step2=>
       rintro y c z _ hy ⟨g,rfl,out,i,j,m,ac,bc,rfl,⟨si,l1,l2⟩,hyi⟩
       dsimp only
       by_cases hm:m > 1
       all_goals first | rw[if_pos hm] | rw[if_neg hm]
       all_goals
        refine wpS_bind (wpS_modify ?_)
        refine wpS_bind (bC l2 fun q hq=>?_)
        refine wpS_bind (jE O hk (hb _ _ hq) ha ω ω (fun x y h1 h2=>ua _ _ ω ω) fun k hkn g1 g2=>?_)
        rw[<- bL (f:=f) hq] at g1 g2
        have s1:=si.QF (k:=k) ua fun t t1 t2 t3 u u1 u2=>by
         have:=g1 (t - i) ω
         rw[show i + (t - i)=t by omega] at this
         have:=ble u1 u2
         omega
        have gB:∀ t,i + k<=t->t < a.size->Rk f b j<=Rk f a t:=fun t t1 t2=>by
         have:=g2 (t - i) ω ω
         rwa [show i + (t - i)=t by omega] at this
        dsimp only
        by_cases hk0:k > 0
        ·rw[if_pos hk0]
         by_cases e1:(i + k + 1 == a.size)=true
         ·rw[if_pos e1]
          exact wpS_pure ⟨_,rfl,.inl (s1.ls ua ub (by simpa using e1) hLa)⟩
         ·rw[if_neg e1]
          by_cases e2:(i + k == a.size)=true
          ·rw[if_pos e2]
           exact wpS_pure ⟨_,rfl,.inl (s1.dn ua ub (.inr (by have:i + k=a.size:=(by simpa using e2); omega)))⟩
          ·rw[if_neg e2]
           have l1':i + k + 1 < a.size:=by
            have:¬ (i + k + 1=a.size):=(by simpa using e1)
            have:¬ (i + k=a.size):=(by simpa using e2)
            omega
           refine wpS_bind (bC l2 fun q2 hq2=>?_)
           have s2:=s1.sE ub hq2 gB
           by_cases e3:(j + 1 == b.size)=true
           ·rw[if_pos e3]
            exact wpS_pure ⟨_,rfl,.inl (s2.dn ua ub (.inl (by have:j + 1=b.size:=(by simpa using e3); omega)))⟩
           ·rw[if_neg e3]
            have l2':j + 1 < b.size:=by
             have:¬ (j + 1=b.size):=(by simpa using e3)
             omega
            refine wpS_bind (bC (show i + k < a.size by omega) fun r2 hr2=>?_)
            refine wpS_bind (jE O hk (ha _ _ hr2) hb ω ω (fun x y h1 h2=>ub _ _ ω ω) fun k2 hk2 g3 g4=>?_)
            rw[<- bL (f:=f) hr2] at g3 g4
            have s3:=s2.Hs (k:=k2) ub fun t t1 t2 t3 u u1 u2=>by
             have:=g3 (t - (j + 1)) ω
             rw[show j + 1 + (t - (j + 1))=t by omega] at this
             have:=ale u1 u2
             omega
            have gA:∀ t,j + 1 + k2<=t->t < b.size->Rk f a (i + k)<=Rk f b t:=fun t t1 t2=>by
             have:=g4 (t - (j + 1)) ω ω
             rwa [show j + 1 + (t - (j + 1))=t by omega] at this
            dsimp only
            by_cases k20:k2 > 0
            ·rw[if_pos k20]
             by_cases e4:(j + 1 + k2 == b.size)=true
             ·rw[if_pos e4]
              exact wpS_pure ⟨_,rfl,.inl (s3.dn ua ub (.inl (by have:j + 1 + k2=b.size:=(by simpa using e4); omega)))⟩
             ·rw[if_neg e4]
              have l2'':j + 1 + k2 < b.size:=by
               have:¬ (j + 1 + k2=b.size):=(by simpa using e4)
               omega
              refine wpS_bind (bC (show i + k < a.size by omega) fun r3 hr3=>?_)
              have s4:=s3.lX ua hr3 gA
              by_cases e5:(i + k + 1 + 1 == a.size)=true
              ·rw[if_pos e5]
               exact wpS_pure ⟨_,rfl,.inl (s4.ls ua ub (by simpa using e5) hLa)⟩
              ·rw[if_neg e5]
               have l9:i + k + 1 + 1 < a.size:=by
                have:¬ (i + k + 1 + 1=a.size):=(by simpa using e5)
                omega
               split
               ·exact wpS_pure ⟨_,rfl,.inr ⟨_,_,_,_,_,_,rfl,⟨s4,l9,l2''⟩,ω⟩⟩
               ·exact wpS_pure ⟨_,rfl,_,_,_,_,_,_,rfl,⟨s4,l9,l2''⟩,ω⟩
            ·rw[if_neg k20]
             have e20:k2=0:=by omega
             subst e20
             refine wpS_bind (bC (show i + k < a.size by omega) fun r3 hr3=>?_)
             have s4:=s2.lX ua hr3 gA
             by_cases e5:(i + k + 1 + 1 == a.size)=true
             ·rw[if_pos e5]
              exact wpS_pure ⟨_,rfl,.inl (s4.ls ua ub (by simpa using e5) hLa)⟩
             ·rw[if_neg e5]
              have l9:i + k + 1 + 1 < a.size:=by
               have:¬ (i + k + 1 + 1=a.size):=(by simpa using e5)
               omega
              split
              ·exact wpS_pure ⟨_,rfl,.inr ⟨_,_,_,_,_,_,rfl,⟨s4,l9,l2'⟩,ω⟩⟩
              ·exact wpS_pure ⟨_,rfl,_,_,_,_,_,_,rfl,⟨s4,l9,l2'⟩,ω⟩
        ·rw[if_neg hk0]
         have e00:k=0:=by omega
         subst e00
         refine wpS_bind (bC l2 fun q2 hq2=>?_)
         have s2:=si.sE ub hq2 gB
         by_cases e3:(j + 1 == b.size)=true
         ·rw[if_pos e3]
          exact wpS_pure ⟨_,rfl,.inl (s2.dn ua ub (.inl (by have:j + 1=b.size:=(by simpa using e3); omega)))⟩
         ·rw[if_neg e3]
          have l2':j + 1 < b.size:=by
           have:¬ (j + 1=b.size):=(by simpa using e3)
           omega
          refine wpS_bind (bC (show i < a.size by omega) fun r2 hr2=>?_)
          refine wpS_bind (jE O hk (ha _ _ hr2) hb ω ω (fun x y h1 h2=>ub _ _ ω ω) fun k2 hk2 g3 g4=>?_)
          rw[<- bL (f:=f) hr2] at g3 g4
          have s3:=s2.Hs (k:=k2) ub fun t t1 t2 t3 u u1 u2=>by
           have:=g3 (t - (j + 1)) ω
           rw[show j + 1 + (t - (j + 1))=t by omega] at this
           have:=ale u1 u2
           omega
          have gA:∀ t,j + 1 + k2<=t->t < b.size->Rk f a i<=Rk f b t:=fun t t1 t2=>by
           have:=g4 (t - (j + 1)) ω ω
           rwa [show j + 1 + (t - (j + 1))=t by omega] at this
          dsimp only
          by_cases k20:k2 > 0
          ·rw[if_pos k20]
           by_cases e4:(j + 1 + k2 == b.size)=true
           ·rw[if_pos e4]
            exact wpS_pure ⟨_,rfl,.inl (s3.dn ua ub (.inl (by have:j + 1 + k2=b.size:=(by simpa using e4); omega)))⟩
           ·rw[if_neg e4]
            have l2'':j + 1 + k2 < b.size:=by
             have:¬ (j + 1 + k2=b.size):=(by simpa using e4)
             omega
            refine wpS_bind (bC (show i < a.size by omega) fun r3 hr3=>?_)
            have s4:=s3.lX ua hr3 gA
            by_cases e5:(i + 1 + 1 == a.size)=true
            ·rw[if_pos e5]
             exact wpS_pure ⟨_,rfl,.inl (s4.ls ua ub (by simpa using e5) hLa)⟩
            ·rw[if_neg e5]
             have l9:i + 1 + 1 < a.size:=by
              have:¬ (i + 1 + 1=a.size):=(by simpa using e5)
              omega
             split
             ·exact wpS_pure ⟨_,rfl,.inr ⟨_,_,_,_,_,_,rfl,⟨s4,l9,l2''⟩,ω⟩⟩
             ·exact wpS_pure ⟨_,rfl,_,_,_,_,_,_,rfl,⟨s4,l9,l2''⟩,ω⟩
          ·rw[if_neg k20]
           have e20:k2=0:=by omega
           subst e20
           refine wpS_bind (bC (show i < a.size by omega) fun r3 hr3=>?_)
           have s4:=s2.lX ua hr3 gA
           by_cases e5:(i + 1 + 1 == a.size)=true
           ·rw[if_pos e5]
            exact wpS_pure ⟨_,rfl,.inl (s4.ls ua ub (by simpa using e5) hLa)⟩
           ·rw[if_neg e5]
            have l9:i + 1 + 1 < a.size:=by
             have:¬ (i + 1 + 1=a.size):=(by simpa using e5)
             omega
            split
            ·exact wpS_pure ⟨_,rfl,.inr ⟨_,_,_,_,_,_,rfl,⟨s4,l9,l2'⟩,ω⟩⟩
            ·exact wpS_pure ⟨_,rfl,_,_,_,_,_,_,rfl,⟨s4,l9,l2'⟩,ω⟩
end
end SRT
namespace SRT
open PySem PyProof.Rows
section
variable {κ:SortKind}{prog:Program}{w:World}{s:Shared}{A:Around}{E:Value->Shared->Prop}{a₀:Array Keyed}{f:Keyed->Int}
structure SHw (f:Keyed->Int) (a b out:Array Keyed) (i j:Nat):Prop where
 pm:(gU a b out i j).Perm (a.toList ++ b.toList)
 up:out.toList.Pairwise fun x y=>f y<=f x
 ga:∀ o,o∈out.toList->∀ t,t < i->t < a.size->Rk f a t<=f o
 gb:∀ o,o∈out.toList->∀ t,t < j->t < b.size->Rk f b t<=f o
theorem SHw.QF {a b out:Array Keyed}{i j x:Nat}(h:SHw f a b out i j) (ua:gQ f a a.size) (hx:x<=i) (hlt:∀ t,x<=t->t < i->t < a.size->∀ u,u < j->u < b.size->Rk f b u<=Rk f a t):SHw f a b (out ++ (a.extract x i).reverse) x j:=by
 refine ⟨(TY hx).trans h.pm,?_,fun o m t h1 h2=>?_,fun o m t h1 h2=>?_⟩
 ·rw[Array.toList_append,Array.toList_reverse]
  refine List.pairwise_append.mpr ⟨h.up,List.pairwise_reverse.mpr (fW ua _ _),fun p mp q mq=>?_⟩
  obtain ⟨t,t1,t2,t3,e⟩:=bx (List.mem_reverse.mp mq)
  rw[<- bL (f:=f) e]
  exact h.ga p mp t t2 t3
 ·rw[Array.toList_append,Array.toList_reverse] at m
  rcases List.mem_append.mp m with m | m
  ·exact h.ga o m t ω h2
  ·obtain ⟨u,t1,t2,t3,e⟩:=bx (List.mem_reverse.mp m)
   rw[<- bL (f:=f) e]
   exact ua t u ω t3
 ·rw[Array.toList_append,Array.toList_reverse] at m
  rcases List.mem_append.mp m with m | m
  ·exact h.gb o m t h1 h2
  ·obtain ⟨u,t1,t2,t3,e⟩:=bx (List.mem_reverse.mp m)
   rw[<- bL (f:=f) e]
   exact hlt u t1 t2 t3 t h1 h2
theorem SHw.Hs {a b out:Array Keyed}{i j x:Nat}(h:SHw f a b out i j) (ub:gQ f b b.size) (hx:x<=j) (hlt:∀ t,x<=t->t < j->t < b.size->∀ u,u < i->u < a.size->Rk f a u<=Rk f b t):SHw f a b (out ++ (b.extract x j).reverse) i x:=by
 refine ⟨(TX hx).trans h.pm,?_,fun o m t h1 h2=>?_,fun o m t h1 h2=>?_⟩
 ·rw[Array.toList_append,Array.toList_reverse]
  refine List.pairwise_append.mpr ⟨h.up,List.pairwise_reverse.mpr (fW ub _ _),fun p mp q mq=>?_⟩
  obtain ⟨t,t1,t2,t3,e⟩:=bx (List.mem_reverse.mp mq)
  rw[<- bL (f:=f) e]
  exact h.gb p mp t t2 t3
 ·rw[Array.toList_append,Array.toList_reverse] at m
  rcases List.mem_append.mp m with m | m
  ·exact h.ga o m t h1 h2
  ·obtain ⟨u,t1,t2,t3,e⟩:=bx (List.mem_reverse.mp m)
   rw[<- bL (f:=f) e]
   exact hlt u t1 t2 t3 t h1 h2
 ·rw[Array.toList_append,Array.toList_reverse] at m
  rcases List.mem_append.mp m with m | m
  ·exact h.gb o m t ω h2
  ·obtain ⟨u,t1,t2,t3,e⟩:=bx (List.mem_reverse.mp m)
   rw[<- bL (f:=f) e]
   exact ub t u ω t3
theorem SHw.lX {a b out:Array Keyed}{i j:Nat}{p:Keyed}(h:SHw f a b out i j) (ua:gQ f a a.size) (h1:1<=i) (hp:a[i - 1]?=some p) (hlt:∀ u,u < j->u < b.size->Rk f b u<=Rk f a (i - 1)):SHw f a b (out.push p) (i - 1) j:=by
 have:=h.QF (x:=i - 1) ua ω fun t t1 t2 t3 u u1 u2=>by rw[show t=i - 1 by omega]; exact hlt u u1 u2
 rw[show a.extract (i - 1) i=a.extract (i - 1) (i - 1 + 1) by rw[show i - 1 + 1=i by omega],Gp hp] at this
 exact this
theorem SHw.sE {a b out:Array Keyed}{i j:Nat}{p:Keyed}(h:SHw f a b out i j) (ub:gQ f b b.size) (h1:1<=j) (hp:b[j - 1]?=some p) (hlt:∀ u,u < i->u < a.size->Rk f a u<=Rk f b (j - 1)):SHw f a b (out.push p) i (j - 1):=by
 have:=h.Hs (x:=j - 1) ub ω fun t t1 t2 t3 u u1 u2=>by rw[show t=j - 1 by omega]; exact hlt u u1 u2
 rw[show b.extract (j - 1) j=b.extract (j - 1) (j - 1 + 1) by rw[show j - 1 + 1=j by omega],Gp hp] at this
 exact this
theorem SHw.dn {a b out:Array Keyed}{i j:Nat}(h:SHw f a b out i j) (ua:gQ f a a.size) (ub:gQ f b b.size) (he:i=0\/j=0):oA f a b (some (a.extract 0 i ++ b.extract 0 j ++ out.reverse)):=by
 refine ⟨_,rfl,T3.trans h.pm,?_⟩
 rw[Array.toList_append,Array.toList_append,Array.toList_reverse]
 refine List.pairwise_append.mpr ⟨List.pairwise_append.mpr ⟨fW ua _ _,fW ub _ _,fun x mx y my=>?_⟩,List.pairwise_reverse.mpr h.up,fun x mx y my=>?_⟩
 ·obtain ⟨t,t1,t2,t3,e⟩:=bx mx
  obtain ⟨u,u1,u2,u3,e2⟩:=bx my
  omega
 ·rcases List.mem_append.mp mx with mx | mx
  ·obtain ⟨t,t1,t2,t3,e⟩:=bx mx
   rw[<- bL (f:=f) e]
   exact h.ga y (List.mem_reverse.mp my) t t2 t3
  ·obtain ⟨t,t1,t2,t3,e⟩:=bx mx
   rw[<- bL (f:=f) e]
   exact h.gb y (List.mem_reverse.mp my) t t2 t3
theorem SHw.fs {a b out:Array Keyed}{i j:Nat}(h:SHw f a b out i j) (ua:gQ f a a.size) (ub:gQ f b b.size) (hj:j=1) (h0:∀ t,t < a.size->Rk f b 0<=Rk f a t):oA f a b (some (b.extract 0 j ++ a.extract 0 i ++ out.reverse)):=by
 refine ⟨_,rfl,NQ.trans h.pm,?_⟩
 rw[Array.toList_append,Array.toList_append,Array.toList_reverse]
 refine List.pairwise_append.mpr ⟨List.pairwise_append.mpr ⟨fW ub _ _,fW ua _ _,fun x mx y my=>?_⟩,List.pairwise_reverse.mpr h.up,fun x mx y my=>?_⟩
 ·obtain ⟨t,t1,t2,t3,e⟩:=bx mx
  obtain ⟨u,u1,u2,u3,e2⟩:=bx my
  rw[<- bL (f:=f) e,<- bL (f:=f) e2,show t=0 by omega]
  exact h0 u u3
 ·rcases List.mem_append.mp mx with mx | mx
  ·obtain ⟨t,t1,t2,t3,e⟩:=bx mx
   rw[<- bL (f:=f) e]
   exact h.gb y (List.mem_reverse.mp my) t t2 t3
  ·obtain ⟨t,t1,t2,t3,e⟩:=bx mx
   rw[<- bL (f:=f) e]
   exact h.ga y (List.mem_reverse.mp my) t t2 t3
def P0 (f:Keyed->Int) (a b out:Array Keyed) (i j:Nat):Prop:=SHw f a b out i j/\0 < i/\1 < j/\i<=a.size/\j<=b.size
theorem MP {st:SortSt}{a b:Array Keyed}{Q:Array Keyed->SortSt->Prop}(O:tM κ prog w A E s a₀ f) (hk:kindOf st=κ) (ha:Inn a₀ a) (hb:Inn a₀ b) (ua:gQ f a a.size) (ub:gQ f b b.size) (h1:1<=a.size) (h2:1<=b.size) (h0:Rk f b 0<=Rk f a 0) (hL:Rk f b (b.size - 1)<=Rk f a (a.size - 1))
  (h:∀ out g,out.toList.Perm (a.toList ++ b.toList)->Cy f out.toList->Q out (jy st g)):wpS (model prog w) A E s (MT a b) Q st:=by
 have ale:∀ {i t:Nat},i<=t->t < a.size->Rk f a i<=Rk f a t:=fun {i t} h1 h2=>by
  by_cases c:i=t
  ·rw[c]; omega
  ·have:=ua i t ω h2; omega
 have ble:∀ {i t:Nat},i<=t->t < b.size->Rk f b i<=Rk f b t:=fun {i t} h1 h2=>by
  by_cases c:i=t
  ·rw[c]; omega
  ·have:=ub i t ω h2; omega
 have hF:∀ t,t < a.size->Rk f b 0<=Rk f a t:=fun t ht=>by have:=ale (Nat.zero_le t) ht; omega
 refine wpS_bind (wpS_lift (wpAny_rule (And.intro rfl ?_)))
 refine wpS_bind (bC (show a.size - 1 < a.size by omega) fun p hp=>?_)
 dsimp only
 have p0:SHw f a b #[p] (a.size - 1) b.size:=by
  have z:SHw f a b #[] a.size b.size:=⟨by unfold gU; simp [List.take_of_length_le],.nil,fun o m=>(by cases m),fun o m=>(by cases m)⟩
  exact z.lX ua h1 hp fun u u1 u2=>by have:=ble (i:=u) (t:=b.size - 1) ω ω; omega
 by_cases ha1:(a.size - 1 == 0)=true
 ·rw[if_pos ha1]
  obtain ⟨r,e,q1,q2⟩:=p0.dn ua ub (.inl (by simpa using ha1))
  cases e
  exact wpS_pure (h _ (gallopOf st) q1 q2)
 ·rw[if_neg ha1]
  by_cases hb1:(b.size == 1)=true
  ·rw[if_pos hb1]
   obtain ⟨r,e,q1,q2⟩:=p0.fs ua ub (by simpa using hb1) hF
   cases e
   exact wpS_pure (h _ (gallopOf st) q1 q2)
  ·rw[if_neg hb1]
   have hb1':1 < b.size:=by
    have:¬ (b.size=1):=(by simpa using hb1)
    omega
   have ha1':0 < a.size - 1:=by
    have:¬ (a.size - 1=0):=(by simpa using ha1)
    omega
   refine wpS_bind (wpS_get ?_)
   refine wpS_bind (wpS_mono (wpS_forRange (I:=fun x c z=>∃ g,z=jy st g/\∃ i j out m,c=(none,i,j,out,m)/\P0 f a b out i j/\i + j + x<=a.size + b.size) (Q:=fun c z=>∃ g,z=jy st g/\oA f a b c.1) ?step ?fin ⟨gallopOf st,rfl,_,_,_,_,rfl,⟨p0,ha1',hb1',ω,Nat.le_refl _⟩,ω⟩) ?post)
   case post=>
    rintro c z ⟨g,rfl,r,hr,hp,hu⟩
    rw[hr]
    exact wpS_pure (h r g hp hu)
   case fin=>
    rintro c z ⟨g,rfl,i,j,out,m,rfl,⟨_,l1,l2,_,_⟩,hx⟩
    exfalso
    omega
   case step=>
    rintro x c z _ hx ⟨g,rfl,i,j,out,m,rfl,hI,hxi⟩
    dsimp only
    refine wpS_bind (wpS_mono (wpS_forRange (I:=fun y c z=>z=jy st g/\∃ i j out ac bc,c=(none,i,j,out,ac,bc)/\P0 f a b out i j/\i + j + (x + y)<=a.size + b.size) (Q:=fun c z=>z=jy st g/\(oA f a b c.1\/∃ i j out ac bc,c=(none,i,j,out,ac,bc)/\P0 f a b out i j/\i + j + (x + 1)<=a.size + b.size)) ?step1 ?fin1 ⟨rfl,_,_,_,_,_,rfl,hI,hxi⟩) ?post1)
    case fin1=>
     rintro c z ⟨rfl,i,j,out,ac,bc,rfl,⟨_,l1,l2,_,_⟩,hy⟩
     exfalso
     omega
    case step1=>
     rintro y c z _ hy ⟨rfl,i,j,out,ac,bc,rfl,⟨si,l1,l2,u1,u2⟩,hyi⟩
     dsimp only
     refine wpS_bind (bC (show j - 1 < b.size by omega) fun q hq=>?_)
     refine wpS_bind (bC (show i - 1 < a.size by omega) fun r hr=>?_)
     refine wpS_bind (O _ _ _ _ hk (hb _ _ hq) (ha _ _ hr) ?_)
     rw[<- bL (f:=f) hq,<- bL (f:=f) hr]
     by_cases o:Rk f b (j - 1) < Rk f a (i - 1)
     ·rw[decide_eq_true o]
      refine wpS_bind (bC (show i - 1 < a.size by omega) fun r hr=>?_)
      have s2:=si.lX ua ω hr fun u v1 v2=>by have:=ble (i:=u) (t:=j - 1) ω ω; omega
      split
      ·rename_i hj
       exact wpS_pure ⟨rfl,.inl (s2.dn ua ub (.inl (by simpa using hj)))⟩
      ·rename_i hj
       have l1':0 < i - 1:=by
        have:¬ (i - 1=0):=(by simpa using hj)
        omega
       split
       ·exact wpS_pure ⟨rfl,.inr ⟨_,_,_,_,_,rfl,⟨s2,l1',l2,ω,u2⟩,ω⟩⟩
       ·exact wpS_pure ⟨rfl,_,_,_,_,_,rfl,⟨s2,l1',l2,ω,u2⟩,ω⟩
     ·rw[decide_eq_false o]
      refine wpS_bind (bC (show j - 1 < b.size by omega) fun q hq=>?_)
      have s2:=si.sE ub ω hq fun u v1 v2=>by have:=ale (i:=u) (t:=i - 1) ω ω; omega
      split
      ·rename_i hj
       exact wpS_pure ⟨rfl,.inl (s2.fs ua ub (by simpa using hj) hF)⟩
      ·rename_i hj
       have l2':1 < j - 1:=by
        have:¬ (j - 1=1):=(by simpa using hj)
        omega
       split
       ·exact wpS_pure ⟨rfl,.inr ⟨_,_,_,_,_,rfl,⟨s2,l1,l2',u1,ω⟩,ω⟩⟩
       ·exact wpS_pure ⟨rfl,_,_,_,_,_,rfl,⟨s2,l1,l2',u1,ω⟩,ω⟩
    case post1=>
     rintro c z ⟨rfl,hc⟩
     rcases hc with ⟨r,hr,hp,hu⟩ | ⟨i,j,out,ac,bc,rfl,hI1,hxi1⟩
     ·rw[hr]
      exact wpS_pure ⟨g,rfl,r,rfl,hp,hu⟩
     ·dsimp only
      refine wpS_bind (wpS_lift (wpAny_rule (And.intro rfl ?_)))
      refine wpS_bind (wpS_mono (wpS_forRange (I:=fun y c z=>∃ g,z=jy st g/\∃ i j out m ac bc,c=(none,i,j,out,m,ac,bc)/\P0 f a b out i j/\i + j + (x + 1)<=a.size + b.size) (Q:=fun c z=>∃ g,z=jy st g/\(oA f a b c.1\/∃ i j out m ac bc,c=(none,i,j,out,m,ac,bc)/\P0 f a b out i j/\i + j + (x + 1)<=a.size + b.size)) ?step2 (fun c z ⟨g,hz,hc⟩=>⟨g,hz,.inr hc⟩) ⟨g,rfl,_,_,_,_,_,_,rfl,hI1,hxi1⟩) ?post2)
      case post2=>
       rintro c z ⟨g,rfl,hc⟩
       rcases hc with ⟨r,hr,hp,hu⟩ | ⟨i,j,out,m,ac,bc,rfl,hI1,hxi1⟩
       ·rw[hr]
        exact wpS_pure ⟨g,rfl,r,rfl,hp,hu⟩
       ·refine wpS_bind (wpS_modify ?_)
        exact wpS_pure ⟨m + 1,rfl,_,_,_,_,rfl,hI1,hxi1⟩
      case step2=>
       rintro y c z _ hy ⟨g,rfl,i,j,out,m,ac,bc,rfl,⟨si,l1,l2,u1,u2⟩,hyi⟩
       dsimp only
       by_cases hm:m > 1
       all_goals first | rw[if_pos hm] | rw[if_neg hm]
       all_goals
        refine wpS_bind (wpS_modify ?_)
        refine wpS_bind (bC (show j - 1 < b.size by omega) fun q hq=>?_)
        refine wpS_bind (jE O hk (hb _ _ hq) ha ω ω (fun x y h1 h2=>ua _ _ ω ω) fun x1 hx1 g1 g2=>?_)
        rw[<- bL (f:=f) hq] at g1 g2
        simp only[Nat.zero_add] at g1 g2
        have s1:=si.QF (x:=x1) ua hx1 fun t t1 t2 t3 u v1 v2=>by
         have:=g2 t t1 t2
         have:=ble (i:=u) (t:=j - 1) ω ω
         omega
        have gB:∀ u,u < x1->u < a.size->Rk f a u<=Rk f b (j - 1):=fun u v1 v2=>g1 u v1
        dsimp only
        by_cases hk0:i - x1 > 0
        ·rw[if_pos hk0]
         by_cases e1:(x1 == 0)=true
         ·rw[if_pos e1]
          exact wpS_pure ⟨_,rfl,.inl (s1.dn ua ub (.inl (by simpa using e1)))⟩
         ·rw[if_neg e1]
          have l1':0 < x1:=by
           have:¬ (x1=0):=(by simpa using e1)
           omega
          refine wpS_bind (bC (show j - 1 < b.size by omega) fun q2 hq2=>?_)
          have s2:=s1.sE ub ω hq2 gB
          by_cases e3:(j - 1 == 1)=true
          ·rw[if_pos e3]
           exact wpS_pure ⟨_,rfl,.inl (s2.fs ua ub (by simpa using e3) hF)⟩
          ·rw[if_neg e3]
           have l2':1 < j - 1:=by
            have:¬ (j - 1=1):=(by simpa using e3)
            omega
           refine wpS_bind (bC (show x1 - 1 < a.size by omega) fun r2 hr2=>?_)
           refine wpS_bind (jE O hk (ha _ _ hr2) hb ω ω (fun x y h1 h2=>ub _ _ ω ω) fun x2 hx2 g3 g4=>?_)
           rw[<- bL (f:=f) hr2] at g3 g4
           simp only[Nat.zero_add] at g3 g4
           have s3:=s2.Hs (x:=x2) ub hx2 fun t t1 t2 t3 u v1 v2=>by
            have:=g4 t t1 t2
            have:=ale (i:=u) (t:=x1 - 1) ω ω
            omega
           have gA:∀ u,u < x2->u < b.size->Rk f b u<=Rk f a (x1 - 1):=fun u v1 v2=>g3 u v1
           dsimp only
           by_cases k20:j - 1 - x2 > 0
           ·rw[if_pos k20]
            by_cases e4:(x2 == 1)=true
            ·rw[if_pos e4]
             exact wpS_pure ⟨_,rfl,.inl (s3.fs ua ub (by simpa using e4) hF)⟩
            ·rw[if_neg e4]
             by_cases e6:(x2 == 0)=true
             ·rw[if_pos e6]
              exact wpS_pure ⟨_,rfl,.inl (s3.dn ua ub (.inr (by simpa using e6)))⟩
             ·rw[if_neg e6]
              have l2'':1 < x2:=by
               have:¬ (x2=1):=(by simpa using e4)
               have:¬ (x2=0):=(by simpa using e6)
               omega
              refine wpS_bind (bC (show x1 - 1 < a.size by omega) fun r3 hr3=>?_)
              have s4:=s3.lX ua ω hr3 gA
              by_cases e5:(x1 - 1 == 0)=true
              ·rw[if_pos e5]
               exact wpS_pure ⟨_,rfl,.inl (s4.dn ua ub (.inl (by simpa using e5)))⟩
              ·rw[if_neg e5]
               have l9:0 < x1 - 1:=by
                have:¬ (x1 - 1=0):=(by simpa using e5)
                omega
               split
               ·exact wpS_pure ⟨_,rfl,.inr ⟨_,_,_,_,_,_,rfl,⟨s4,l9,l2'',ω,ω⟩,ω⟩⟩
               ·exact wpS_pure ⟨_,rfl,_,_,_,_,_,_,rfl,⟨s4,l9,l2'',ω,ω⟩,ω⟩
           ·rw[if_neg k20]
            have e20:x2=j - 1:=by omega
            subst e20
            refine wpS_bind (bC (show x1 - 1 < a.size by omega) fun r3 hr3=>?_)
            have s4:=s2.lX ua ω hr3 gA
            by_cases e5:(x1 - 1 == 0)=true
            ·rw[if_pos e5]
             exact wpS_pure ⟨_,rfl,.inl (s4.dn ua ub (.inl (by simpa using e5)))⟩
            ·rw[if_neg e5]
             have l9:0 < x1 - 1:=by
              have:¬ (x1 - 1=0):=(by simpa using e5)
              omega
             split
             ·exact wpS_pure ⟨_,rfl,.inr ⟨_,_,_,_,_,_,rfl,⟨s4,l9,l2',ω,ω⟩,ω⟩⟩
             ·exact wpS_pure ⟨_,rfl,_,_,_,_,_,_,rfl,⟨s4,l9,l2',ω,ω⟩,ω⟩
        ·rw[if_neg hk0]
         have e00:x1=i:=by omega
         subst e00
         refine wpS_bind (bC (show j - 1 < b.size by omega) fun q2 hq2=>?_)
         have s2:=si.sE ub ω hq2 gB
         by_cases e3:(j - 1 == 1)=true
         ·rw[if_pos e3]
          exact wpS_pure ⟨_,rfl,.inl (s2.fs ua ub (by simpa using e3) hF)⟩
         ·rw[if_neg e3]
          have l2':1 < j - 1:=by
           have:¬ (j - 1=1):=(by simpa using e3)
           omega
          refine wpS_bind (bC (show x1 - 1 < a.size by omega) fun r2 hr2=>?_)
          refine wpS_bind (jE O hk (ha _ _ hr2) hb ω ω (fun x y h1 h2=>ub _ _ ω ω) fun x2 hx2 g3 g4=>?_)
          rw[<- bL (f:=f) hr2] at g3 g4
          simp only[Nat.zero_add] at g3 g4
          have s3:=s2.Hs (x:=x2) ub hx2 fun t t1 t2 t3 u v1 v2=>by
           have:=g4 t t1 t2
           have:=ale (i:=u) (t:=x1 - 1) ω ω
           omega
          have gA:∀ u,u < x2->u < b.size->Rk f b u<=Rk f a (x1 - 1):=fun u v1 v2=>g3 u v1
          dsimp only
          by_cases k20:j - 1 - x2 > 0
          ·rw[if_pos k20]
           by_cases e4:(x2 == 1)=true
           ·rw[if_pos e4]
            exact wpS_pure ⟨_,rfl,.inl (s3.fs ua ub (by simpa using e4) hF)⟩
           ·rw[if_neg e4]
            by_cases e6:(x2 == 0)=true
            ·rw[if_pos e6]
             exact wpS_pure ⟨_,rfl,.inl (s3.dn ua ub (.inr (by simpa using e6)))⟩
            ·rw[if_neg e6]
             have l2'':1 < x2:=by
              have:¬ (x2=1):=(by simpa using e4)
              have:¬ (x2=0):=(by simpa using e6)
              omega
             refine wpS_bind (bC (show x1 - 1 < a.size by omega) fun r3 hr3=>?_)
             have s4:=s3.lX ua ω hr3 gA
             by_cases e5:(x1 - 1 == 0)=true
             ·rw[if_pos e5]
              exact wpS_pure ⟨_,rfl,.inl (s4.dn ua ub (.inl (by simpa using e5)))⟩
             ·rw[if_neg e5]
              have l9:0 < x1 - 1:=by
               have:¬ (x1 - 1=0):=(by simpa using e5)
               omega
              split
              ·exact wpS_pure ⟨_,rfl,.inr ⟨_,_,_,_,_,_,rfl,⟨s4,l9,l2'',ω,ω⟩,ω⟩⟩
              ·exact wpS_pure ⟨_,rfl,_,_,_,_,_,_,rfl,⟨s4,l9,l2'',ω,ω⟩,ω⟩
          ·rw[if_neg k20]
           have e20:x2=j - 1:=by omega
           subst e20
           refine wpS_bind (bC (show x1 - 1 < a.size by omega) fun r3 hr3=>?_)
           have s4:=s2.lX ua ω hr3 gA
           by_cases e5:(x1 - 1 == 0)=true
           ·rw[if_pos e5]
            exact wpS_pure ⟨_,rfl,.inl (s4.dn ua ub (.inl (by simpa using e5)))⟩
           ·rw[if_neg e5]
            have l9:0 < x1 - 1:=by
             have:¬ (x1 - 1=0):=(by simpa using e5)
             omega
            split
            ·exact wpS_pure ⟨_,rfl,.inr ⟨_,_,_,_,_,_,rfl,⟨s4,l9,l2',ω,ω⟩,ω⟩⟩
            ·exact wpS_pure ⟨_,rfl,_,_,_,_,_,_,rfl,⟨s4,l9,l2',ω,ω⟩,ω⟩
end
end SRT
namespace SRT
open PySem PyProof.Rows
section
variable {κ:SortKind}{prog:Program}{w:World}{s:Shared}{A:Around}{E:Value->Shared->Prop}{a₀:Array Keyed}{f:Keyed->Int}{pd:Array (Nat×Nat×Nat)}
def cO (f:Keyed->Int) (xs:Array Keyed) (lo hi:Nat):Prop:=∀ i j,lo<=i->i < j->j < hi->Rk f xs i<=Rk f xs j
theorem cO.snoc {xs:Array Keyed}{lo n:Nat}(h:cO f xs lo n) (h1:lo < n) (hl:Rk f xs (n - 1)<=Rk f xs n):cO f xs lo (n + 1):=fun i j hi hij hj=>by
 by_cases e:j=n
 ·subst e
  by_cases e2:i=j - 1
  ·subst e2; exact hl
  ·have:=h i (j - 1) hi ω ω
   omega
 ·exact h i j hi hij ω
theorem cO.at {xs ys:Array Keyed}{lo hi:Nat}(h:cO f xs lo hi) (e:∀ i,lo<=i->i < hi->ys[i]?=xs[i]?):cO f ys lo hi:=fun i j h1 h2 h3=>by
 rw[Rk.at (e i h1 ω),Rk.at (e j ω h3)]
 exact h i j h1 h2 h3
theorem QB.mirror {st:SortSt}(h:QB κ a₀ pd st) (i j d:Nat):QB κ a₀ pd (setArr st (mirror (arrOf st) i j d)):=h.set (mirror_perm _ _ _ _)
theorem Ir {st:SortSt}{i j:Nat}{Q:Option Bool->SortSt->Prop}(O:tM κ prog w A E s a₀ f) (hB:QB κ a₀ pd st) (hi:i < a₀.size) (hj:j < a₀.size)
  (h:Q (some (decide (Rk f (arrOf st) i < Rk f (arrOf st) j))) st):wpS (model prog w) A E s (ltAt' i j) Q st:=by
 have hz:=hB.size
 rw[ltAt'_eq]
 refine wpS_bind (wpS_get ?_)
 refine wpS_bind (bC ω fun p hp=>?_)
 refine wpS_bind (bC ω fun q hq=>?_)
 rw[bL hp,bL hq] at h
 exact O _ _ _ _ hB.kind (hB.inn _ _ hp) (hB.inn _ _ hq) h
structure sV (κ:SortKind) (a₀:Array Keyed) (pd:Array (Nat×Nat×Nat)) (f:Keyed->Int) (lo:Nat) (z0 z:SortSt):Prop where
 b:QB κ a₀ pd z
 o:∀ i,i < lo->(arrOf z)[i]?=(arrOf z0)[i]?
 r:∀ i,Rk f (arrOf z) i=Rk f (arrOf z0) i
theorem sV.rev {z0 z:SortSt}{lo i j:Nat}(h:sV κ a₀ pd f lo z0 z) (hi:lo<=i) (hj:j<=a₀.size) (flat:∀ k,i<=k->k < j->Rk f (arrOf z0) k=Rk f (arrOf z0) (j - 1)):sV κ a₀ pd f lo z0 (setArr z (mirror (arrOf z) i j ((j - i) / 2))):=by
 have hz:=h.b.size
 have mi:=fun k=>getElem?_mirror_all (xs:=arrOf z) (i:=i) (j:=j) ω k
 refine ⟨h.b.mirror _ _ _,fun k hk=>?_,fun k=>?_⟩
 ·have e:=mi k
  rw[if_neg ω] at e
  exact e.trans (h.o k hk)
 ·have e:=mi k
  show Rk f (mirror (arrOf z) i j ((j - i) / 2)) k=_
  by_cases c:i<=k/\k < j
  ·rw[if_pos c] at e
   rw[Rk.at e,h.r,flat _ ω ω,flat k c.1 c.2]
  ·rw[if_neg c] at e
   rw[Rk.at e,h.r]
theorem Uj {st:SortSt}{lo nrem:Nat}{Q:Option Nat->SortSt->Prop}(O:tM κ prog w A E s a₀ f) (hB:QB κ a₀ pd st) (h1:1<=nrem) (hn:lo + nrem<=a₀.size)
  (h:∀ n st',1<=n->n<=nrem->QB κ a₀ pd st'->(∀ i,i < lo->(arrOf st')[i]?=(arrOf st)[i]?)->cO f (arrOf st') lo (lo + n)->Q (some n) st'):wpS (model prog w) A E s (countRun' lo nrem) Q st:=by
 refine wpS_bind (wpS_mono (wpS_forRange (I:=fun x c z=>z=st/\c=(none,x)/\cO f (arrOf st) lo (lo + x)) (Q:=fun c z=>z=st/\∃ n,c=(none,n)/\1<=n/\n<=nrem/\cO f (arrOf st) lo (lo + n)/\(n < nrem->Rk f (arrOf st) (lo + n) < Rk f (arrOf st) (lo + n - 1))) ?_ ?_ ⟨rfl,rfl,fun i j a b c=>by omega⟩) ?_)
 ·rintro x c z h1x hx ⟨rfl,rfl,ha⟩
  dsimp only
  refine wpS_bind (Ir O hB ω ω ?_)
  by_cases e:Rk f (arrOf z) (lo + x) < Rk f (arrOf z) (lo + x - 1)
  ·rw[decide_eq_true e]
   exact wpS_pure ⟨rfl,x,rfl,h1x,ω,ha,fun _=>e⟩
  ·rw[decide_eq_false e]
   exact wpS_pure ⟨rfl,rfl,ha.snoc ω ω⟩
 ·rintro c z ⟨rfl,rfl,ha⟩
  rw[Nat.max_eq_right h1] at ha |-
  exact ⟨rfl,_,rfl,ω,ω,ha,fun q=>by omega⟩
 ·rintro c z0 ⟨rfl,n,rfl,k1,k2,ha,hx⟩
  dsimp only
  by_cases he:(n == nrem)=true
  ·rw[if_pos he]
   exact wpS_pure (h n z0 k1 k2 hB (fun _ _=>rfl) ha)
  ·rw[if_neg he]
   have k3:n < nrem:=by have:¬ (n=nrem):=(by simpa using he); omega
   have z00:sV κ a₀ pd f lo z0 z0:=⟨hB,fun _ _=>rfl,fun _=>rfl⟩
   refine' (fun (tail:∀ z,sV κ a₀ pd f lo z0 z->(∀ i j,lo<=i->i < j->j < lo + (n + 1)->Rk f (arrOf z0) j<=Rk f (arrOf z0) i)->wpS (model prog w) A E s _ Q z)=>?main) ?tail
   case main=>
    by_cases hg:n > 1
    ·rw[if_pos hg]
     refine wpS_bind (Ir O hB ω ω ?_)
     by_cases e:Rk f (arrOf z0) lo < Rk f (arrOf z0) (lo + n - 1)
     ·rw[decide_eq_true e]
      exact wpS_pure (h n z0 k1 k2 hB (fun _ _=>rfl) ha)
     ·rw[decide_eq_false e]
      have fl:∀ k,lo<=k->k < lo + n->Rk f (arrOf z0) k=Rk f (arrOf z0) (lo + n - 1):=fun k a b=>by
       have q1:Rk f (arrOf z0) lo<=Rk f (arrOf z0) k:=by
        by_cases c:lo=k
        ·rw[c]; exact Int.le_refl _
        ·exact ha lo k (Nat.le_refl _) ω b
       have q2:Rk f (arrOf z0) k<=Rk f (arrOf z0) (lo + n - 1):=by
        by_cases c:k=lo + n - 1
        ·rw[c]; exact Int.le_refl _
        ·exact ha k (lo + n - 1) a ω ω
       omega
      apply wpS_bind
      apply wpS_reverse
      refine tail _ (z00.rev (Nat.le_refl _) ω fl) fun i j a b c=>?_
      have q1:=fl i a ω
      by_cases c2:j=lo + n
      ·have:=hx k3
       rw[c2]
       omega
      ·have q2:=fl j ω ω
       omega
    ·rw[if_neg hg]
     refine tail z0 z00 fun i j a b c=>?_
     have e1:n=1:=by omega
     subst e1
     have:i=lo:=by omega
     have:j=lo + 1:=by omega
     subst i
     subst j
     have:=hx k3
     rw[show lo + 1 - 1=lo by omega] at this
     omega
   case tail=>
    intro z hz hd
    refine wpS_bind (wpS_lift (wpAny_rule (And.intro rfl ?_)))
    refine wpS_bind (wpS_mono (wpS_forRange (I:=fun x c z'=>∃ q,sV κ a₀ pd f lo z0 z'/\c=(none,x,q)/\(∀ i j,lo<=i->i < j->j < lo + x->Rk f (arrOf z0) j<=Rk f (arrOf z0) i)/\q + 1<=x/\∀ k,lo + x - (q + 1)<=k->k < lo + x->Rk f (arrOf z0) k=Rk f (arrOf z0) (lo + x - 1))
     (Q:=fun c z'=>∃ x q,sV κ a₀ pd f lo z0 z'/\c=(none,x,q)/\2<=x/\x<=nrem/\(∀ i j,lo<=i->i < j->j < lo + x->Rk f (arrOf z0) j<=Rk f (arrOf z0) i)/\q + 1<=x/\∀ k,lo + x - (q + 1)<=k->k < lo + x->Rk f (arrOf z0) k=Rk f (arrOf z0) (lo + x - 1)) ?_ ?_ ⟨0,hz,rfl,hd,ω,fun k a b=>by rw[show k=lo + (n + 1) - 1 by omega]⟩) ?_)
    ·rintro x c z' h2x hx2 ⟨q,hZ,rfl,hD,hq1,hq2⟩
     dsimp only
     refine wpS_bind (Ir O hZ.b ω ω ?_)
     rw[hZ.r,hZ.r]
     have hD1:Rk f (arrOf z0) (lo + x)<=Rk f (arrOf z0) (lo + x - 1)->∀ i j,lo<=i->i < j->j < lo + (x + 1)->Rk f (arrOf z0) j<=Rk f (arrOf z0) i:=fun e i j a b c=>by
      by_cases ej:j=lo + x
      ·subst ej
       by_cases ei:i=lo + x - 1
       ·rw[ei]; exact e
       ·have:=hD i (lo + x - 1) a ω ω
        omega
      ·exact hD i j a b ω
     by_cases e:Rk f (arrOf z0) (lo + x) < Rk f (arrOf z0) (lo + x - 1)
     ·rw[decide_eq_true e]
      dsimp only
      rw[if_pos rfl]
      have one:∀ k,lo + (x + 1) - (0 + 1)<=k->k < lo + (x + 1)->Rk f (arrOf z0) k=Rk f (arrOf z0) (lo + (x + 1) - 1):=fun k a b=>by rw[show k=lo + (x + 1) - 1 by omega]
      by_cases hq:q > 0
      ·rw[if_pos hq]
       apply wpS_bind
       apply wpS_reverse
       exact wpS_pure ⟨0,hZ.rev ω ω hq2,rfl,hD1 ω,ω,one⟩
      ·rw[if_neg hq]
       exact wpS_pure ⟨0,hZ,rfl,hD1 ω,ω,one⟩
     ·rw[decide_eq_false e]
      dsimp only
      rw[if_neg (Bool.false_ne_true)]
      refine wpS_bind (Ir O hZ.b ω ω ?_)
      rw[hZ.r,hZ.r]
      by_cases e2:Rk f (arrOf z0) (lo + x - 1) < Rk f (arrOf z0) (lo + x)
      ·rw[decide_eq_true e2]
       exact wpS_pure ⟨x,q,hZ,rfl,ω,ω,hD,hq1,hq2⟩
      ·rw[decide_eq_false e2]
       refine wpS_pure ⟨q + 1,hZ,rfl,hD1 ω,ω,fun k a b=>?_⟩
       rw[show lo + (x + 1) - 1=lo + x by omega]
       by_cases c:k=lo + x
       ·rw[c]
       ·have:=hq2 k ω ω
        omega
    ·rintro c z' ⟨q,hZ,rfl,hD,hq1,hq2⟩
     rw[Nat.max_eq_right ω] at hD hq1 hq2 |-
     exact ⟨_,q,hZ,rfl,ω,Nat.le_refl _,hD,hq1,hq2⟩
    ·rintro c z' ⟨n,q,hZ,rfl,q1,q2,hD,hq1,hq2⟩
     dsimp only
     refine' (fun (tail2:∀ z',sV κ a₀ pd f lo z0 z'->wpS (model prog w) A E s _ Q z')=>?main2) ?tail2
     case main2=>
      by_cases hq:q > 0
      ·rw[if_pos hq]
       apply wpS_bind
       apply wpS_reverse
       exact tail2 _ (hZ.rev ω ω hq2)
      ·rw[if_neg hq]
       exact tail2 _ hZ
     case tail2=>
      intro z' hZ
      have hz:=hZ.b.size
      apply wpS_bind
      apply wpS_reverse
      have hB':QB κ a₀ pd (setArr z' (mirror (arrOf z') lo (lo + n) ((lo + n - lo) / 2))):=hZ.b.mirror _ _ _
      have mi:=fun k=>getElem?_mirror_all (xs:=arrOf z') (i:=lo) (j:=lo + n) ω k
      have ha':cO f (arrOf (setArr z' (mirror (arrOf z') lo (lo + n) ((lo + n - lo) / 2)))) lo (lo + n):=fun i j a b c=>by
       have e1:=mi i
       have e2:=mi j
       rw[if_pos ⟨a,ω⟩] at e1
       rw[if_pos ⟨ω,c⟩] at e2
       show Rk f (mirror (arrOf z') lo (lo + n) ((lo + n - lo) / 2)) i<=Rk f (mirror (arrOf z') lo (lo + n) ((lo + n - lo) / 2)) j
       rw[Rk.at e1,Rk.at e2,hZ.r,hZ.r]
       exact hD _ _ ω ω ω
      have hsame:∀ i,i < lo->(arrOf (setArr z' (mirror (arrOf z') lo (lo + n) ((lo + n - lo) / 2))))[i]?=(arrOf z0)[i]?:=fun i hi=>by
       have e1:=mi i
       rw[if_neg ω] at e1
       exact e1.trans (hZ.o i hi)
      generalize setArr z' (mirror (arrOf z') lo (lo + n) ((lo + n - lo) / 2))=st2 at hB' ha' hsame |-
      refine wpS_bind (wpS_mono (wpS_forRange (I:=fun x c z=>z=st2/\c=(none,x)/\cO f (arrOf st2) lo (lo + x)) (Q:=fun c z=>z=st2/\∃ n,c=(none,n)/\1<=n/\n<=nrem/\cO f (arrOf st2) lo (lo + n)) ?_ ?_ ⟨rfl,rfl,ha'⟩) ?_)
      ·rintro x c z h1x hx ⟨rfl,rfl,ha⟩
       dsimp only
       refine wpS_bind (Ir O hB' ω ω ?_)
       by_cases e:Rk f (arrOf z) (lo + x) < Rk f (arrOf z) (lo + x - 1)
       ·rw[decide_eq_true e]
        exact wpS_pure ⟨rfl,x,rfl,ω,ω,ha⟩
       ·rw[decide_eq_false e]
        exact wpS_pure ⟨rfl,rfl,ha.snoc ω ω⟩
      ·rintro c z ⟨rfl,rfl,ha⟩
       rw[Nat.max_eq_right ω] at ha |-
       exact ⟨rfl,_,rfl,ω,Nat.le_refl _,ha⟩
      ·rintro c z ⟨rfl,n,rfl,k1,k2,ha⟩
       exact wpS_pure (h n z k1 k2 hB' hsame ha)
theorem zB {xs:Array Keyed}{K L lo:Nat}(h:cO f xs lo K) (hK:K < xs.size) (hL:lo<=L) (hL2:L<=K) (h1:∀ i,lo<=i->i < L->Rk f xs i<=Rk f xs K) (h2:∀ i,L<=i->i < K->Rk f xs K<=Rk f xs i):cO f (bubble xs K (K - L)) lo (K + 1):=by
 have g:∀ i,Rk f (bubble xs K (K - L)) i=if i=L then Rk f xs K else if L < i/\i<=K then Rk f xs (i - 1) else Rk f xs i:=fun i=>by
  have e:=getElem?_bubble hK (K - L) ω i
  rw[show K - (K - L)=L by omega] at e
  split
  ·rename_i c
   rw[if_pos c] at e
   exact Rk.at e
  ·rename_i c
   rw[if_neg c] at e
   split
   ·rename_i c2
    rw[if_pos c2] at e
    exact Rk.at e
   ·rename_i c2
    rw[if_neg c2] at e
    exact Rk.at e
 intro i j hlo hij hj
 rw[g i,g j]
 by_cases a1:i=L
 ·rw[if_pos a1,if_neg ω,if_pos ω]
  exact h2 _ ω ω
 ·rw[if_neg a1]
  by_cases a2:L < i/\i<=K
  ·rw[if_pos a2,if_neg ω,if_pos ω]
   exact h _ _ ω ω ω
  ·rw[if_neg a2]
   by_cases b1:j=L
   ·rw[if_pos b1]
    exact h1 _ hlo ω
   ·rw[if_neg b1]
    by_cases b2:L < j/\j<=K
    ·rw[if_pos b2]
     by_cases c:i=j - 1
     ·omega
     ·exact h _ _ hlo ω ω
    ·rw[if_neg b2]
     exact h _ _ hlo ω ω
theorem YX {st:SortSt}{lo n ok:Nat}{Q:Bool->SortSt->Prop}(O:tM κ prog w A E s a₀ f) (hB:QB κ a₀ pd st) (hn:lo + n<=a₀.size) (hok:1<=ok) (hon:ok<=n) (ha:cO f (arrOf st) lo (lo + ok))
  (h:∀ st',QB κ a₀ pd st'->(∀ i,i < lo->(arrOf st')[i]?=(arrOf st)[i]?)->cO f (arrOf st') lo (lo + n)->Q true st'):wpS (model prog w) A E s (binarySort' lo n ok) Q st:=by
 have hm:max ok 1=ok:=by omega
 refine wpS_bind (wpS_mono (wpS_forRange (I:=fun x c z=>QB κ a₀ pd z/\c=(none,())/\(∀ i,i < lo->(arrOf z)[i]?=(arrOf st)[i]?)/\cO f (arrOf z) lo (lo + x)) (Q:=fun c z=>QB κ a₀ pd z/\c=(none,())/\(∀ i,i < lo->(arrOf z)[i]?=(arrOf st)[i]?)/\cO f (arrOf z) lo (lo + n)) ?_ (fun c z hh=>by rw[hm,Nat.max_eq_right hon] at hh; exact hh) ⟨hB,rfl,fun _ _=>rfl,by rw[hm]; exact ha⟩) ?_)
 ·rintro k c z hk1 hk ⟨hz,rfl,hsm,hk2⟩
  dsimp only
  have hsz:=hz.size
  refine wpS_bind (wpS_mono (wpS_forRange (I:=fun x c z'=>z'=z/\∃ l r,c=(none,l,r)/\l<=r/\r<=k/\r - l<=k - x/\(∀ i,lo<=i->i < lo + l->Rk f (arrOf z) i<=Rk f (arrOf z) (lo + k))/\(∀ i,lo + r<=i->i < lo + k->Rk f (arrOf z) (lo + k)<=Rk f (arrOf z) i)) (Q:=fun c z'=>z'=z/\∃ l,c=(none,l,l)/\l<=k/\(∀ i,lo<=i->i < lo + l->Rk f (arrOf z) i<=Rk f (arrOf z) (lo + k))/\(∀ i,lo + l<=i->i < lo + k->Rk f (arrOf z) (lo + k)<=Rk f (arrOf z) i)) ?_ ?_ ⟨rfl,0,k,rfl,Nat.zero_le _,Nat.le_refl _,ω,fun i a b=>by omega,fun i a b=>by omega⟩) ?_)
  ·rintro x c z' _ hx ⟨rfl,l,r,rfl,q1,q2,q3,q4,q5⟩
   dsimp only
   by_cases hl:l ≥ r
   ·rw[if_pos hl]
    have:l=r:=by omega
    subst this
    exact wpS_pure ⟨rfl,l,rfl,q2,q4,q5⟩
   ·rw[if_neg hl]
    refine wpS_bind (Ir O hz ω ω ?_)
    by_cases e:Rk f (arrOf z') (lo + k) < Rk f (arrOf z') (lo + (l + r) / 2)
    ·rw[decide_eq_true e]
     refine wpS_pure ⟨rfl,l,(l + r) / 2,rfl,ω,ω,ω,q4,fun i h1 h2=>?_⟩
     by_cases c:i=lo + (l + r) / 2
     ·rw[c]
      exact Int.le_of_lt e
     ·have:=hk2 (lo + (l + r) / 2) i ω ω h2
      omega
    ·rw[decide_eq_false e]
     refine wpS_pure ⟨rfl,(l + r) / 2 + 1,r,rfl,ω,q2,ω,fun i h0 h1=>?_,q5⟩
     by_cases c:i=lo + (l + r) / 2
     ·rw[c]
      omega
     ·have:=hk2 i (lo + (l + r) / 2) h0 ω ω
      omega
  ·rintro c z' ⟨rfl,l,r,rfl,q1,q2,q3,q4,q5⟩
   have:l=r:=by omega
   subst this
   exact ⟨rfl,l,rfl,q2,q4,q5⟩
  ·rintro c z' ⟨rfl,l,rfl,q2,q4,q5⟩
   dsimp only
   refine wpS_bind (wpS_modify (wpS_pure ⟨hz.set (bubble_perm _ _ _),rfl,fun i hi=>?_,?_⟩))
   ·have e:=getElem?_bubble (xs:=arrOf z') (src:=lo + k) ω (lo + k - (lo + l)) ω i
    rw[if_neg ω,if_neg ω] at e
    exact e.trans (hsm i hi)
   ·exact zB (xs:=arrOf z') (K:=lo + k) (L:=lo + l) hk2 (show lo + k < (arrOf z').size by omega) ω ω q4 q5
 ·rintro c z ⟨hz,rfl,hsm,hk⟩
  exact wpS_pure (h z hz hsm hk)
end
end SRT
namespace SRT
open PySem PyProof.Rows
section
variable {κ:SortKind}{prog:Program}{w:World}{s:Shared}{A:Around}{E:Value->Shared->Prop}{a₀:Array Keyed}{f:Keyed->Int}{pd:Array (Nat×Nat×Nat)}
theorem wW {st:SortSt}{Q:Bool->SortSt->Prop}{pre post:List (Nat×Nat×Nat)}{sa na pw sb nb pv:Nat}(O:tM κ prog w A E s a₀ f) (hB:QB κ a₀ pd st)
  (hp:(pendingOf st).toList=pre ++ (sa,na,pw) :: (sb,nb,pv) :: post) (hs:sb=sa + na) (ha:1<=na) (hb:1<=nb) (he:sb + nb<=a₀.size) (ua:cO f (arrOf st) sa sb) (ub:cO f (arrOf st) sb (sb + nb))
  (h:∀ st',QB κ a₀ (pendingOf st') st'->(pendingOf st').toList=pre ++ (sa,na + nb,pw) :: post->(∀ i,i < sa\/sb + nb<=i->(arrOf st')[i]?=(arrOf st)[i]?)->cO f (arrOf st') sa (sb + nb)->Q true st'):wpS (model prog w) A E s (mergeAt' pre.length) Q st:=by
 have hz:=hB.size
 have hI:=hB.inn
 refine wpS_bind (wpS_get ?_)
 have e1:(pendingOf st)[pre.length]?=some (sa,na,pw):=by rw[<- Array.getElem?_toList,hp]; simp
 have e2:(pendingOf st)[pre.length + 1]?=some (sb,nb,pv):=by rw[<- Array.getElem?_toList,hp]; simp
 have e3:(((pendingOf st).setIfInBounds pre.length (sa,na + nb,pw)).eraseIdxIfInBounds (pre.length + 1)).toList=pre ++ (sa,na + nb,pw) :: post:=by
  simp [hp,List.set_append_right,List.eraseIdx_append_of_length_le]
 dsimp only [pendingOf] at e1 e2
 dsimp only
 rw[e1,e2]
 dsimp only
 refine wpS_bind (Qd ?_)
 refine wpS_bind (bC (show sb < (arrOf st).size by omega) fun q hq=>?_)
 refine wpS_bind (jE O hB.kind (hI _ _ hq) hI (show sa + na<=(arrOf st).size by omega) (show 0 < na by omega) (fun i j h1 h2=>ua _ _ ω ω ω) fun k hk g1 g2=>?_)
 rw[<- bL (f:=f) hq] at g1 g2
 have g1':∀ i,sa<=i->i < sa + k->Rk f (arrOf st) i<=Rk f (arrOf st) sb:=fun i h1 h2=>by
  have:=g1 (i - sa) ω
  rwa [show sa + (i - sa)=i by omega] at this
 have ble:∀ {i t:Nat},sb<=i->i<=t->t < sb + nb->Rk f (arrOf st) i<=Rk f (arrOf st) t:=fun {i t} h0 h1 h2=>by
  by_cases c:i=t
  ·rw[c]; omega
  ·have:=ub i t h0 ω h2; omega
 have ale:∀ {i t:Nat},sa<=i->i<=t->t < sb->Rk f (arrOf st) i<=Rk f (arrOf st) t:=fun {i t} h0 h1 h2=>by
  by_cases c:i=t
  ·rw[c]; omega
  ·have:=ua i t h0 ω h2; omega
 dsimp only
 by_cases hk0:(na - k == 0)=true
 ·rw[if_pos hk0]
  have hk1:k=na:=by have:na - k=0:=(by simpa using hk0); omega
  refine wpS_pure (h _ ⟨hB.kind,hB.perm,hB.fail,rfl⟩ e3 (fun _ _=>rfl) fun i j h1 h2 h3=>?_)
  show Rk f (arrOf st) i<=Rk f (arrOf st) j
  by_cases c1:j < sb
  ·exact ua i j h1 h2 c1
  ·by_cases c2:sb<=i
   ·exact ub i j c2 h2 h3
   ·have:=g1' i h1 ω
    have:=ble (i:=sb) (t:=j) (Nat.le_refl _) ω h3
    omega
 ·rw[if_neg hk0]
  have hk1:k < na:=by have:¬ (na - k=0):=(by simpa using hk0); omega
  refine wpS_bind (bC (show sa + k + (na - k) - 1 < (arrOf st).size by omega) fun q2 hq2=>?_)
  have hl1:sa + k + (na - k) - 1=sb - 1:=by omega
  refine wpS_bind (jE O hB.kind (hI _ _ hq2) hI (show sb + nb<=(arrOf st).size by omega) (show nb - 1 < nb by omega) (fun i j h1 h2=>ub _ _ ω ω ω) fun m hm g3 g4=>?_)
  rw[<- bL (f:=f) hq2,hl1] at g3 g4
  have g4':∀ i,sb + m<=i->i < sb + nb->Rk f (arrOf st) (sb - 1)<=Rk f (arrOf st) i:=fun i h1 h2=>by
   have:=g4 (i - sb) ω ω
   rwa [show sb + (i - sb)=i by omega] at this
  dsimp only
  by_cases hm0:(m == 0)=true
  ·rw[if_pos hm0]
   have hm1:m=0:=by simpa using hm0
   refine wpS_pure (h _ ⟨hB.kind,hB.perm,hB.fail,rfl⟩ e3 (fun _ _=>rfl) fun i j h1 h2 h3=>?_)
   show Rk f (arrOf st) i<=Rk f (arrOf st) j
   by_cases c1:j < sb
   ·exact ua i j h1 h2 c1
   ·by_cases c2:sb<=i
    ·exact ub i j c2 h2 h3
    ·have:=g4' j ω h3
     have:=ale (i:=i) (t:=sb - 1) h1 ω ω
     omega
  ·rw[if_neg hm0]
   have hm1:0 < m:=by have:¬ (m=0):=(by simpa using hm0); omega
   have zx:((arrOf st).extract (sa + k) sb).size=sb - (sa + k):=by rw[Array.size_extract]; omega
   have zy:((arrOf st).extract sb (sb + m)).size=m:=by rw[Array.size_extract]; omega
   have rx:∀ i,i < sb - (sa + k)->Rk f ((arrOf st).extract (sa + k) sb) i=Rk f (arrOf st) (sa + k + i):=fun i hi=>Rk.at (by rw[Array.getElem?_extract,if_pos ω])
   have ry:∀ i,i < m->Rk f ((arrOf st).extract sb (sb + m)) i=Rk f (arrOf st) (sb + i):=fun i hi=>Rk.at (by rw[Array.getElem?_extract,if_pos ω])
   have ix:∀ x y,Inn a₀ ((arrOf st).extract x y):=fun x y i p e=>by
    rw[Array.getElem?_extract] at e
    split at e
    ·exact hI _ p e
    ·cases e
   have fin:∀ (out:Array Keyed) (z:SortSt),out.toList.Perm (((arrOf st).extract (sa + k) sb).toList ++ ((arrOf st).extract sb (sb + m)).toList)->Cy f out.toList->kindOf z=κ->failedOf z=none->(pendingOf z).toList=pre ++ (sa,na + nb,pw) :: post->arrOf z=out.toList.zipIdx.foldl (fun a (x:Keyed×Nat)=>a.setIfInBounds (sa + k + x.2) x.1) (arrOf st)->Q true z:=by
    intro out z ho hu kz fz pz az
    have zo:out.size=sb - (sa + k) + m:=by
     have:=ho.length_eq
     rw[List.length_append] at this
     simp only[Array.length_toList] at this
     omega
    have get:∀ t,(arrOf z)[t]?=if t < sa + k then (arrOf st)[t]? else if t < sb + m then out[t - (sa + k)]? else (arrOf st)[t]?:=fun t=>by
     rw[az]
     exact Rn ω ω t
    have uo:=Qh hu
    have bnd:∀ t,t < out.size->(∃ u,sa + k<=u/\u < sb + m/\Rk f out t=Rk f (arrOf st) u):=fun t ht=>by
     have e:=getElem?_pos out t ht
     have mem:out[t]∈out.toList:=by simp
     rw[bL e]
     rcases List.mem_append.mp (ho.mem_iff.mp mem) with mm | mm
     ·obtain ⟨u,u1,u2,u3,eu⟩:=bx mm
      exact ⟨u,u1,ω,(bL eu).symm⟩
     ·obtain ⟨u,u1,u2,u3,eu⟩:=bx mm
      exact ⟨u,ω,u2,(bL eu).symm⟩
    have lows:∀ i u,sa<=i->i < sa + k->sa + k<=u->u < sb + nb->Rk f (arrOf st) i<=Rk f (arrOf st) u:=fun i u h1 h2 h3 h4=>by
     by_cases c:u < sb
     ·exact ua i u h1 ω c
     ·have:=g1' i h1 h2
      have:=ble (i:=sb) (t:=u) (Nat.le_refl _) ω h4
      omega
    have highs:∀ u j,sa<=u->u < sb + m->sb + m<=j->j < sb + nb->Rk f (arrOf st) u<=Rk f (arrOf st) j:=fun u j h1 h2 h3 h4=>by
     by_cases c:u < sb
     ·have:=g4' j h3 h4
      have:=ale (i:=u) (t:=sb - 1) h1 ω ω
      omega
     ·exact ub u j ω ω h4
    refine h z ⟨kz,?_,fz,rfl⟩ pz (fun i hi=>?_) fun i j h1 h2 h3=>?_
    ·rw[az]
     exact (Lq (a:=arrOf st) ω (Nat.le_add_right _ _) (show sb + m<=(arrOf st).size by omega) ho).trans hB.perm
    ·rw[get]
     split
     ·rfl
     ·rw[if_neg ω]
    ·by_cases ci:i < sa + k
     ·have ei:=get i
      rw[if_pos ci] at ei
      rw[Rk.at ei]
      by_cases cj:j < sa + k
      ·have ej:=get j
       rw[if_pos cj] at ej
       rw[Rk.at ej]
       exact ua i j h1 h2 ω
      ·by_cases cj2:j < sb + m
       ·have ej:=get j
        rw[if_neg cj,if_pos cj2] at ej
        rw[Rk.at ej]
        obtain ⟨u,u1,u2,eu⟩:=bnd (j - (sa + k)) ω
        rw[eu]
        exact lows i u h1 ci u1 ω
       ·have ej:=get j
        rw[if_neg cj,if_neg cj2] at ej
        rw[Rk.at ej]
        exact lows i j h1 ci ω h3
     ·by_cases ci2:i < sb + m
      ·have ei:=get i
       rw[if_neg ci,if_pos ci2] at ei
       rw[Rk.at ei]
       by_cases cj2:j < sb + m
       ·have ej:=get j
        rw[if_neg ω,if_pos cj2] at ej
        rw[Rk.at ej]
        exact uo _ _ ω ω
       ·have ej:=get j
        rw[if_neg ω,if_neg cj2] at ej
        rw[Rk.at ej]
        obtain ⟨u,u1,u2,eu⟩:=bnd (i - (sa + k)) ω
        rw[eu]
        exact highs u j ω u2 ω h3
      ·have ei:=get i
       rw[if_neg ci,if_neg ci2] at ei
       have ej:=get j
       rw[if_neg ω,if_neg ω] at ej
       rw[Rk.at ei,Rk.at ej]
       exact ub i j ω h2 h3
   have cux:gQ f ((arrOf st).extract (sa + k) sb) ((arrOf st).extract (sa + k) sb).size:=fun i j h1 h2=>by
    rw[zx] at h2
    rw[rx i ω,rx j h2]
    exact ua _ _ ω ω ω
   have cuy:gQ f ((arrOf st).extract sb (sb + m)) ((arrOf st).extract sb (sb + m)).size:=fun i j h1 h2=>by
    rw[zy] at h2
    rw[ry i ω,ry j h2]
    exact ub _ _ ω ω ω
   have c0:Rk f ((arrOf st).extract sb (sb + m)) 0<=Rk f ((arrOf st).extract (sa + k) sb) 0:=by
    rw[ry 0 hm1,rx 0 ω]
    exact g2 k (Nat.le_refl _) hk1
   have cL:Rk f ((arrOf st).extract sb (sb + m)) (((arrOf st).extract sb (sb + m)).size - 1)<=Rk f ((arrOf st).extract (sa + k) sb) (((arrOf st).extract (sa + k) sb).size - 1):=by
    rw[zx,zy,ry (m - 1) ω,rx _ ω,show sa + k + (sb - (sa + k) - 1)=sb - 1 by omega]
    exact g3 (m - 1) ω
   have l1:1<=((arrOf st).extract (sa + k) sb).size:=by omega
   have l2:1<=((arrOf st).extract sb (sb + m)).size:=by omega
   by_cases hle:na - k<=m
   ·rw[if_pos hle]
    refine wpS_bind (MK O hB.kind (ix _ _) (ix _ _) cux cuy l1 l2 c0 cL fun out g ho hu=>?_)
    exact wpS_bind (wpS_modify (wpS_bind (wpS_get (wC (by show (failedOf st).isNone=true; rw[hB.fail]; rfl) (fin out _ ho hu hB.kind hB.fail e3 rfl)))))
   ·rw[if_neg hle]
    refine wpS_bind (MP O hB.kind (ix _ _) (ix _ _) cux cuy l1 l2 c0 cL fun out g ho hu=>?_)
    exact wpS_bind (wpS_modify (wpS_bind (wpS_get (wC (by show (failedOf st).isNone=true; rw[hB.fail]; rfl) (fin out _ ho hu hB.kind hB.fail e3 rfl)))))
structure QCw (κ:SortKind) (a₀:Array Keyed) (f:Keyed->Int) (hi:Nat) (st:SortSt):Prop where
 b:QB κ a₀ (pendingOf st) st
 c:Chain (pendingOf st).toList 0 hi
 u:∀ r,r∈(pendingOf st).toList->cO f (arrOf st) r.1 (r.1 + r.2.1)
theorem M4 {st:SortSt}{i hi:Nat}{Q:Bool->SortSt->Prop}(O:tM κ prog w A E s a₀ f) (hB:QCw κ a₀ f hi st) (hh:hi<=a₀.size) (h2:i + 1 < (pendingOf st).size)
  (h:∀ st',QCw κ a₀ f hi st'->(pendingOf st').size + 1=(pendingOf st).size->Q true st'):wpS (model prog w) A E s (mergeAt' i) Q st:=by
 obtain ⟨pre,⟨sa,na,pw⟩,⟨sb,nb,pv⟩,post,e,hl⟩:=XC (pendingOf st).toList i (by simpa using h2)
 have hc:=hB.c
 have hu:=hB.u
 rw[e] at hc hu
 obtain ⟨k1,k2,k3,k4,k5⟩:=hc.two
 obtain ⟨o1,o2⟩:=hc.parts
 subst hl
 have ua:=hu (sa,na,pw) (by simp)
 have ub:=hu (sb,nb,pv) (by simp)
 replace ua:cO f (arrOf st) sa (sa + na):=ua
 refine wW O hB.b e k1 k2 k3 ω (by rw[k1]; exact ua) ub fun st' hB' hp hsm hup=>h st' ⟨hB',by rw[hp]; exact k5,fun r m=>?_⟩ ?_
 ·rw[hp] at m
  rcases List.mem_append.mp m with m | m
  ·refine (hu r (List.mem_append_left _ m)).at fun x _ hx=>hsm x (.inl ?_)
   have:=o1 r m
   omega
  ·rcases List.mem_cons.mp m with rfl | m
   ·show cO f (arrOf st') sa (sa + (na + nb))
    rw[show sa + (na + nb)=sb + nb by omega]
    exact hup
   ·refine (hu r (List.mem_append_right _ (List.mem_cons_of_mem _ (List.mem_cons_of_mem _ m)))).at fun x hx _=>hsm x (.inr ?_)
    have:=o2 r m
    omega
 ·rw[<- Array.length_toList,<- Array.length_toList,hp,e]
  simp
  omega
theorem QCw.Ah {st:SortSt}{hi pw:Nat}(h:QCw κ a₀ f hi st):QCw κ a₀ f hi (setPending st ((pendingOf st).modify ((pendingOf st).size - 1) fun (x,len,_)=>(x,len,pw))):=by
 have key:∃ l,((pendingOf st).modify ((pendingOf st).size - 1) fun (x,len,_)=>(x,len,pw)).toList=l/\Chain l 0 hi/\∀ r,r∈l->cO f (arrOf st) r.1 (r.1 + r.2.1):=by
  have hc:=h.c
  have hu:=h.u
  by_cases he:(pendingOf st).toList=[]
  ·have:pendingOf st=#[]:=by simpa using he
   rw[this] at hc hu |-
   exact ⟨[],by simp,by simpa using hc,fun r m=>(by cases m)⟩
  ·obtain ⟨t,p,n,v,e⟩:=Qu _ he
   have e2:pendingOf st=(t ++ [(p,n,v)]).toArray:=by rw[<- e]
   rw[e] at hc hu
   rw[e2]
   refine ⟨t ++ [(p,n,pw)],by simp [sO],hc.Ah,fun r m=>?_⟩
   rcases List.mem_append.mp m with m | m
   ·exact hu r (List.mem_append_left _ m)
   ·rw[List.mem_singleton.mp m]
    exact hu (p,n,v) (by simp)
 obtain ⟨l,e,c,u⟩:=key
 exact ⟨⟨h.b.kind,h.b.perm,h.b.fail,rfl⟩,by show Chain ((pendingOf st).modify ((pendingOf st).size - 1) fun (x,len,_)=>(x,len,pw)).toList 0 hi; rw[e]; exact c,fun r m=>u r (by rw[<- e]; exact m)⟩
theorem QCw.push {st:SortSt}{lo n:Nat}(h:QCw κ a₀ f lo st) (h1:1<=n) (hu:cO f (arrOf st) lo (lo + n)):QCw κ a₀ f (lo + n) (setPending st ((pendingOf st).push (lo,n,0))):=by
 refine ⟨⟨h.b.kind,h.b.perm,h.b.fail,rfl⟩,?_,fun r m=>?_⟩
 ·show Chain ((pendingOf st).push (lo,n,0)).toList 0 (lo + n)
  rw[Array.toList_push]
  exact h.c.snoc h1
 ·replace m:r∈((pendingOf st).push (lo,n,0)).toList:=m
  rw[Array.toList_push] at m
  rcases List.mem_append.mp m with m | m
  ·exact h.u r m
  ·rw[List.mem_singleton.mp m]
   exact hu
theorem QCw.of {st st':SortSt}{lo:Nat}(h:QCw κ a₀ f lo st) (h':QB κ a₀ (pendingOf st) st') (hs:∀ i,i < lo->(arrOf st')[i]?=(arrOf st)[i]?):QCw κ a₀ f lo st':=by
 refine ⟨⟨h'.kind,h'.perm,h'.fail,rfl⟩,by rw[h'.pend]; exact h.c,fun r m=>?_⟩
 rw[h'.pend] at m
 exact (h.u r m).at fun x _ hx=>hs x (by have:=(h.c.mem r m).2; omega)
theorem Bk {st:SortSt}{i lo n:Nat}{Q:Bool->SortSt->Prop}(O:tM κ prog w A E s a₀ f) (hB:QCw κ a₀ f lo st) (hh:lo<=a₀.size) (h2:i + 1 < (pendingOf st).size) (hu:cO f (arrOf st) lo (lo + n))
  (h:∀ st',QCw κ a₀ f lo st'->cO f (arrOf st') lo (lo + n)->Q true st'):wpS (model prog w) A E s (mergeAt' i) Q st:=by
 obtain ⟨pre,⟨sa,na,pw⟩,⟨sb,nb,pv⟩,post,e,hl⟩:=XC (pendingOf st).toList i (by simpa using h2)
 have hc:=hB.c
 have hu':=hB.u
 rw[e] at hc hu'
 obtain ⟨k1,k2,k3,k4,k5⟩:=hc.two
 obtain ⟨o1,o2⟩:=hc.parts
 subst hl
 have ua:=hu' (sa,na,pw) (by simp)
 have ub:=hu' (sb,nb,pv) (by simp)
 replace ua:cO f (arrOf st) sa (sa + na):=ua
 refine wW O hB.b e k1 k2 k3 ω (by rw[k1]; exact ua) ub fun st' hB' hp hsm hup=>h st' ⟨hB',by rw[hp]; exact k5,fun r m=>?_⟩ (hu.at fun x hx _=>hsm x (.inr ω))
 rw[hp] at m
 rcases List.mem_append.mp m with m | m
 ·refine (hu' r (List.mem_append_left _ m)).at fun x _ hx=>hsm x (.inl ?_)
  have:=o1 r m
  omega
 ·rcases List.mem_cons.mp m with rfl | m
  ·show cO f (arrOf st') sa (sa + (na + nb))
   rw[show sa + (na + nb)=sb + nb by omega]
   exact hup
  ·refine (hu' r (List.mem_append_right _ (List.mem_cons_of_mem _ (List.mem_cons_of_mem _ m)))).at fun x hx _=>hsm x (.inr ?_)
   have:=o2 r m
   omega
theorem KY {st:SortSt}{Q:Unit->SortSt->Prop}(O:tM κ prog w A E s a₀ f) (hB:QB κ a₀ #[] st) (h:∀ st',(arrOf st').toList.Perm a₀.toList->failedOf st'=none->gQ f (arrOf st') a₀.size->Q () st'):wpS (model prog w) A E s sortRuns' Q st:=by
 refine wpS_bind (wpS_get ?_)
 dsimp only
 have hs:=hB.size
 dsimp only [arrOf] at hs
 simp only[hs]
 generalize (sortPriv% PySem.Builtin.minRun) a₀.size a₀.size 0=mr
 have h00:QCw κ a₀ f 0 st:=⟨⟨hB.kind,hB.perm,hB.fail,rfl⟩,by rw[hB.pend]; rfl,fun r m=>by rw[hB.pend] at m; cases m⟩
 refine wpS_bind (wpS_mono (wpS_forRange (I:=fun x c z=>∃ lo,c=(none,lo)/\QCw κ a₀ f lo z/\x<=lo/\lo<=a₀.size) (Q:=fun c z=>∃ lo,c=(none,lo)/\QCw κ a₀ f a₀.size z) ?step ?fin ⟨0,rfl,h00,Nat.le_refl _,Nat.zero_le _⟩) ?post)
 case fin=>
  rintro c z ⟨lo,rfl,hz,k1,k2⟩
  have:lo=a₀.size:=by omega
  subst this
  exact ⟨_,rfl,hz⟩
 case step=>
  rintro x c z _ hx ⟨lo,rfl,hz,k1,k2⟩
  dsimp only
  by_cases hlo:lo ≥ a₀.size
  ·rw[if_pos hlo]
   have:lo=a₀.size:=by omega
   subst this
   exact wpS_pure ⟨_,rfl,hz⟩
  ·rw[if_neg hlo]
   refine wpS_bind (Uj O hz.b (show 1<=a₀.size - lo by omega) ω fun n z' n1 n2 hz' hsm hup=>?_)
   replace hz:=hz.of hz' hsm
   dsimp only
   clear hz' hsm
   revert hz hup
   generalize z'=z
   intro hup hz
   by_cases hmr:n < mr
   ·rw[if_pos hmr]
    refine wpS_bind (wpS_lift (wpAny_rule (And.intro rfl ?_)))
    refine wpS_bind (YX O hz.b (show lo + min (a₀.size - lo) mr<=a₀.size by omega) n1 ω hup fun z' hz' hsm hup=>?_)
    replace hz:=hz.of hz' hsm
    clear hz' hsm
    revert hz hup
    generalize z'=z
    intro hup hz
    rw[if_neg (show ¬ ((!true)=true) by decide)]
    refine wpS_bind (wpS_get ?_)
    cases hbk:(pendingOf z).back? with
    | none=>
     exact wpS_bind (wpS_modify (wpS_pure ⟨_,rfl,hz.push ω hup,ω,ω⟩))
    | some bk=>
     obtain ⟨s1,n1',v1⟩:=bk
     dsimp only
     refine wpS_bind (wpS_mono (wpS_forRange (I:=fun _ c z=>c=(none,())/\QCw κ a₀ f lo z/\cO f (arrOf z) lo (lo + min (a₀.size - lo) mr)) (Q:=fun c z=>c=(none,())/\QCw κ a₀ f lo z/\cO f (arrOf z) lo (lo + min (a₀.size - lo) mr)) ?_ (fun _ _ hh=>hh) ⟨rfl,hz,hup⟩) ?_)
     ·rintro x c z _ _ ⟨rfl,hz,hup⟩
      refine wpS_bind (wpS_get ?_)
      by_cases hg:(pendingOf z).size > 1
      ·obtain ⟨p1,p2,p3,e⟩:=GK (pendingOf z) ((pendingOf z).size - 2) ω
       have hg2:=hg
       dsimp only [pendingOf] at e hg
       rw[if_pos hg,e]
       dsimp only
       refine xY (fun _=>wpS_pure ⟨rfl,hz,hup⟩) fun _=>?_
       exact wpS_bind (Bk O hz k2 (show (pendingOf z).size - 2 + 1 < (pendingOf z).size by omega) hup fun z hz hup=>wpS_pure ⟨rfl,hz,hup⟩)
      ·dsimp only [pendingOf] at hg
       rw[if_neg hg]
       exact wpS_pure ⟨rfl,hz,hup⟩
     ·rintro c z ⟨rfl,hz,hup⟩
      dsimp only
      exact wpS_bind (wpS_modify (wpS_bind (wpS_modify (wpS_pure ⟨_,rfl,hz.Ah.push ω hup,ω,ω⟩))))
   ·rw[if_neg hmr]
    refine wpS_bind (wpS_get ?_)
    cases hbk:(pendingOf z).back? with
    | none=>
     exact wpS_bind (wpS_modify (wpS_pure ⟨_,rfl,hz.push n1 hup,ω,ω⟩))
    | some bk=>
     obtain ⟨s1,n1',v1⟩:=bk
     dsimp only
     refine wpS_bind (wpS_mono (wpS_forRange (I:=fun _ c z=>c=(none,())/\QCw κ a₀ f lo z/\cO f (arrOf z) lo (lo + n)) (Q:=fun c z=>c=(none,())/\QCw κ a₀ f lo z/\cO f (arrOf z) lo (lo + n)) ?_ (fun _ _ hh=>hh) ⟨rfl,hz,hup⟩) ?_)
     ·rintro x c z _ _ ⟨rfl,hz,hup⟩
      refine wpS_bind (wpS_get ?_)
      by_cases hg:(pendingOf z).size > 1
      ·obtain ⟨p1,p2,p3,e⟩:=GK (pendingOf z) ((pendingOf z).size - 2) ω
       have hg2:=hg
       dsimp only [pendingOf] at e hg
       rw[if_pos hg,e]
       dsimp only
       refine xY (fun _=>wpS_pure ⟨rfl,hz,hup⟩) fun _=>?_
       exact wpS_bind (Bk O hz k2 (show (pendingOf z).size - 2 + 1 < (pendingOf z).size by omega) hup fun z hz hup=>wpS_pure ⟨rfl,hz,hup⟩)
      ·dsimp only [pendingOf] at hg
       rw[if_neg hg]
       exact wpS_pure ⟨rfl,hz,hup⟩
     ·rintro c z ⟨rfl,hz,hup⟩
      dsimp only
      exact wpS_bind (wpS_modify (wpS_bind (wpS_modify (wpS_pure ⟨_,rfl,hz.Ah.push ω hup,ω,ω⟩))))
 case post=>
  rintro c z ⟨lo,rfl,hz⟩
  dsimp only
  have hl0:=hz.c.len
  rw[Array.length_toList] at hl0
  refine wpS_bind (wpS_mono (wpS_forRange (I:=fun x c z=>c=(none,())/\QCw κ a₀ f a₀.size z/\((pendingOf z).size<=1\/(pendingOf z).size + x<=a₀.size)) (Q:=fun c z=>c=(none,())/\QCw κ a₀ f a₀.size z/\(pendingOf z).size<=1) ?_ ?_ ⟨rfl,hz,.inr ω⟩) ?_)
  ·rintro x c z _ _ ⟨rfl,hz,hl⟩
   refine wpS_bind (wpS_get ?_)
   refine xY (fun hg=>wpS_pure ⟨rfl,hz,hg⟩) fun hg=>?_
   have hg2:¬ (pendingOf z).size<=1:=hg
   refine wpS_bind (M4 O hz (Nat.le_refl _) ?_ fun z' hz' hl'=>wpS_pure ⟨rfl,hz',?_⟩)
   ·exact Xk hg2
   ·right
    rcases hl with hl | hl <;> omega
  ·rintro c z ⟨rfl,hz,hl⟩
   exact ⟨rfl,hz,by rcases hl with hl | hl <;> omega⟩
  ·rintro c z ⟨rfl,hz,hl⟩
   refine wpS_pure (h z hz.b.perm hz.b.fail ?_)
   have hc:=hz.c
   have hu:=hz.u
   rw[<- Array.length_toList] at hl
   generalize (pendingOf z).toList=l at hc hu hl
   match l,hc,hu,hl with
   | [],hc,_,_=>exact fun i j _ hj=>by have:(0:Nat)=a₀.size:=hc; omega
   | [(p,n,v)],hc,hu,_=>
    obtain ⟨e1,e2,e3⟩:=hc
    have e3:0 + n=a₀.size:=e3
    have:=hu (p,n,v) (by simp)
    exact fun i j hij hj=>this i j (by show p<=i; omega) hij (by show j < p + n; omega)
   | _ :: _ :: _,_,_,hl=>exact absurd hl (by simp)
end
end SRT
namespace SRT
open PySem PyProof.Rows
def TL (s:Shared) (x:Value) (a b:Int):Prop:=∃ q o n t u,x=.ref q/\s.heap.get? q=some o/\o.cls=.type "tuple" /\ o.data=.seq #[.int a t,.int b u] n
theorem TL.tp {s:Shared}{x:Value}{a b:Int}(h:TL s x a b):TP s x a:=by
 obtain ⟨q,o,n,t,u,e,ho,hc,hd⟩:=h
 exact ⟨q,o,n,t,_,e,ho,hc,hd⟩
structure oX (s:Shared) (p1 p2 g:Value->Int) (vs:List Value):Prop where
 tk:∀ v∈vs,TL s v (p1 v) (p2 v)
 lx:∀ x∈vs,∀ y∈vs,g x < g y ↔ p1 x < p1 y\/p1 x=p1 y/\p2 x < p2 y
theorem oX.keep {p1 p2 g:Value->Int}{vs:List Value}{s s':Shared}(h:oX s p1 p2 g vs) (k:∀ q o,s.heap.get? q=some o->o.cls=.type "tuple" -> s'.heap.get? q=some o):oX s' p1 p2 g vs:=
 ⟨fun v hv=>by
  obtain ⟨q,o,n,t,u,e,ho,hc,hs⟩:=h.tk v hv
  exact ⟨q,o,n,t,u,e,k q o ho hc,hc,hs⟩,h.lx⟩
theorem vO {g:Value->Int}{vs:List Value}{xs:Array Keyed}(hp:xs.toList.Perm (pairsOf vs).toList) (h:gQ (fun p=>g p.1) xs (pairsOf vs).size):((xs.map (·.2)).toList.map g).Pairwise (·<=·):=by
 have hz:xs.size=(pairsOf vs).size:=by
  have:=hp.length_eq
  simpa using this
 refine List.pairwise_iff_getElem.mpr fun i j hi hj hij=>?_
 have hix:i < xs.size:=by simpa using hi
 have hjx:j < xs.size:=by simpa using hj
 have e:∀ (k:Nat) (hk:k < xs.size),g xs[k].2=Rk (fun p=>g p.1) xs k:=fun k hk=>by
  have m:xs[k]∈(pairsOf vs).toList:=hp.mem_iff.mp (by simp)
  unfold Rk
  rw[getElem?_pos xs k hk]
  show g _=g _
  rw[(mK m).2]
 have a1:=h i j hij ω
 rw[<- e i hix,<- e j hjx] at a1
 simpa using a1
section
variable {prog:Program}{w:World}{s:Shared}{A:Around}{E:Value->Shared->Prop}
theorem Y5 {p1 p2 g:Value->Int}{vs:List Value}(h:oX s p1 p2 g vs):tM oZ prog w A E s (pairsOf vs) fun p=>g p.1:=by
 intro st x y Q hk hx hy q
 have h1:=h.tk x.1 (mK hx).1
 have h4:=h.tk y.1 (mK hy).1
 have hl:=h.lx x.1 (mK hx).1 y.1 (mK hy).1
 replace q:Q (some (decide (g x.1 < g y.1))) st:=q
 have q2:Q (some (decide (p1 x.1 < p1 y.1\/p1 x.1=p1 y.1/\p2 x.1 < p2 y.1))) st:=(congrArg (fun b=>Q (some b) st) (decide_eq_decide.mpr hl)).mp q
 clear q
 clear hl
 have q:=q2
 clear q2
 rw[lt'_eq]
 refine wpS_bind (wpS_get ?_)
 rw[hk]
 refine wpS_bind (wpS_lift (wpAny_attempt ?_))
 obtain ⟨p,o,n,t,u,e,ho,hc,hs⟩:=h1
 obtain ⟨p',o',n',t',u',e',ho',hc',hs'⟩:=h4
 generalize p1 x.1=a at *
 generalize p1 y.1=b at *
 generalize p2 x.1=k at *
 generalize p2 y.1=l at *
 rw[e,e']
 show wpAny _ _ (Builtin.List.listItems (.ref p) >>= fun xs=>Builtin.List.listItems (.ref p') >>= _) _ _ s
 refine wpAny_bind (listItems_at ho hs ?_)
 refine wpAny_bind (listItems_at ho' hs' ?_)
 show wpAny _ _ (forIn [((Value.int a t,Value.int b t'),0),((Value.int k u,Value.int l u'),1)] _ _ >>= _) _ _ s
 rw[List.forIn_cons]
 refine wpAny_bind (wpAny_bind (wpAny_bind (wpAny_eqBool_int ?_)))
 by_cases c:a=b
 ·subst c
  rw[beq_self_eq_true]
  refine wpAny_pure ?_
  simp only[List.forIn_cons]
  refine wpAny_bind (wpAny_bind (wpAny_eqBool_int ?_))
  by_cases c2:k=l
  ·subst c2
   rw[beq_self_eq_true]
   rw[decide_eq_false ω] at q
   refine wpAny_pure ?_
   simp only[List.forIn_nil]
   exact wpAny_pure (wpAny_pure ⟨rfl,wpS_pure q⟩)
  ·rw[beq_false_of_ne c2]
   rw[show decide (a < a\/a=a/\k < l)=decide (k < l) from decide_eq_decide.mpr ω] at q
   exact wpAny_bind (Dt (wpAny_pure (wpAny_pure (wpAny_pure ⟨rfl,wpS_pure q⟩))))
 ·rw[beq_false_of_ne c]
  rw[show decide (a < b\/a=b/\k < l)=decide (a < b) from decide_eq_decide.mpr ω] at q
  exact wpAny_bind (oneLt_int (wpAny_pure (wpAny_pure (wpAny_pure ⟨rfl,wpS_pure q⟩))))
theorem Xa {a:Addr}{vs:List Value}{n:Nat}{P:Fin->Shared->Prop}{p1 p2 g:Value->Int}(ho:s.heap.get? a=some (seqObj "list" vs.toArray n)) (hR:oX s p1 p2 g vs)
  (hlen:vs.length<=1000000) (h:∀ xs:Array Value,xs.toList.Perm vs->(xs.toList.map g).Pairwise (·<=·)->P (.done (.ret .none)) { s with heap:=sortedHeap s.heap a vs xs }):wpAny (model prog w) A (Builtin.«list.sort» ⟨[.ref a],[]⟩) P E s:=by
 rw[list_sort_plain]
 have la:a < s.heap.objs.size:=Heap.lt_size ho
 refine wpAny_bind (listItems_at ho rfl (wpAny_bind (listUpdate_at ho rfl ?_)))
 obtain ⟨e,he⟩:∃ e,(s.heap.update a (Obj.mapSeq fun _=>#[])).get? a=some (seqObj "list" #[] e):=⟨_,get?_update_seq ho fun _=>#[]⟩
 refine wpAny_bind (seqEpoch_at he rfl (wpAny_bind (wpAny_newTuple (wpAny_bind (wpAny_newList (wpAny_holding ?_))))))
 have h6:(((s.heap.update a (Obj.mapSeq fun _=>#[])).push (seqObj "tuple" vs.toArray 0)).push (seqObj "list" #[] 0)).get? a=some (seqObj "list" #[] e):=by
  rw[Heap.get?_push_ne _ _ _ (by rw[size_push',Heap.size_update]; exact Nat.ne_of_lt (Nat.le_succ_of_le la)),Heap.get?_push_ne _ _ _ (by rw[Heap.size_update]; exact Nat.ne_of_lt la),he]
 have hR6:oX { s with heap:=((s.heap.update a (Obj.mapSeq fun _=>#[])).push (seqObj "tuple" vs.toArray 0)).push (seqObj "list" #[] 0) } p1 p2 g vs:=hR.keep fun q o hq hc=>by
  have hne:q≠a:=fun z=>by
   rw[z,ho] at hq
   cases hq
   exact absurd (show Value.type "list" = Value.type "tuple" from hc) δ
  exact Heap.get?_push_of_some _ (Heap.get?_push_of_some _ ((Heap.get?_update_other _ _ (Ne.symm hne)).trans hq))
 show wpAny _ A _ P E { s with heap:=((s.heap.update a (Obj.mapSeq fun _=>#[])).push (seqObj "tuple" vs.toArray 0)).push (seqObj "list" #[] 0) }
 dsimp only
 by_cases h2:(vs.toArray.size < 2)
 ·rw[if_pos h2,if_pos h2]
  refine (wpAny_bind (wpAny_pure ?_))
  rw[StateT.run_pure]
  refine wpAny_bind (wpAny_pure (wpAny_bind (seqEpoch_at h6 rfl (wpAny_bind (listUpdate_at h6 rfl ?_ (hsz2:=?z))))))
  case z=>rw[Array.size_map]; show (pairsOf vs).size<=_; rw[pairsOf_size,sizeLine_eq]; omega
  simp only[Bool.false_eq_true,bne_self_eq_false,if_false]
  have e0:((vs.toArray.zip vs.toArray).map (·.2)).toList=vs:=by rw[show (vs.toArray.zip vs.toArray).map (·.2)=(pairsOf vs).map (·.2) from rfl,nR]
  refine wpAny_pure (h _ (by rw[e0]) ?_)
  rw[e0]
  match vs,h2 with
  | [],_=>exact .nil
  | [v],_=>exact List.pairwise_singleton _ _
  | _ :: _ :: t,h2=>exact absurd h2 (by simp)
 ·rw[if_neg h2,if_neg h2]
  refine wpAny_bind (YK (fun v hv=>?_) (by simp at h2; omega) ?_)
  ·exact ⟨_,(hR6.tk v hv).tp⟩
  refine wpAny_bind (wpAny_mono (KY (κ:=oZ) (a₀:=pairsOf vs) (f:=fun p=>g p.1) (st:=SortSt.mk' oZ (vs.toArray.zip vs.toArray) #[] 7 none) (Q:=fun _ z=>(arrOf z).toList.Perm (pairsOf vs).toList/\failedOf z=none/\gQ (fun p=>g p.1) (arrOf z) (pairsOf vs).size) (Y5 hR6) ⟨rfl,List.Perm.refl _,rfl,rfl⟩ fun z d1 d2 d3=>⟨d1,d2,d3⟩) ?_ fun _ _ e=>e)
  rintro ⟨⟨⟩,z⟩ s' ⟨rfl,d1,d2,d3⟩
  have hm:((arrOf z).map (·.2)).toList.Perm vs:=by
   have:=d1.map (·.2)
   rw[<- Array.toList_map,<- Array.toList_map,nR] at this
   exact this
  refine wpAny_bind (seqEpoch_at h6 rfl (wpAny_bind (listUpdate_at h6 rfl ?_ (hsz2:=?z))))
  case z=>
   have:=hm.length_eq
   rw[Array.length_toList] at this
   show ((arrOf z).map (·.2)).size<=_
   rw[this,sizeLine_eq]
   omega
  dsimp only
  rw[d2]
  simp only[Bool.false_eq_true,bne_self_eq_false,if_false]
  exact wpAny_pure (h _ hm (vO d1 d3))
theorem Qt {l:Addr}{vs:List Value}{Q:Value->Shared->Prop}{p1 p2 g:Value->Int}(hl:s.heap.IsList l vs.toArray) (hR:oX s p1 p2 g vs) (hlen:vs.length<=1000000)
  (h:∀ xs:Array Value,xs.toList.Perm vs->(xs.toList.map g).Pairwise (·<=·)->Q (.ref (s.heap.objs.size + 1)) { s with heap:=sortedAll s.heap vs xs }):wpAny (model prog w) A (call (.builtin "sorted") [.ref l]) Q E s:=by
 refine Calls.call_function_entry kind_sorted plain_sorted entry_sorted (args_sorted1 (.ref l)) ?_
 unfold Builtin.«sorted»
 refine wpAny_bind (m:=checkCount "sorted" 1 1 _) (wpAny_pure (wpAny_bind (collect_list hl (wpAny_bind (wpAny_newList ?_)))))
 have hz:((s.heap.push (seqObj "list" #[] 0)).update s.heap.objs.size (Obj.mapSeq (· ++ vs.toArray))).objs.size=s.heap.objs.size + 1:=Heap.size_update .. |>.trans (size_push' _ _)
 have hL:(((s.heap.push (seqObj "list" #[] 0)).update s.heap.objs.size (Obj.mapSeq (· ++ vs.toArray))).push (seqObj "list" vs.toArray 0)).get? (s.heap.objs.size + 1)=some (seqObj "list" vs.toArray 0):=hz ▸ Heap.get?_push_size _ rfl
 show wpAny (model prog w) A.in1 _ _ E { s with heap:=((s.heap.push (seqObj "list" #[] 0)).update s.heap.objs.size (Obj.mapSeq (· ++ vs.toArray))).push (seqObj "list" vs.toArray 0) }
 rw[hz]
 refine wpAny_bind (wpAny_holding (wpAny_call_entry slot_list_sort ⟨_,hL,rfl⟩ entry_list_sort (Xa hL (hR.keep fun q o hq hc=>?_) hlen fun xs hp ho=>⟨_,rfl,wpAny_pure ⟨_,rfl,h xs hp ho⟩⟩) (args_list_sort _)))
 have hne:s.heap.objs.size≠q:=fun z=>by
  exact Nat.ne_of_lt (Heap.lt_size hq) z.symm
 exact Heap.get?_push_of_some _ ((Heap.get?_update_other _ _ hne).trans (Heap.get?_push_of_some _ hq))
end
end SRT
set_option maxHeartbeats 4100000
namespace SRT
open PySem PyProof.Rows
def gI:Value->Int
 | .int n _=>n
 | _=>0
theorem yV:∀ {vs:List Value}{ns:List Int},IntsAre vs ns->vs.map gI=ns
 | _,_,.nil=>rfl
 | _,_,.cons n t h=>congrArg (n :: ·) (yV h)
section
variable {prog:Program}{w:World}{A:Around}{E:Value->Shared->Prop}{s:Shared}
theorem Y6 {vs:List Value}{ns:List Int}(hI:IntsAre vs ns):tM oneType' prog w A E s (pairsOf vs) fun p=>gI p.1:=by
 intro st x y Q hk hx hy h
 obtain ⟨a,t,ea⟩:=hI.intKeys x hx
 obtain ⟨b,u,eb⟩:=hI.intKeys y hy
 have e:decide (gI x.1 < gI y.1)=decide (a < b):=by rw[ea,eb]; rfl
 dsimp only at h
 rw[e] at h
 rw[lt'_eq]
 refine wpS_bind (wpS_get ?_)
 rw[hk,keyLt'_oneType,ea,eb]
 exact wpS_bind (wpS_lift (wpAny_attempt (oneLt_int ⟨rfl,wpS_pure h⟩)))
theorem Xb {a:Addr}{vs:List Value}{n:Nat}{P:Fin->Shared->Prop}(ho:s.heap.get? a=some (seqObj "list" vs.toArray n)) {ns:List Int}(hI:IntsAre vs ns)
  (hnd:ns.Nodup) (hlen:vs.length<=1000000) (h:∀ xs:Array Value,xs.toList.Perm vs->(xs.toList.map gI).Pairwise (· < ·)->P (.done (.ret .none)) { s with heap:=sortedHeap s.heap a vs xs }):wpAny (model prog w) A (Builtin.«list.sort» ⟨[.ref a],[]⟩) P E s:=by
 rw[list_sort_plain]
 have la:a < s.heap.objs.size:=Heap.lt_size ho
 refine wpAny_bind (listItems_at ho rfl (wpAny_bind (listUpdate_at ho rfl ?_)))
 obtain ⟨e,he⟩:∃ e,(s.heap.update a (Obj.mapSeq fun _=>#[])).get? a=some (seqObj "list" #[] e):=⟨_,get?_update_seq ho fun _=>#[]⟩
 refine wpAny_bind (seqEpoch_at he rfl (wpAny_bind (wpAny_newTuple (wpAny_bind (wpAny_newList (wpAny_holding ?_))))))
 have h6:(((s.heap.update a (Obj.mapSeq fun _=>#[])).push (seqObj "tuple" vs.toArray 0)).push (seqObj "list" #[] 0)).get? a=some (seqObj "list" #[] e):=by
  rw[Heap.get?_push_ne _ _ _ (by rw[size_push',Heap.size_update]; exact Nat.ne_of_lt (Nat.le_succ_of_le la)),Heap.get?_push_ne _ _ _ (by rw[Heap.size_update]; exact Nat.ne_of_lt la),he]
 show wpAny _ A _ P E { s with heap:=((s.heap.update a (Obj.mapSeq fun _=>#[])).push (seqObj "tuple" vs.toArray 0)).push (seqObj "list" #[] 0) }
 dsimp only
 by_cases h2:(vs.toArray.size < 2)
 ·rw[if_pos h2,if_pos h2]
  refine (wpAny_bind (wpAny_pure ?_))
  rw[StateT.run_pure]
  refine wpAny_bind (wpAny_pure (wpAny_bind (seqEpoch_at h6 rfl (wpAny_bind (listUpdate_at h6 rfl ?_ (hsz2:=?z))))))
  case z=>rw[Array.size_map]; show (pairsOf vs).size<=_; rw[pairsOf_size,sizeLine_eq]; omega
  simp only[Bool.false_eq_true,bne_self_eq_false,if_false]
  have e0:((vs.toArray.zip vs.toArray).map (·.2)).toList=vs:=by rw[show (vs.toArray.zip vs.toArray).map (·.2)=(pairsOf vs).map (·.2) from rfl,nR]
  refine wpAny_pure (h _ (by rw[e0]) ?_)
  rw[e0]
  match vs,h2 with
  | [],_=>exact .nil
  | [v],_=>exact List.pairwise_singleton _ _
  | _ :: _ :: t,h2=>exact absurd h2 (by simp)
 ·rw[if_neg h2,if_neg h2]
  obtain ⟨x,y,t,e2⟩:∃ x y t,vs=x :: y :: t:=by
   cases vs with
   | nil=>simp at h2
   | cons x t=>cases t with
    | nil=>simp at h2
    | cons y t=>exact ⟨x,y,t,rfl⟩
  rw[show keyKind' vs.toArray=pure oneType' by subst e2; exact keyKind_ints hI]
  refine (wpAny_bind (wpAny_pure ?_))
  refine wpAny_bind (wpAny_mono (KY (κ:=oneType') (a₀:=pairsOf vs) (f:=fun p=>gI p.1) (st:=SortSt.mk' oneType' (vs.toArray.zip vs.toArray) #[] 7 none) (Q:=fun _ z=>(arrOf z).toList.Perm (pairsOf vs).toList/\failedOf z=none/\gQ (fun p=>gI p.1) (arrOf z) (pairsOf vs).size) (Y6 hI) ⟨rfl,List.Perm.refl _,rfl,rfl⟩ fun z d1 d2 d3=>⟨d1,d2,d3⟩) ?_ fun _ _ e=>e)
  rintro ⟨⟨⟩,z⟩ s' ⟨rfl,d1,d2,d3⟩
  have hm:((arrOf z).map (·.2)).toList.Perm vs:=by
   have:=d1.map (·.2)
   rw[<- Array.toList_map,<- Array.toList_map,nR] at this
   exact this
  refine wpAny_bind (seqEpoch_at h6 rfl (wpAny_bind (listUpdate_at h6 rfl ?_ (hsz2:=?z))))
  case z=>
   have:=hm.length_eq
   rw[Array.length_toList] at this
   show ((arrOf z).map (·.2)).size<=_
   rw[this,sizeLine_eq]
   omega
  dsimp only
  rw[d2]
  simp only[Bool.false_eq_true,bne_self_eq_false,if_false]
  have hw:=vO d1 d3
  have hne:(((arrOf z).map (·.2)).toList.map gI).Pairwise (·≠·):=by
   refine (hm.map gI).nodup_iff.mpr ?_
   rw[yV hI]
   exact hnd
  exact wpAny_pure (h _ hm ((hw.and hne).imp fun z=>Int.lt_iff_le_and_ne.mpr z))
theorem Iv {a:Addr}{vs:List Value}{ns:List Int}{n:Nat}{P:Fin->Shared->Prop}(ho:s.heap.get? a=some (seqObj "list" vs.toArray n)) (hI:IntsAre vs ns) (hnd:ns.Nodup) (hlen:vs.length<=1000000)
  (h:∀ (xs:Array Value) (ns':List Int),IntsAre xs.toList ns'->ns'.Perm ns->ns'.Pairwise (· < ·)->P (.done (.ret .none)) { s with heap:=sortedHeap s.heap a vs xs }) :
  wpAny (model prog w) A (Builtin.«list.sort» ⟨[.ref a],[]⟩) P E s:=by
 refine Xb ho hI hnd hlen fun xs hp ho=>?_
 obtain ⟨ns',a1,a2⟩:=xG hp hI
 exact h xs ns' a1 a2 (by rw[<- yV a1]; exact ho)
end
section
variable {prog:Program}{w:World}{A:Around}{E:Value->Shared->Prop}{s:Shared}{S:Addr}{es:Array (Int×Value)}{ep:Nat}{t:SetTable}
theorem Hg {l:List Int}{Q:Value->Shared->Prop}(hh:A.handled=none) (hS:SetT (intKind prog w) (!bt w) s.heap S (fun k'=>l.any (· == k')) l.length) (hnd:l.Nodup)
  (h:∀ (s':Shared) (L:Addr) (xs:List Value) (ns':List Int) (k:Nat),s'.heap.get? L=some (seqObj "list" xs.toArray k)->IntsAre xs ns'->ns'.Perm l->ns'.Pairwise (· < ·) ->
   (∀ c o,s.heap.get? c=some o->s'.heap.get? c=some o)->s'.gens=s.gens->s'.os=s.os->s.heap.objs.size<=L->Q (.ref L) s'):wpAny (model prog w) A (call (.builtin "sorted") [.ref S]) Q E s:=by
 obtain ⟨o,es,ep,t,ho,hex,hd,⟨hel,hmem,hb⟩,hf,hn,ht⟩:=hS
 have hz:es.size<=sizeLine:=fits_of_scanBound hb
 obtain ⟨ks,hks,hkm⟩:=vG hel
 have hkp:ks.Perm l:=oh hnd (fun x hx=>(hkm x).mpr ((hmem x).mp (by simpa using hx))) (by rw[<- hn,<- Array.length_toList,<- IntsAre.length hks,List.length_map])
 refine Calls.call_function_entry kind_sorted plain_sorted entry_sorted (args_sorted1 (.ref S)) ?_
 unfold Builtin.«sorted»
 refine wpAny_bind (m:=checkCount "sorted" 1 1 _) (wpAny_pure (wpAny_bind (BJ (by simpa using hh) ⟨o,ho,hex,hd⟩ hf ht hz fun s1 vs hp hk1 hg1 ho1 hl1=>wpAny_bind (wpAny_newList ?_ ?_))))
 ·obtain ⟨ms,hms,hmp⟩:=xG hp hks
  have hvl:vs.length=l.length:=by rw[IntsAre.length hms,hmp.length_eq,hkp.length_eq]
  have hL:(s1.heap.push (seqObj "list" vs.toArray 0)).get? s1.heap.objs.size=some (seqObj "list" vs.toArray 0):=Heap.get?_push_size _ rfl
  show wpAny (model prog w) A.in1 _ _ E { s1 with heap:=s1.heap.push (seqObj "list" vs.toArray 0) }
  refine wpAny_bind (wpAny_holding (wpAny_call_entry slot_list_sort ⟨_,hL,rfl⟩ entry_list_sort (Iv hL hms ((hmp.trans hkp).nodup_iff.mpr hnd) ?_ fun xs ns' a1 a2 a3=>⟨_,rfl,wpAny_pure ⟨_,rfl,?_⟩⟩) (args_list_sort _)))
  ·rw[hvl,<- hn]
   exact Nat.le_trans (Nat.le_of_lt hb) δ
  ·obtain ⟨e,he⟩:=sortedHeap_at (out:=xs) hL
   refine h _ _ xs.toList ns' e (by simpa using he) a1 (a2.trans (hmp.trans hkp)) a3 (fun c o x=>?_) hg1 ho1 hl1
   have lc:c < s1.heap.objs.size:=Heap.lt_size (hk1 c o x)
   show (sortedHeap _ _ _ _).get? c=some o
   rw[sortedHeap_old (Nat.ne_of_lt lc) (by rw[size_push']; exact Nat.lt_succ_of_lt lc)]
   exact Heap.get?_push_of_some _ (hk1 c o x)
 ·rw[hp.length_eq,List.length_map,Array.length_toList]; exact hz
end
end SRT
set_option maxHeartbeats 4000000
namespace L2
open PySem PySem.Spec PyProof.Rows
def Vq (K:PySem.W.Frag) (ta:TA):TE:=fun σ H Q=>ta σ H fun vs H1=>∃ (l:Addr) (xs:List Int),vs=[.ref l]/\SqL K H1 l (xs.map V.int)/\xs.length < 4000 /\
 ∀ (p:Addr) (ys:List Int),H1 p=none->ys.Perm (SRT.ded xs)->ys.Pairwise (· < ·)->Q (.ref p) (upd H1 p (.lst (ys.map V.int)))
section
variable {X:Cx}{pins:List (Addr×Obj)}{s:Shared}{σ:St}{H:Hp}
theorem LQ {a:Expr}{ta:TA}{p p2 pos pos2:Pos}(hc:X.calm=true) (hgl:Gl X "sorted") (hml:X.mg "sorted" = none) (hg:Gl X "set") (hm:X.mg "set" = none) (ha:PA X [a] ta)
  (hs:starEach [a] X.env=[(false,eval a X.env)]:=by rfl)
  (he:starEach [.Call (.Name "set" p2) [a] [] pos2] X.env=[(false,eval (.Call (.Name "set" p2) [a] [] pos2) X.env)]:=by rfl) :
  PE X (.Call (.Name "sorted" p) [.Call (.Name "set" p2) [a] [] pos2] [] pos) (Vq X.K ta):=by
 intro pins s σ H Q I h
 refine wpAny_Call_Name_kw (iT I hgl hml PyProof.Rows.boot_sorted ?_ δ δ)
 refine PyProof.Rows.callWith_builtin1 ?_ he rfl
 rw[he]
 show wpAny _ _ (spliced ((false,eval (.Call (.Name "set" p2) [a] [] pos2) X.env) :: [])) _ _ s
 refine Calls.spliced_cons ?_
 refine Call_ (iT I hg hm PyProof.Rows.boot_set (PyProof.Rows.callWith_type1 (thA (ha pos2 pins s σ H _ I h) fun us s1 vs H1 I1 r1 q1=>?_) hs rfl))
 obtain ⟨l,xs,rfl,sq,hn,q⟩:=q1
 cases r1 with
 | cons r rr=>
  cases rr
  cases r
  obtain ⟨its,rv,pl,hz⟩:=I1.list sq
  have hI:=uf rv
  have hlen:its.length=xs.length:=IntsAre.length hI
  refine SRT.Jo (I1.ok.hd hc) pl.isList (by simpa using hI) (by simp [hlen,scanBound]; omega) fun h2 t2 hS hk=>Calls.spliced_nil ?_
  have eq:firstMet (fun i=>xs.getD i 0) its.toArray.size=SRT.ded xs:=by unfold SRT.ded; rw[List.size_toArray,hlen]
  rw[eq] at hS
  have hk2:∀ c o,s1.heap.get? c=some o->h2.get? c=some o:=fun c o e=>hk c o (Heap.lt_size e) e
  refine SRT.Hg (s:={ s1 with heap:=h2,toks:=t2 }) (I1.ok.hd hc) hS (SRT.Jk xs) fun s3 L ys ns k gL iL pL oL k3 g3 o3 l3=>?_
  have le:s1.heap.objs.size<=L:=by
   obtain ⟨o,_,_,_,e,_⟩:=hS
   exact Nat.le_trans (Nat.le_of_lt (Heap.lt_size e)) l3
  have hf:H1 L=none:=I1.hok.fresh le
  obtain ⟨h3,g3',d3,t3,o3'⟩:=s3
  cases g3
  cases o3
  have hl:ns.length<=sizeLine:=by
   rw[pL.length_eq]
   exact Nat.le_trans (SRT.Gs xs) (Nat.le_trans (Nat.le_of_lt hn) δ)
  refine ⟨.ref L,_,((I1.drawn d3).laid (t':=t3) (h':=h3) (fun c o e=>k3 c o (hk2 c o e)) le (show cA X.prog X.w _ h3 _ (.lst (ns.map V.int)) from ⟨by simpa using hl,ys,k,xu iL,gL⟩)),rfl,q L ns hf pL oL⟩
theorem Lk {a:Expr}{ta:TA}{p p2 pos pos2:Pos}(hc:X.calm=true) (hgl:Gl X "sorted") (hml:X.mg "sorted" = none) (hg:Gl X "set") (hm:X.mg "set" = none) (ha:QA X [a] ta)
  (hs:starEach [a] X.env=[(false,eval a X.env)]:=by rfl)
  (he:starEach [.Call (.Name "set" p2) [a] [] pos2] X.env=[(false,eval (.Call (.Name "set" p2) [a] [] pos2) X.env)]:=by rfl) :
  QE X (.Call (.Name "sorted" p) [.Call (.Name "set" p2) [a] [] pos2] [] pos) (Vq X.K ta):=⟨LQ hc hgl hml hg hm ha.h hs he⟩
end
section
variable {X:Cx}
end
def blK (x:V) (H:Hp) (Q:VK):Prop:=match x with
 | .int i=>Q (.int (Builtin.Int.intBits i:Nat)) H
 | _=>False
def Kc (to:TE):TE:=fun σ H Q=>to σ H fun x H1=>blK x H1 Q
theorem Ka (to:TE) (σ:St) (H:Hp) (Q:VK):Kc to σ H Q=to σ H fun x H1=>blK x H1 Q:=rfl
theorem Ut (i:Int) (H:Hp) (Q:VK):blK (.int i) H Q=Q (.int (Builtin.Int.intBits i:Nat)) H:=rfl
section
variable {X:Cx}{o:Expr}{to:TE}
theorem RZ {apos cpos:Pos}(ho:PE X o to) (hbase:attributeBase o "bit_length" X.env (eval o X.env)=eval o X.env:=by rfl) (hline:(apos.endLine == cpos.line)=true:=by rfl) :
  PE X (.Call (.Attribute o "bit_length" apos) [] [] cpos) (Kc to):=by
 intro pins s σ H Q I h
 refine wpAny_Call_method0_late hbase hline (thE (ho pins s σ H _ I h) fun v s1 x H1 I1 r1 q=>?_)
 cases x with
 | int i=>
  replace q:Q (.int (Builtin.Int.intBits i:Nat)) H1:=q
  obtain ⟨t,rfl⟩:=r1
  have c:wpAny (model X.prog X.w) X.A (call (.builtin "int.bit_length") [.int i t]) (EP X pins σ Q) X.xe s1:=
   call_givesAt (P:=fun _=>True) F.slot_int_bit_length (typeIs_int s1 i t) F.entry_int_bit_length (F.args_int_bit_length_1 _) (PySem.AutoIntG2.int_bit_length_int_0 i t).at trivial
    (show EP X pins σ Q _ _ from ⟨.int _,H1,I1.tok _,⟨_,rfl⟩,q⟩)
  exact ⟨"int", "int.bit_length",F.plainAttrs_int,F.slot_int_bit_length,F.type_int_bit_length,typeIs_int s1 i t,(fun a (e:Value.int i t=.ref a)=>nomatch e),Calls.callWith_builtin rfl (PySem.evalArgs_none c)⟩
 | _=>exact q.elim
theorem Rj {apos cpos:Pos}(ho:QE X o to) (hbase:attributeBase o "bit_length" X.env (eval o X.env)=eval o X.env:=by rfl) (hline:(apos.endLine == cpos.line)=true:=by rfl) :
  QE X (.Call (.Attribute o "bit_length" apos) [] [] cpos) (Kc to):=⟨RZ ho.h hbase hline⟩
end
def PX (k1 k2:Addr->Int) (p q:Addr):Prop:=k1 p < k1 q\/(k1 p=k1 q/\k2 p<=k2 q)
def Ye:List V->Hp->VK->Prop:=fun vs H Q=>∃ (l:Addr) (ps:List Addr) (k1 k2:Addr->Int),vs=[.ref l]/\H l=some (.lst (ps.map V.ref))/\ps.length<=1000000 /\
 (∀ p∈ps,H p=some (.tup [.int (k1 p),.int (k2 p)])/\-1267650600228229401496703205376 < k2 p/\k2 p < 1267650600228229401496703205376) /\
 ∀ (d:Addr) (qs:List Addr),H d=none->qs.Perm ps->qs.Pairwise (PX k1 k2)->Q (.ref d) (upd H d (.lst (qs.map V.ref)))
section
variable {X:Cx}
theorem Er:dj X (.builtin "sorted") Ye:=by
 intro pins s σ H xs us Q I rv h
 obtain ⟨l,ps,k1,k2,rfl,el,hl,hp,q⟩:=h
 cases rv with
 | cons r rr=>
  cases rr
  cases r
  obtain ⟨its,rl,pl,hz⟩:=I.list (SqL.of el)
  have e:=wD rl
  subst e
  refine SRT.Qt (p1:=rkP k1) (p2:=rkP k2) (g:=rkP fun p=>k1 p * 2535301200456458802993406410752 + k2 p) pl.isList ⟨fun v hv=>?_,fun x hx y hy=>?_⟩ (by rw[List.length_map]; exact hl) fun ys hy ho=>?_
  ·obtain ⟨p,hm,rfl⟩:=List.mem_map.mp hv
   obtain ⟨ep,_⟩:=hp p hm
   obtain ⟨ts,rt,pt,_⟩:=I.tuple (SqT.of ep)
   obtain ⟨ob,g1,g2,n,g3⟩:=pt
   cases rt with
   | cons r1 rt=>
    cases rt with
    | cons r2 rt=>
     cases rt
     obtain ⟨t,rfl⟩:=r1
     obtain ⟨u,rfl⟩:=r2
     exact ⟨p,ob,n,t,u,rfl,g1,g2,g3⟩
  ·obtain ⟨p,hm,rfl⟩:=List.mem_map.mp hx
   obtain ⟨p',hm',rfl⟩:=List.mem_map.mp hy
   have b1:=(hp p hm).2
   have b2:=(hp p' hm').2
   show k1 p * 2535301200456458802993406410752 + k2 p < k1 p' * 2535301200456458802993406410752 + k2 p' ↔ k1 p < k1 p'\/k1 p=k1 p'/\k2 p < k2 p'
   omega
  ·obtain ⟨qs,e,hq⟩:=HN hy
   rw[e,List.map_map] at ho
   have ho2:qs.Pairwise (PX k1 k2):=by
    refine (List.pairwise_map.mp ho).imp_of_mem fun {p p'} hm hm' z=>?_
    have b1:=(hp p (hq.mem_iff.mp hm)).2
    have b2:=(hp p' (hq.mem_iff.mp hm')).2
    replace z:k1 p * 2535301200456458802993406410752 + k2 p<=k1 p' * 2535301200456458802993406410752 + k2 p':=z
    unfold PX
    omega
   obtain ⟨n,he⟩:=sortedAll_at s.heap (ps.map Value.ref) ys
   have le:s.heap.objs.size<=s.heap.objs.size + 1:=Nat.le_succ _
   have hf:H (s.heap.objs.size + 1)=none:=I.hok.fresh le
   refine ⟨.ref (s.heap.objs.size + 1),_,I.laid (t':=s.toks) (fun c o z=>sortedAll_old z) le (show cA X.prog X.w _ _ _ (.lst (qs.map V.ref)) from ⟨aP (by rw[List.length_map,hq.length_eq]; omega),qs.map Value.ref,n,wM qs,?_⟩),rfl,q _ qs hf hq ho2⟩
   rw[he]
   have:ys=(qs.map Value.ref).toArray:=by rw[<- e]
   rw[this]
end
theorem Mh {prog:Program}{w:World}{A:Around}{E:Value->Shared->Prop}{s:Shared}{d p:Addr}{kvs:List (Key×Value)}{k:Key}{u v:Value}{hd:Value->Sem (List Value)}{el:List Value->Sem Unit}{Q:Unit->Shared->Prop}(hp:IsTup s.heap p #[u,v]) (hk:(b8 prog w).is k u=true) (hd':s.heap.DictOf (b8 prog w) d kvs) (hz:kvs.length<=sizeLine)
  (hQ:∀ h',h'.DictOf (b8 prog w) d (stored kvs k v)->Heap.SameBut d s.heap h'->Q () { s with heap:=h',toks:=s.toks + 1 }) :
  wpAny (model prog w) A (holding [Value.ref p] (do
   let pair <- (Builtin.Dict.pairItems (Value.ref p)).tryCatch hd
   match pair with
    | [k,v]=>holding [k,v] (dictSet d k v)
    | l=>el l)) Q E s:=by
 obtain ⟨o,ho,hc,n,hs⟩:=hp
 refine wpAny_holding (wpAny_bind (wpAny_tryCatch ?_))
 unfold Builtin.Dict.pairItems
 refine wpAny_bind (wpAny_typeOf (T := "tuple") ⟨_,ho,hc⟩ (wpAny_ite_true rfl ?_))
 refine wpAny_bind (wpAny_seqItems ho hs (wpAny_pure ?_))
 show wpAny _ _ (holding [u,v] (dictSet d u v)) _ _ _
 exact wpAny_holding (wpAny_dictSet_pairs hk hd' hQ hz)
def Cz (prog:Program) (w:World) (h:Heap) (rs:List (Key×Value)) (ps:Array Value) (bad:List Addr):Prop:=
 ps.size=rs.length/\∀ (j:Nat) kv,rs[j]?=some kv->∃ p u,ps[j]?=some (.ref p)/\IsTup h p #[u,kv.2]/\(b8 prog w).is kv.1 u=true/\p∉bad
theorem Cz.keep {prog:Program}{w:World}{h h':Heap}{rs:List (Key×Value)}{ps:Array Value}{bad:List Addr}(P:Cz prog w h rs ps bad) (k:∀ c o,c∉bad->h.get? c=some o->h'.get? c=some o):Cz prog w h' rs ps bad:=
 ⟨P.1,fun j kv e=>by
  obtain ⟨p,u,e1,e2,e3,e4⟩:=P.2 j kv e
  obtain ⟨o,e5,e6⟩:=e2
  exact ⟨p,u,e1,⟨o,k p o e4 e5,e6⟩,e3,e4⟩⟩
theorem uh {prog:Program}{w:World}{A:Around}{R:Result->Shared->Prop}{it l d:Addr}{rs:List (Key×Value)}{ps:Array Value}(hh:A.handled=none) (dit:d≠it) (dl:d≠l) (lit:l≠it) :
  ∀ (m i:Nat) (s:Shared) (kvs:List (Key×Value)),rs.length - i=m->i<=rs.length->s.heap.IsListIter it l i->s.heap.IsList l ps->Cz prog w s.heap rs ps [it,d]->s.heap.DictOf (b8 prog w) d kvs->kvs.length + m<=sizeLine ->
   (∀ (h':Heap) (t':Nat),h'.DictOf (b8 prog w) d (merged kvs (rs.drop i))->(∀ c o,c≠it->c≠d->s.heap.get? c=some o->h'.get? c=some o)->R (.ok (.ret .none)) { s with heap:=h',toks:=t' }) ->
   codeAny (model prog w) A (Code.builtin "dict.update.loop" { pos:=[Value.ref d,Value.ref it,rawInt i,Value.none] }) R s
 | 0,i,s,kvs,hm,hi,hit,hls,P,hd,hl,hR=>by
  have hi':i=rs.length:=by omega
  subst hi'
  refine codeAny_builtin nJ ?_
  show wpAny _ _ (pyNext (Value.ref it) >>= _) _ _ _
  refine wpAny_bind (wpAny_pyNext_list_end (A:=A.under _) hh hit hls (by rw[Array.getElem?_eq_none_iff]; exact Nat.le_of_eq P.1) fun h' hk=>?_)
  show wpAny _ _ (Builtin.Dict.addKeywords d [] >>= _) _ _ _
  refine wpAny_bind ?_
  show wpAny _ _ (pure ()) _ _ _
  refine wpAny_pure (wpAny_pure ?_)
  refine hR h' s.toks ?_ fun c o c1 _ e=>hk c o c1 e
  rw[List.drop_length]
  obtain ⟨o,es,ep,e,r⟩:=hd
  exact ⟨o,es,ep,hk d o dit e,r⟩
 | m + 1,i,s,kvs,hm,hi,hit,hls,P,hd,hl,hR=>by
  have hlt:i < rs.length:=by omega
  have hrs:rs[i]?=some rs[i]:=List.getElem?_eq_getElem hlt
  obtain ⟨p,u,hx,hpr,hk,hbad⟩:=P.2 i _ hrs
  refine codeAny_builtin nJ ?_
  show wpAny _ _ (pyNext (Value.ref it) >>= _) _ _ _
  refine wpAny_bind (wpAny_pyNext_list_item hit hls hx fun h' hit' sb=>?_)
  have old:∀ c o,c≠it->s.heap.get? c=some o->h'.get? c=some o:=fun c o c1 e=>(sb.2 c c1).trans e
  have hd':h'.DictOf (b8 prog w) d kvs:=by
   obtain ⟨o,es,ep,e,r⟩:=hd
   exact ⟨o,es,ep,old d o dit e,r⟩
  have pit:p≠it:=fun z=>hbad (by rw[z]; exact List.mem_cons_self)
  have hpr':IsTup h' p #[u,rs[i].2]:=by
   obtain ⟨o,e5,e6⟩:=hpr
   exact ⟨o,old p o pit e5,e6⟩
  refine wpAny_bind (Mh (s:={ s with heap:=h' }) hpr' hk hd' ω fun h'' hd'' sb2=>?_)
  refine wpAny_pure ⟨Code.quiet_builtin _ ψ,?_⟩
  show codeAny _ _ (Code.builtin "dict.update.loop" { pos:=[Value.ref d,Value.ref it,rawInt ((i:Int) + 1),Value.none] }) _ _
  rw[show ((i:Int) + 1)=((i + 1:Nat):Int) by omega]
  have old2:∀ c o,c≠it->c≠d->s.heap.get? c=some o->h''.get? c=some o:=fun c o c1 c2 e=>(sb2.2 c c2).trans (old c o c1 e)
  refine uh hh dit dl lit m (i + 1) _ (stored kvs rs[i].1 rs[i].2) ω ω (hit'.at fun o e=>(sb2.2 it (Ne.symm dit)).trans e) ?_ (P.keep fun c o cb e=>old2 c o (fun z=>cb (by rw[z]; exact List.mem_cons_self)) (fun z=>cb (by rw[z]; exact List.mem_cons_of_mem _ List.mem_cons_self)) e) hd'' (by have:=G9 kvs rs[i].1 rs[i].2; omega) fun h3 t3 hd3 old3=>?_
  ·obtain ⟨o,e,r⟩:=hls
   exact ⟨o,old2 l o lit (Ne.symm dl) e,r⟩
  ·refine hR h3 t3 ?_ fun c o c1 c2 e=>old3 c o c1 c2 (old2 c o c1 c2 e)
   rw[List.drop_eq_getElem_cons hlt]
   exact hd3
theorem Bl:typeLookup (Value.type "list") (Str.ofString "keys")=pure none:=am_miss_of_fast (by rfl)
theorem u0:typeLookup (Value.type "list") (Str.ofString "__getattr__")=pure none:=am_miss_of_fast (by rfl)
theorem rG (a:Addr) (vs:Array Value) (k:Nat) (u:Tok):Meets (Builtin.«object.__getattribute__» { pos:=[Value.ref a,Value.str (Str.ofString "keys") u] }) fun A R s=>
  s.heap.get? a=some { cls:=Value.type "list",data:=Data.seq vs k }/\raisesAttr (Value.ref a) (Str.ofString "keys") A R s:=by
 refine Meets.of_wp fun prog w A R s hs=>?_
 obtain ⟨hp,g,d,tk,os⟩:=s
 obtain ⟨hx,hr⟩:=hs
 have hT:(⟨hp,g,d,tk,os⟩:Shared).TypeIs (Value.ref a) "list" := ⟨_,hx,rfl⟩
 unfold Builtin.«object.__getattribute__» slotArgs
 refine wpAny_bind (wpAny_ite_false rfl (wpAny_ite_false rfl (wpAny_pure ?_)))
 refine wpAny_bind ?_
 show wpAny _ _ (pure (Str.ofString "keys")) _ _ _
 refine wpAny_pure ?_
 refine wpAny_bind (wpAny_typeOf hT ?_)
 refine wpAny_bind ?_
 unfold Builtin.ObjectAttr.find
 refine wpAny_bind (wpAny_of_eq Bl ?_)
 refine wpAny_bind ?_
 show wpAny _ _ (pure none) _ _ _
 refine wpAny_pure (wpAny_bind ?_)
 show wpAny _ _ (pure none) _ _ _
 refine wpAny_pure ?_
 show wpAny _ _ (Builtin.ObjectAttr.ownThenClass (Value.ref a) (Str.ofString "keys") none none) _ _ _
 unfold Builtin.ObjectAttr.ownThenClass
 refine wpAny_bind ?_
 unfold Builtin.ObjectAttr.inOwnDict
 refine wpAny_bind ?_
 unfold Builtin.ObjectAttr.ownDict
 refine wpAny_bind (wpAny_loadPart' hx ?_)
 show wpAny _ _ (instanceDict a false) _ _ _
 unfold instanceDict
 refine wpAny_bind (wpAny_loadPart' hx (wpAny_ite_true rfl (wpAny_pure ?_)))
 show wpAny _ _ (pure none) _ _ _
 refine wpAny_pure ?_
 show wpAny _ _ (Builtin.ObjectAttr.copiedAttributeGuard (Str.ofString "keys") (Value.ref a) >>= _) _ _ _
 refine wpAny_bind ?_
 unfold Builtin.ObjectAttr.copiedAttributeGuard
 refine wpAny_ite_false δ (wpAny_pure ?_)
 show wpAny _ _ (rule _ >>= _) _ _ _
 refine wpAny_bind (wpAny_rule (wpAny_pure ?_))
 refine wpAny_ite_false rfl ?_
 refine wpAny_ite_false rfl ?_
 show wpAny _ _ (typeNameOfCut 100 (Value.ref a) >>= _) _ _ _
 refine wpAny_bind ?_
 show wpAny _ _ (shownTypeOf (Value.ref a) >>= _) _ _ _
 refine wpAny_bind ?_
 show wpAny _ _ (typeOf (Value.ref a) >>= _) _ _ _
 refine wpAny_bind (wpAny_typeOf hT ?_)
 refine wpAny_ite_false rfl (wpAny_pure ?_)
 show wpAny _ _ (pure _) _ _ _
 refine wpAny_pure ?_
 exact wpAny_raiseAttrError hr.1 hr.2 (attrMsg_fits δ δ)
theorem wj {prog:Program}{w:World}{A:Around}{E:Value->Shared->Prop}{s:Shared}{a:Addr}{vs:Array Value}{k:Nat}{Q:Option Value->Shared->Prop}(hh:A.handled=none) (hx:s.heap.get? a=some { cls:=Value.type "list",data:=Data.seq vs k })
  (h:∀ (h':Heap) (tk:Nat),(∀ c o,s.heap.get? c=some o->h'.get? c=some o)->Q none { s with heap:=h',toks:=tk }):wpAny (model prog w) A (getAttr? (Value.ref a) (Str.ofString "keys")) Q E s:=by
 obtain ⟨hp,g,d,tk,os⟩:=s
 have hT:∀ tk,(⟨hp,g,d,tk,os⟩:Shared).TypeIs (Value.ref a) "list" := fun _=>⟨_,hx,rfl⟩
 unfold getAttr? mkText
 refine wpAny_bind (wpAny_bind (wpAny_fresh' (wpAny_pure ?_)))
 unfold getAttrBy?
 refine wpAny_bind (wpAny_attempt ?_)
 unfold getAttrBy
 refine wpAny_holding (wpAny_bind (wpAny_typeOf (hT _) ?_))
 refine wpAny_bind (wpAny_of_eq F.slot_list_getattribute.lookup ?_)
 show wpAny _ _ (ite _ _ _) _ _ _
 refine wpAny_ite_false rfl ?_
 unfold getAttrByItsOwn hookBefore
 refine wpAny_bind (wpAny_ite_false rfl (wpAny_pure ?_))
 refine wpAny_bind (wpAny_attempt (wpAny_holding ?_))
 unfold callGetattribute
 refine wpAny_ite_false rfl ?_
 unfold boundAndCalled
 refine wpAny_bind (wpAny_of_eq (F.slot_list_getattribute.bind (Value.ref a)) ?_)
 refine call_meets F.slot_list_getattribute (hT _) F.entry_list_ga (F.args_list_getattribute_2 _ _) (rG a vs k _) ⟨hx,hh,fun h' tk' e ne=>?_⟩
 obtain ⟨t,u,he⟩:=ne.there
 have hTe:(⟨h',g,d,tk',os⟩:Shared).TypeIs (Value.ref e) "AttributeError" := ⟨_,he,rfl⟩
 unfold getattributeRaised
 refine wpAny_bind (wpAny_isInstance hTe sub_AttributeError (wpAny_ite_true rfl ?_))
 unfold hookBehind
 refine wpAny_bind (wpAny_ite_false rfl (wpAny_of_eq u0 ?_))
 show wpAny _ _ (throw (Value.ref e) >>= _) _ _ _
 refine wpAny_bind (wpAny_throw ?_)
 show wpAny _ _ (isInstance (Value.ref e) (Value.type "AttributeError") >>= _) _ _ _
 refine wpAny_bind (wpAny_isInstance hTe sub_AttributeError (wpAny_ite_true rfl (wpAny_pure ?_)))
 exact h h' tk' fun c o e=>ne.keeps c o e
def putAll (kvs prs:List (Key×V)):List (Key×V):=prs.foldl (fun acc kv=>putK acc kv.1 kv.2) kvs
theorem KV.putAll:∀ {prs:List (Key×V)}{rs:List (Key×Value)}{kvs:List (Key×V)}{vs:List (Key×Value)},KV kvs vs->KV prs rs->KV (putAll kvs prs) (merged vs rs)
 | [],_,_,_,r,h=>by cases h; exact r
 | kv :: prs,_,kvs,vs,r,h=>by
  cases h with
  | cons e t=>
   rename_i kv' rs
   obtain ⟨k,v⟩:=kv
   obtain ⟨k',v'⟩:=kv'
   obtain ⟨e1,e2⟩:=e
   cases e1
   exact KV.putAll (prs:=prs) (kvs:=putK kvs k v) (vs:=stored vs k v') (r.put k e2) t
theorem wN:∀ (prs kvs:List (Key×V)),(putAll kvs prs).length<=kvs.length + prs.length
 | [],kvs=>Nat.le_refl _
 | kv :: prs,kvs=>by
  have h1:=wN prs (putK kvs kv.1 kv.2)
  have h2:=Bo kvs kv.1 kv.2
  show (putAll (putK kvs kv.1 kv.2) prs).length<=_
  rw[List.length_cons]
  omega
theorem Lx {prog:Program}{w:World}{H:Hp}{h:Heap}(hok:HOk prog w H h):∀ (ads:List Addr) (prs:List (Key×V)),ads.length=prs.length->(∀ (j:Nat) p kv,ads[j]?=some p->prs[j]?=some kv->H p=some (.tup [kV kv.1,kv.2])) ->
  ∃ rs,KV prs rs/\rs.length=prs.length/\∀ (j:Nat) kv,rs[j]?=some kv->∃ p u xs,ads[j]?=some p/\IsTup h p #[u,kv.2]/\(b8 prog w).is kv.1 u=true/\H p=some (.tup xs)
 | [],[],_,_=>⟨[],.nil,rfl,fun j kv e=>by simp at e⟩
 | p :: ads,kv :: prs,hl,hp=>by
  obtain ⟨rs,k1,k2,k3⟩:=Lx hok ads prs (by simpa using hl) fun j p kv e1 e2=>hp (j + 1) p kv (by simpa using e1) (by simpa using e2)
  have e0:=hp 0 p kv rfl rfl
  obtain ⟨_,its,r,tp⟩:=hok p _ e0
  cases r with
  | cons r1 t1=>
   cases t1 with
   | cons r2 t2=>
    cases t2
    rename_i u v
    refine ⟨(kv.1,v) :: rs,.cons ⟨rfl,r2⟩ k1,by simp [k2],fun j q e=>?_⟩
    cases j with
    | zero=>
     simp only[List.getElem?_cons_zero,Option.some.injEq] at e
     subst e
     exact ⟨p,u,_,rfl,tp,Nj r1,e0⟩
    | succ j=>
     rw[List.getElem?_cons_succ] at e
     obtain ⟨p',u',xs,e1,e2,e3,e4⟩:=k3 j q e
     exact ⟨p',u',xs,by simpa using e1,e2,e3,e4⟩
theorem ud:∀ {ads:List Addr}{its:List Value},Vals (ads.map V.ref) its->its=ads.map Value.ref
 | [],_,h=>by cases h; rfl
 | a :: ads,_,h=>by
  cases h with
  | cons r t=>
   rw[ud t]
   cases (show _=Value.ref a from r)
   rfl
section
variable {X:Cx}{o e:Expr}{apos cpos:Pos}{td ty:TE}
end
theorem X4 {r j:Nat}(h:r.testBit j=false):r + 2 ^ j=r ||| 2 ^ j:=by
 have hb:(r ||| 2 ^ j).testBit j=true:=by rw[Nat.testBit_or,Nat.testBit_two_pow_self,Bool.or_true]
 have e:(r ||| 2 ^ j) - 2 ^ j=r:=Nat.eq_of_testBit_eq fun k=>by
  rw[pq hb,Nat.testBit_or,Nat.testBit_two_pow]
  by_cases c:j=k
  ·subst c
   simp [h]
  ·simp [c,Ne.symm c]
 have:=Nat.ge_two_pow_of_testBit hb
 omega
theorem zG {r j:Nat}(h:r.testBit j=false) (k:Nat):(r + 2 ^ j).testBit k=(r.testBit k || decide (j=k)):=by
 rw[X4 h,Nat.testBit_or,Nat.testBit_two_pow]
def aV (mask value t:Nat):Nat->List Nat
 | 0=>[value]
 | n + 1=>if mask.testBit (t + 1 + n) then aV mask value t n else aV mask value t n ++ (aV mask value t n).map (· + 2 ^ (t + 1 + n))
theorem dJ {mask value t:Nat}(hv:∀ i,value.testBit i=true->mask.testBit i=true):∀ {n s:Nat},s∈aV mask value t n ↔ ∀ i,(i<=t\/t + 1 + n<=i\/mask.testBit i=true)->s.testBit i=value.testBit i
 | 0,s=>by
  unfold aV
  rw[List.mem_singleton]
  constructor
  ·rintro rfl i _; rfl
  ·intro h
   exact Nat.eq_of_testBit_eq fun i=>h i ω
 | n + 1,s=>by
  unfold aV
  split
  ·rename_i hm
   rw[dJ hv]
   constructor
   ·intro h i hi
    exact h i (hi.imp_right (Or.imp_left fun z=>by omega))
   ·intro h i hi
    by_cases c:i=t + 1 + n
    ·exact h i (.inr (.inr (by rw[c]; exact hm)))
    ·exact h i (hi.imp_right (Or.imp_left fun z=>by omega))
  ·rename_i hm
   have v0:value.testBit (t + 1 + n)=false:=Bool.eq_false_iff.mpr fun z=>hm (hv _ z)
   rw[List.mem_append,List.mem_map]
   constructor
   ·rintro (h | ⟨r,hr,rfl⟩) i hi
    ·exact (dJ hv).mp h i (hi.imp_right (Or.imp_left fun z=>by omega))
    ·have hr':=(dJ hv).mp hr
     have r0:r.testBit (t + 1 + n)=false:=by rw[hr' _ ω,v0]
     have ne:t + 1 + n≠i:=by
      rintro rfl
      rcases hi with h | h | h
      ·omega
      ·omega
      ·exact hm h
     rw[zG r0,decide_eq_false ne,Bool.or_false]
     exact hr' i (hi.imp_right (Or.imp_left fun z=>by omega))
   ·intro h
    cases hb:s.testBit (t + 1 + n) with
    | false=>
     refine .inl ((dJ hv).mpr fun i hi=>?_)
     by_cases c:i=t + 1 + n
     ·rw[c,hb,v0]
     ·exact h i (hi.imp_right (Or.imp_left fun z=>by omega))
    | true=>
     have hge:=Nat.ge_two_pow_of_testBit hb
     refine .inr ⟨s - 2 ^ (t + 1 + n),(dJ hv).mpr fun i hi=>?_,ω⟩
     rw[pq hb]
     by_cases c:i=t + 1 + n
     ·rw[c,v0]; simp
     ·rw[decide_eq_false c]
      simpa using h i (hi.imp_right (Or.imp_left fun z=>by omega))
theorem Oi {W mask value t p:Nat}(hv:value &&& mask=value) (hm:mask < 2 ^ W) (ht:mask.testBit t=true) (hl:∀ i,i < t->mask.testBit i=false) (hp:p < 2 ^ W) :
  p &&& mask=value ↔ ∃ s∈aV mask value t (W - (t + 1)),s<=p/\p < s + 2 ^ t:=by
 have vb:∀ i,value.testBit i=true->mask.testBit i=true:=fun i h=>by
  rw[<- hv,Nat.testBit_and] at h
  simp at h
  exact h.2
 have tW:t < W:=by
  rcases Nat.lt_or_ge t W with c | c
  ·exact c
  ·rw[Nat.testBit_lt_two_pow (Nat.lt_of_lt_of_le hm (Nat.pow_le_pow_right δ c))] at ht
   cases ht
 have vW:value < 2 ^ W:=by
  have:value<=mask:=by rw[<- hv]; exact Nat.and_le_right
  omega
 have hi0:∀ {y i:Nat},y < 2 ^ W->W<=i->y.testBit i=false:=fun hy h=>Nat.testBit_lt_two_pow (Nat.lt_of_lt_of_le hy (Nat.pow_le_pow_right δ h))
 constructor
 ·intro h
  have hb:∀ i,value.testBit i=(p.testBit i && mask.testBit i):=fun i=>by rw[<- h,Nat.testBit_and]
  refine ⟨2 ^ t * (p / 2 ^ t),(dJ vb).mpr fun i hi=>?_,?_,?_⟩
  ·rw[Nat.testBit_two_pow_mul]
   by_cases c:i < t
   ·rw[decide_eq_false ω,Bool.false_and,hb,hl i c,Bool.and_false]
   ·rw[decide_eq_true ω,Bool.true_and,Nat.testBit_div_two_pow,Nat.sub_add_cancel ω,hb]
    by_cases c2:W<=i
    ·rw[hi0 hp c2]; rfl
    ·have:mask.testBit i=true:=by
      rcases hi with a | a | a
      ·rw[show i=t by omega]; exact ht
      ·omega
      ·exact a
     rw[this,Bool.and_true]
  ·exact Nat.mul_div_le p (2 ^ t)
  ·have:=Nat.lt_mul_div_succ p (show 0 < 2 ^ t from Nat.two_pow_pos t)
   rw[Nat.mul_add,Nat.mul_one] at this
   exact this
 ·rintro ⟨s,hs,h1,h2⟩
  have hsb:=(dJ vb).mp hs
  have slow:∀ i,i < t->s.testBit i=false:=fun i hi=>by
   rw[hsb i ω]
   exact Bool.eq_false_iff.mpr fun z=>by
    have:=vb i z
    rw[hl i hi] at this
    cases this
  have sd:2 ^ t * (s / 2 ^ t)=s:=Nat.eq_of_testBit_eq fun i=>by
   rw[Nat.testBit_two_pow_mul]
   by_cases c:i < t
   ·rw[decide_eq_false ω,Bool.false_and,slow i c]
   ·rw[decide_eq_true ω,Bool.true_and,Nat.testBit_div_two_pow,Nat.sub_add_cancel ω]
  have pd:p / 2 ^ t=s / 2 ^ t:=by
   refine Nat.div_eq_of_lt_le ?_ ?_
   ·rw[Nat.mul_comm,sd]; exact h1
   ·rw[Nat.mul_comm,Nat.mul_add,sd,Nat.mul_one]; exact h2
  refine Nat.eq_of_testBit_eq fun i=>?_
  rw[Nat.testBit_and]
  cases hmi:mask.testBit i with
  | false=>
   rw[Bool.and_false]
   exact (Bool.eq_false_iff.mpr fun z=>by rw[vb i z] at hmi; cases hmi).symm
  | true=>
   rw[Bool.and_true,<- hsb i (.inr (.inr hmi))]
   have ti:t<=i:=by
    rcases Nat.lt_or_ge i t with c | c
    ·rw[hl i c] at hmi; cases hmi
    ·exact c
   have e:∀ y:Nat,y.testBit i=(y / 2 ^ t).testBit (i - t):=fun y=>by rw[Nat.testBit_div_two_pow,Nat.sub_add_cancel ti]
   rw[e p,e s,pd]
def cov (xs:List (Int×Int)) (n:Int):Prop:=∃ s,s∈xs/\s.1<=n/\n<=s.2
theorem tY {n:Int}:¬ cov [] n:=fun ⟨s,m,_⟩=>by cases m
theorem jh {xs ys:List (Int×Int)}{n:Int}:cov (xs ++ ys) n ↔ cov xs n\/cov ys n:=by
 constructor
 ·rintro ⟨s,m,h⟩
  rcases List.mem_append.mp m with m | m
  ·exact .inl ⟨s,m,h⟩
  ·exact .inr ⟨s,m,h⟩
 ·rintro (⟨s,m,h⟩ | ⟨s,m,h⟩)
  ·exact ⟨s,List.mem_append_left _ m,h⟩
  ·exact ⟨s,List.mem_append_right _ m,h⟩
theorem lO {s:Int×Int}{n:Int}:cov [s] n ↔ s.1<=n/\n<=s.2:=by
 constructor
 ·rintro ⟨t,m,h⟩
  rw[List.mem_singleton.mp m] at h
  exact h
 ·exact fun h=>⟨s,List.mem_singleton.mpr rfl,h⟩
theorem OD {xs ys:List (Int×Int)}(h:xs.Perm ys) {n:Int}:cov xs n ↔ cov ys n:=
 ⟨fun ⟨s,m,q⟩=>⟨s,h.mem_iff.mp m,q⟩,fun ⟨s,m,q⟩=>⟨s,h.mem_iff.mpr m,q⟩⟩
structure Gap (xs:List (Int×Int)):Prop where
 ne:∀ s,s∈xs->s.1<=s.2
 up:xs.Pairwise fun a b=>a.2 + 1 < b.1
structure Dis (xs:List (Int×Int)):Prop where
 ne:∀ s,s∈xs->s.1<=s.2
 df:xs.Pairwise fun a b=>a.2 < b.1\/b.2 < a.1
theorem Gap.nil:Gap []:=⟨fun s m=>(by cases m),.nil⟩
structure JI (zs told:List (Int×Int)) (i:Nat):Prop where
 gap:Gap told
 cv:∀ n,cov told n ↔ cov (zs.take i) n
 be:∀ t,t∈told->∀ z,z∈zs.drop i->t.2 < z.1
 fs:∀ t,t∈told->∃ z,z∈zs/\z.1=t.1
 ln:told.length<=i
theorem tO {α:Type}{zs:List α}{i:Nat}{z:α}(h:zs[i]?=some z):zs.take (i + 1)=zs.take i ++ [z]:=by
 rw[List.take_add_one,h]
 rfl
theorem jH {α:Type}{zs:List α}{i:Nat}{z:α}(h:zs[i]?=some z):zs.drop i=z :: zs.drop (i + 1):=by
 obtain ⟨hi,e⟩:=List.getElem?_eq_some_iff.mp h
 rw[List.drop_eq_getElem_cons hi,e]
def newOf (out:List (Int×(Int×Int))) (g:Int):List (Int×Int):=(out.filter fun x=>x.1 == g).map (·.2)
structure Sent (ss:List (Int×Int)) (ws:List (Int×Int×Int)) (out:List (Int×(Int×Int))):Prop where
 fr:∀ x,x∈out->x.2.1<=x.2.2/\∃ s w,s∈ss/\w∈ws/\w.2.2=x.1/\w.1<=x.2.1/\x.2.2<=w.2.1/\s.1<=x.2.1/\x.2.2<=s.2/\(x.2.1=w.1\/x.2.1=s.1)
 up:out.Pairwise fun x y=>x.2.2 < y.2.1
 al:∀ s w n,s∈ss->w∈ws->s.1<=n->n<=s.2->w.1<=n->n<=w.2.1->cov (newOf out w.2.2) n
def nOf (W:Nat) (sg:Int) (p:Nat):Int:=if sg≠0/\2 ^ (W - 1)<=p then (p:Int) - 2 ^ W else p
def oJ (W:Nat) (sg:Int):Int:=if sg=0 then 0 else -2 ^ (W - 1)
theorem Cj {t W s:Nat}(ht:t < W) (hd:2 ^ t * (s / 2 ^ t)=s):(s < 2 ^ (W - 1)->s + 2 ^ t<=2 ^ (W - 1))/\(s < 2 ^ W->s + 2 ^ t<=2 ^ W):=by
 have key:∀ u,t<=u->s < 2 ^ u->s + 2 ^ t<=2 ^ u:=fun u hu h=>by
  have e:2 ^ u=2 ^ t * 2 ^ (u - t):=by rw[<- Nat.pow_add]; congr 1; omega
  rw[e,<- hd] at h
  have hc:s / 2 ^ t < 2 ^ (u - t):=Nat.lt_of_mul_lt_mul_left h
  have:=Nat.mul_le_mul_left (2 ^ t) hc
  rw[Nat.mul_succ,hd] at this
  rw[e]
  exact this
 exact ⟨key _ ω,key _ ω⟩
theorem WY {W:Nat}{sg n:Int}(hW:1<=W) (h1:oJ W sg<=n) (h2:n < oJ W sg + 2 ^ W):(0<=n/\n % 2 ^ W=n)\/(n < 0/\n % 2 ^ W=n + 2 ^ W/\sg≠0/\2 ^ (W - 1)<=n + 2 ^ W):=by
 have e:(2:Int) ^ W=2 * 2 ^ (W - 1):=by
  obtain ⟨V,rfl⟩:∃ V,W=V + 1:=⟨W - 1,ω⟩
  rw[Nat.add_sub_cancel,Int.pow_succ,Int.mul_comm]
 have hp:(0:Int) < 2 ^ (W - 1):=Int.pow_pos δ
 unfold oJ at h1 h2
 by_cases c:0<=n
 ·left
  refine ⟨c,Int.emod_eq_of_lt c ?_⟩
  split at h2 <;> omega
 ·right
  have hs:sg≠0:=by
   rintro rfl
   rw[if_pos rfl] at h1
   omega
  rw[if_neg hs] at h1 h2
  refine ⟨ω,?_,hs,ω⟩
  rw[<- Int.add_emod_right n ((2:Int) ^ W)]
  exact Int.emod_eq_of_lt ω ω
theorem Ci {W t s:Nat}{sg n:Int}(hW:1<=W) (ht:t < W) (hs:s < 2 ^ W) (hd:2 ^ t * (s / 2 ^ t)=s) (h1:oJ W sg<=n) (h2:n < oJ W sg + 2 ^ W) :
  (nOf W sg s<=n/\n<=nOf W sg s + 2 ^ t - 1) ↔ (s<=(n % 2 ^ W).toNat/\(n % 2 ^ W).toNat < s + 2 ^ t):=by
 obtain ⟨k1,k2⟩:=Cj ht hd
 replace k2:=k2 hs
 have eN:2 ^ W=2 * 2 ^ (W - 1):=by
  obtain ⟨V,rfl⟩:∃ V,W=V + 1:=⟨W - 1,ω⟩
  rw[Nat.add_sub_cancel,Nat.pow_succ,Nat.mul_comm]
 have c1:((2 ^ W:Nat):Int)=2 ^ W:=by rw[Int.natCast_pow]; rfl
 have c2:((2 ^ (W - 1):Nat):Int)=2 ^ (W - 1):=by rw[Int.natCast_pow]; rfl
 have c3:((2 ^ t:Nat):Int)=2 ^ t:=by rw[Int.natCast_pow]; rfl
 have hm:=WY hW h1 h2
 have hl:oJ W sg=if sg=0 then 0 else -((2 ^ (W - 1):Nat):Int):=by rw[c2]; rfl
 rw[hl,<- c1] at h2
 rw[hl] at h1
 unfold nOf
 rw[<- c1,<- c2] at hm
 rw[<- c1,<- c3]
 clear hl
 generalize (n % ((2 ^ W:Nat):Int))=p at *
 generalize 2 ^ (W - 1)=H at *
 clear c1 c2 c3 hd
 generalize (2:Nat) ^ W=D at *
 generalize 2 ^ t=T at *
 by_cases g:sg=0
 ·subst g
  rw[if_pos rfl] at h1 h2
  rw[if_neg (by simp)]
  omega
 ·rw[if_neg g] at h1 h2
  by_cases c:H<=s
  ·rw[if_pos ⟨g,c⟩]
   omega
  ·rw[if_neg (fun z=>c z.2)]
   have:=k1 ω
   omega
def GF (W:Nat) (sg:Int) (m v t:Nat):List (Int×Int):=(aV m v t (W - (t + 1))).map fun s=>(nOf W sg s,nOf W sg s + 2 ^ t - 1)
theorem kI {W m v t:Nat}{sg n:Int}(hW:1<=W) (hv:v &&& m=v) (hm:m < 2 ^ W) (ht:m.testBit t=true) (hl:∀ i,i < t->m.testBit i=false) (h1:oJ W sg<=n) (h2:n < oJ W sg + 2 ^ W) :
  cov (GF W sg m v t) n ↔ (n % 2 ^ W).toNat &&& m=v:=by
 have tW:t < W:=by
  rcases Nat.lt_or_ge t W with c | c
  ·exact c
  ·rw[Nat.testBit_lt_two_pow (Nat.lt_of_lt_of_le hm (Nat.pow_le_pow_right δ c))] at ht
   cases ht
 have hp:(n % 2 ^ W).toNat < 2 ^ W:=by
  have a:=Int.emod_lt_of_pos n (show (0:Int) < 2 ^ W from Int.pow_pos δ)
  have b:=Int.emod_nonneg n (show (2:Int) ^ W≠0 from Int.ne_of_gt (Int.pow_pos δ))
  have c1:((2 ^ W:Nat):Int)=2 ^ W:=by rw[Int.natCast_pow]; rfl
  omega
 have vb:∀ i,v.testBit i=true->m.testBit i=true:=fun i h=>by
  rw[<- hv,Nat.testBit_and] at h
  simp at h
  exact h.2
 have vW:v < 2 ^ W:=by
  have:v<=m:=by rw[<- hv]; exact Nat.and_le_right
  omega
 have fact:∀ s∈aV m v t (W - (t + 1)),s < 2 ^ W/\2 ^ t * (s / 2 ^ t)=s:=fun s hs=>by
  have hsb:=(dJ vb).mp hs
  have slow:∀ i,i < t->s.testBit i=false:=fun i hi=>by
   rw[hsb i ω]
   exact Bool.eq_false_iff.mpr fun z=>by
    have:=vb i z
    rw[hl i hi] at this
    cases this
  refine ⟨Nat.lt_pow_two_of_testBit s fun i hi=>?_,Nat.eq_of_testBit_eq fun i=>?_⟩
  ·rw[hsb i ω]
   exact Nat.testBit_lt_two_pow (Nat.lt_of_lt_of_le vW (Nat.pow_le_pow_right δ hi))
  ·rw[Nat.testBit_two_pow_mul]
   by_cases c:i < t
   ·rw[decide_eq_false ω,Bool.false_and,slow i c]
   ·rw[decide_eq_true ω,Bool.true_and,Nat.testBit_div_two_pow,Nat.sub_add_cancel ω]
 rw[Oi hv hm ht hl hp]
 constructor
 ·rintro ⟨x,mx,a,b⟩
  obtain ⟨s,ms,rfl⟩:=List.mem_map.mp mx
  exact ⟨s,ms,(Ci hW tW (fact s ms).1 (fact s ms).2 h1 h2).mp ⟨a,b⟩⟩
 ·rintro ⟨s,ms,h⟩
  obtain ⟨a,b⟩:=(Ci hW tW (fact s ms).1 (fact s ms).2 h1 h2).mpr h
  exact ⟨_,List.mem_map.mpr ⟨s,ms,rfl⟩,a,b⟩
structure JW (zs told:List (Int×Int)) (i:Nat):Prop where
 gap:Gap told
 cv:∀ n,cov told n ↔ cov (zs.take i) n
 be:∀ t,t∈told->∀ z,z∈zs.drop i->t.1<=z.1
 fs:∀ t,t∈told->∃ z,z∈zs/\z.1=t.1
 ln:told.length<=i
theorem JW.start (zs:List (Int×Int)):JW zs [] 0:=⟨.nil,fun n=>Iff.rfl,fun t m=>(by cases m),fun t m=>(by cases m),Nat.le_refl _⟩
theorem JW.fresh {zs told:List (Int×Int)}{i:Nat}{z:Int×Int}(h:JW zs told i) (hz:zs[i]?=some z) (hn:∀ s,s∈zs->s.1<=s.2) (hu:zs.Pairwise fun a b=>a.1<=b.1)
  (hl:∀ t,told.getLast?=some t->¬ z.1<=t.2 + 1):JW zs (told ++ [z]) (i + 1):=by
 have mz:z∈zs:=List.mem_of_getElem? hz
 have e:=jH hz
 have hu2:(zs.drop i).Pairwise fun a b=>a.1<=b.1:=hu.sublist (List.drop_sublist _ _)
 rw[e] at hu2
 have hu3:=List.pairwise_cons.mp hu2
 refine ⟨⟨fun s m=>?_,List.pairwise_append.mpr ⟨h.gap.up,List.pairwise_singleton _ _,fun a ma b mb=>?_⟩⟩,fun n=>?_,fun t m z' mz'=>?_,fun t m=>?_,by rw[List.length_append,List.length_singleton]; have:=h.ln; omega⟩
 ·rcases List.mem_append.mp m with m | m
  ·exact h.gap.ne s m
  ·rw[List.mem_singleton.mp m]; exact hn z mz
 ·rw[List.mem_singleton.mp mb]
  rcases List.eq_nil_or_concat told with e0 | ⟨pre,t,e0⟩
  ·rw[e0] at ma; cases ma
  ·subst e0
   have h1:=hl t (by simp)
   have ma:a∈pre ++ [t]:=by simpa using ma
   have hup:(pre ++ [t]).Pairwise fun a b=>a.2 + 1 < b.1:=by simpa using h.gap.up
   rcases List.mem_append.mp ma with m | m
   ·have:=(List.pairwise_append.mp hup).2.2 a m t (by simp)
    have:=h.gap.ne t (by simp)
    omega
   ·rw[List.mem_singleton.mp m]; omega
 ·rw[jh,tO hz,jh,h.cv]
 ·rcases List.mem_append.mp m with m | m
  ·exact h.be t m z' (by rw[e]; exact List.mem_cons_of_mem _ mz')
  ·rw[List.mem_singleton.mp m]; exact hu3.1 z' mz'
 ·rcases List.mem_append.mp m with m | m
  ·exact h.fs t m
  ·exact ⟨z,mz,by rw[List.mem_singleton.mp m]⟩
theorem JW.grown {zs pre:List (Int×Int)}{t:Int×Int}{i:Nat}{z:Int×Int}(h:JW zs (pre ++ [t]) i) (hz:zs[i]?=some z) (hn:∀ s,s∈zs->s.1<=s.2) (hu:zs.Pairwise fun a b=>a.1<=b.1)
  (hl:z.1<=t.2 + 1):JW zs (pre ++ [(t.1,max z.2 t.2)]) (i + 1):=by
 have mz:z∈zs:=List.mem_of_getElem? hz
 have e:=jH hz
 have hu2:(zs.drop i).Pairwise fun a b=>a.1<=b.1:=hu.sublist (List.drop_sublist _ _)
 rw[e] at hu2
 have hu3:=List.pairwise_cons.mp hu2
 have hg:=List.pairwise_append.mp h.gap.up
 have nt:=h.gap.ne t (by simp)
 have nz:=hn z mz
 have tz:=h.be t (by simp) z (by rw[e]; exact List.mem_cons_self ..)
 refine ⟨⟨fun s m=>?_,List.pairwise_append.mpr ⟨hg.1,List.pairwise_singleton _ _,fun a ma b mb=>?_⟩⟩,fun n=>?_,fun s m z' mz'=>?_,fun s m=>?_,by have:=h.ln; simp only[List.length_append,List.length_singleton] at this |-; omega⟩
 ·rcases List.mem_append.mp m with m | m
  ·exact h.gap.ne s (List.mem_append_left _ m)
  ·rw[List.mem_singleton.mp m]; show t.1<=max z.2 t.2; omega
 ·rw[List.mem_singleton.mp mb]
  exact hg.2.2 a ma t (by simp)
 ·rw[tO hz,jh,jh,<- h.cv,jh,lO,lO,lO]
  show (cov pre n\/t.1<=n/\n<=max z.2 t.2) ↔ _
  constructor
  ·rintro (q | ⟨q1,q2⟩)
   ·exact .inl (.inl q)
   ·by_cases c:n<=t.2
    ·exact .inl (.inr ⟨q1,c⟩)
    ·exact .inr ⟨ω,ω⟩
  ·rintro ((q | ⟨q1,q2⟩) | ⟨q1,q2⟩)
   ·exact .inl q
   ·exact .inr ⟨q1,ω⟩
   ·exact .inr ⟨ω,ω⟩
 ·rcases List.mem_append.mp m with m | m
  ·exact h.be s (List.mem_append_left _ m) z' (by rw[e]; exact List.mem_cons_of_mem _ mz')
  ·rw[List.mem_singleton.mp m]
   have:=hu3.1 z' mz'
   have:=h.be t (by simp) z' (by rw[e]; exact List.mem_cons_of_mem _ mz')
   show t.1<=z'.1
   omega
 ·rcases List.mem_append.mp m with m | m
  ·exact h.fs s (List.mem_append_left _ m)
  ·rw[List.mem_singleton.mp m]
   exact h.fs t (by simp)
theorem DR {p:Nat->Bool}:∀ n,p n=true->∃ t,p t=true/\∀ i,i < t->p i=false:=by
 intro n
 induction n using Nat.strongRecOn with
 | ind n ih=>
  intro h
  by_cases c:∃ i,i < n/\p i=true
  ·obtain ⟨i,hi,pi⟩:=c
   exact ih i hi pi
  ·exact ⟨n,h,fun i hi=>Bool.eq_false_iff.mpr fun z=>c ⟨i,hi,z⟩⟩
theorem yU {m:Nat}(h:m≠0):∃ t,m.testBit t=true/\∀ i,i < t->m.testBit i=false:=by
 obtain ⟨n,hn⟩:∃ n,m.testBit n=true:=by
  by_cases c:∃ n,m.testBit n=true
  ·exact c
  ·exfalso
   refine h (Nat.eq_of_testBit_eq fun i=>?_)
   rw[Nat.zero_testBit]
   exact Bool.eq_false_iff.mpr fun z=>c ⟨i,z⟩
 exact DR n hn
def YZ (W:Nat) (sg:Int) (n:Int):It1->Prop
 | .one a=>n=a
 | .rng a _=>n=a
 | .bits m v=>v &&& m=v/\∃ t s,m.testBit t=true/\(∀ i,i < t->m.testBit i=false)/\s∈aV m v t (W - (t + 1))/\n=nOf W sg s
def YF (W:Nat):It1->Prop
 | .bits m _=>m < 2 ^ W
 | _=>True
theorem begins {W:Nat}{sg n:Int}{it:It1} (hW:1<=W) (hm:YF W it) (h1:oJ W sg < n) (h2:n < oJ W sg + 2 ^ W) (h:aQ W n it=true) (h':aQ W (n - 1) it=false):YZ W sg n it:=by
 cases it with
 | one a=>
  show n=a
  simpa [aQ] using h
 | rng a b=>
  simp [aQ] at h h'
  show n=a
  omega
 | bits m v=>
  have e:aQ W n (.bits m v)=decide ((n % 2 ^ W).toNat &&& m=v):=by simp [aQ]
  have e':aQ W (n - 1) (.bits m v)=decide (((n - 1) % 2 ^ W).toNat &&& m=v):=by simp [aQ]
  rw[e,decide_eq_true_iff] at h
  rw[e',decide_eq_false_iff_not] at h'
  have hv:v &&& m=v:=by rw[<- h,Nat.and_assoc,Nat.and_self]
  have m0:m≠0:=by
   rintro rfl
   rw[Nat.and_zero] at h h'
   exact h' h
  obtain ⟨t,ht,hl⟩:=yU m0
  obtain ⟨x,mx,x1,x2⟩:=(kI hW hv hm ht hl ω h2).mpr h
  obtain ⟨s,ms,rfl⟩:=List.mem_map.mp mx
  refine ⟨hv,t,s,ht,hl,ms,?_⟩
  replace x1:nOf W sg s<=n:=x1
  replace x2:n<=nOf W sg s + 2 ^ t - 1:=x2
  rcases Int.lt_or_le (nOf W sg s) n with c | c
  ·exfalso
   refine h' ((kI hW hv hm ht hl ω ω).mp ⟨_,mx,?_,?_⟩)
   ·show nOf W sg s<=n - 1
    omega
   ·show n - 1<=nOf W sg s + 2 ^ t - 1
    omega
  ·omega
def BK (W:Int) (css:List (List It1)) (n:Int):Nat:=(css.filter fun its=>its.any (aQ W n)).length
def jk (fs:List Nat) (j:Nat):Nat:=((fs.zipIdx.filter fun x=>j.testBit x.2).map fun x=>2 ^ x.1).sum
theorem nO (fs:List Nat) (p j:Nat):jk (fs ++ [p]) j=jk fs j + if j.testBit fs.length then 2 ^ p else 0:=by
 unfold jk
 rw[List.zipIdx_append,List.filter_append,List.map_append,List.sum_append]
 congr 1
 simp only[List.zipIdx_cons,List.zipIdx_nil,List.filter_cons,List.filter_nil,Nat.zero_add]
 split <;> simp
theorem zW {fs:List Nat}{j k:Nat}(h:∀ i,i < fs.length->j.testBit i=k.testBit i):jk fs j=jk fs k:=by
 unfold jk
 congr 2
 refine List.filter_congr fun x hx=>?_
 obtain ⟨_,h2,_⟩:=List.mem_zipIdx hx
 exact h x.2 ω
def cY (m t n:Nat):List Nat:=(List.range' (t + 1) n).filter fun k=>!m.testBit k
theorem nG (m t n:Nat):cY m t (n + 1)=if m.testBit (t + 1 + n) then cY m t n else cY m t n ++ [t + 1 + n]:=by
 unfold cY
 rw[List.range'_concat,List.filter_append,Nat.one_mul]
 cases h:m.testBit (t + 1 + n) <;> simp [List.filter_cons,h]
theorem fX {m v t:Nat}:∀ {n s:Nat},s∈aV m v t n ↔ ∃ j,j < 2 ^ (cY m t n).length/\s=v + jk (cY m t n) j
 | 0,s=>by
  have e:cY m t 0=[]:=rfl
  unfold aV
  rw[e,List.mem_singleton]
  constructor
  ·rintro rfl
   exact ⟨0,by simp,by simp [jk]⟩
  ·rintro ⟨j,_,h⟩
   rw[h]
   simp [jk]
 | n + 1,s=>by
  unfold aV
  rw[nG]
  split
  ·exact fX
  ·rw[List.mem_append,List.mem_map,List.length_append,List.length_singleton,Nat.pow_succ]
   constructor
   ·rintro (h | ⟨r,hr,rfl⟩)
    ·obtain ⟨j,hj,rfl⟩:=fX.mp h
     refine ⟨j,ω,?_⟩
     rw[nO,Nat.testBit_lt_two_pow hj]
     simp
    ·obtain ⟨j,hj,rfl⟩:=fX.mp hr
     have j0:=Nat.testBit_lt_two_pow hj
     refine ⟨j + 2 ^ (cY m t n).length,ω,?_⟩
     rw[nO,zG j0,zW (j:=j + 2 ^ (cY m t n).length) (k:=j) fun i hi=>by rw[zG j0,decide_eq_false ω,Bool.or_false]]
     simp
     omega
   ·rintro ⟨j,hj,rfl⟩
    rw[nO]
    cases hb:j.testBit (cY m t n).length with
    | false=>
     refine .inl (fX.mpr ⟨j,?_,by simp⟩)
     refine Nat.lt_pow_two_of_testBit j fun i hi=>?_
     by_cases c:i=(cY m t n).length
     ·rw[c,hb]
     ·exact Nat.testBit_lt_two_pow (Nat.lt_of_lt_of_le (show j < 2 ^ ((cY m t n).length + 1) by rw[Nat.pow_succ]; exact hj) (Nat.pow_le_pow_right δ ω))
    | true=>
     have hge:=Nat.ge_two_pow_of_testBit hb
     refine .inr ⟨v + jk (cY m t n) (j - 2 ^ (cY m t n).length),fX.mpr ⟨_,ω,rfl⟩,?_⟩
     rw[zW (j:=j - 2 ^ (cY m t n).length) (k:=j) fun i hi=>by rw[pq hb,decide_eq_false ω]; simp]
     simp
     omega
theorem vC {W m t:Nat}(ht:m.testBit t=true) (hl:∀ i,i < t->m.testBit i=false) (tW:t < W):frees W m=cY m t (W - (t + 1)):=by
 unfold frees cY
 have e:List.range W=List.range (t + 1) ++ List.range' (t + 1) (W - (t + 1)):=by
  have:=List.range'_append_1 (s:=0) (m:=t + 1) (n:=W - (t + 1))
  rw[Nat.zero_add,show t + 1 + (W - (t + 1))=W by omega] at this
  rw[List.range_eq_range',List.range_eq_range',this]
 rw[e,List.filter_append]
 have z:(List.range (t + 1)).filter (isFree m)=[]:=List.filter_eq_nil_iff.mpr fun k hk h=>by
  have hk':=List.mem_range.mp hk
  unfold isFree at h
  simp only[Bool.and_eq_true,Bool.not_eq_true',List.any_eq_true] at h
  obtain ⟨_,j,hj,mj⟩:=h
  have:=List.mem_range.mp hj
  rw[hl j ω] at mj
  cases mj
 rw[z,List.nil_append]
 refine List.filter_congr fun k hk=>?_
 have hk':=List.mem_range'_1.mp hk
 unfold isFree
 rw[List.any_eq_true.mpr ⟨t,List.mem_range.mpr ω,ht⟩,Bool.and_true]
def Fq:Sp:=fun vs H Q _=>∃ (w s:Int) (p:Nat),vs=[.int p,.int w,.int s]/\1<=w/\w<=40/\(s=0\/s=1)/\p < 2 ^ w.toNat/\Q (.int (nOf w.toNat s p)) H
theorem WT {w s:Int}{p:Nat}(h1:1<=w) (hs:s=0\/s=1) (hp:p < 2 ^ w.toNat):nOf w.toNat s p=if wl w s + 2 ^ w.toNat - 1 < (p:Int) then (p:Int) - 2 ^ w.toNat else p:=by
 have e:=kh h1
 have e2:w.toNat - 1=(w - 1).toNat:=by omega
 have c1:((2 ^ w.toNat:Nat):Int)=2 ^ w.toNat:=by rw[Int.natCast_pow]; rfl
 have c2:((2 ^ (w - 1).toNat:Nat):Int)=2 ^ (w - 1).toNat:=by rw[Int.natCast_pow]; rfl
 unfold nOf wl
 rw[e2]
 rcases hs with rfl | rfl
 ·rw[if_neg (by simp),if_neg ω]
 ·by_cases c:2 ^ (w - 1).toNat<=p
  ·rw[if_pos ⟨δ,c⟩,if_pos ω]
  ·rw[if_neg fun z=>c z.2,if_neg ω]
theorem Pz {m t:Nat}(ht:m.testBit t=true) (hl:∀ i,i < t->m.testBit i=false):m &&& (m - 1)=m - 2 ^ t:=by
 have hr:m % 2 ^ (t + 1)=2 ^ t:=Nat.eq_of_testBit_eq fun k=>by
  rw[Nat.testBit_mod_two_pow,Nat.testBit_two_pow]
  by_cases c:t=k
  ·subst c
   simp [ht]
  ·by_cases c2:k < t
   ·simp [hl k c2,c]
   ·have:¬ k < t + 1:=by omega
    simp [this,c]
 have hm:=Nat.div_add_mod m (2 ^ (t + 1))
 have hp:=Nat.two_pow_pos t
 have e:m - 1=2 ^ (t + 1) * (m / 2 ^ (t + 1)) + (2 ^ t - 1):=by omega
 have lt:2 ^ t - 1 < 2 ^ (t + 1):=by rw[Nat.pow_succ]; omega
 refine Nat.eq_of_testBit_eq fun k=>?_
 rw[Nat.testBit_and,pq ht,e,Nat.testBit_two_pow_mul_add _ lt]
 by_cases c:k < t + 1
 ·rw[if_pos c,Nat.testBit_two_pow_sub_one]
  by_cases c2:k=t
  ·subst c2
   simp
  ·rw[hl k ω]
   simp
 ·rw[if_neg c,Nat.testBit_div_two_pow,Nat.sub_add_cancel ω,decide_eq_false (by omega:¬ k=t)]
  simp
theorem UW {m t:Nat}(ht:m.testBit t=true) (hl:∀ i,i < t->m.testBit i=false):Builtin.bitAnd (m:Int) (-(m:Int))=2 ^ t:=by
 have hge:=Nat.ge_two_pow_of_testBit ht
 have hp:=Nat.two_pow_pos t
 have c1:((2 ^ t:Nat):Int)=2 ^ t:=by rw[Int.natCast_pow]; rfl
 have hneg:¬ (0<=-(m:Int)):=by omega
 have e:=Pz ht hl
 unfold Builtin.bitAnd
 simp only[hneg,decide_false,Int.natCast_nonneg,decide_true,Int.toNat_natCast]
 have eb:(Builtin.bitNot (-(m:Int))).toNat=m - 1:=by
  unfold Builtin.bitNot
  omega
 rw[eb,e]
 omega
def Goes (cs:List RowC) (n:Int) (y:Nat) (x:Int):Prop:=∃ c,cs[y]?=some c/\YL c=false/\U6 c (y:Int) n=some x
theorem Goes.inj {cs:List RowC}{n:Int}{y:Nat}{x z:Int}(h:Goes cs n y x) (k:Goes cs n y z):x=z:=by
 obtain ⟨c,hc,_,hs⟩:=h
 obtain ⟨d,hd,_,ht⟩:=k
 rw[hc] at hd
 cases hd
 rw[hs] at ht
 cases ht
 rfl
def Cm (cs:List RowC) (n:Int) (j:Nat):Prop:=(j:Int)∈(runOf cs n).2
def stC:RowC->Int->Prop
 | .one a _,n=>n=a\/n=a + 1
 | .rng a b _,n=>n=a\/n=b + 1
 | .low a _,n=>n=a
 | .msk lo wd _ _,n=>lo<=n/\n < lo + wd
 | .tab lo gs,n=>lo<=n/\n < lo + gs.length
 | .pik _,_=>False
def Zt (cs:List RowC) (low n:Int):Prop:=n=low\/∃ (i:Nat) (c:RowC),cs[i]?=some c/\stC c n
structure CI (cs:List RowC) (low high:Int) (X:Nat->List (Int×Int)) (k:Nat):Prop where
 dn:∀ j,j < k->Gap (X j)
 dc:∀ j n,j < k->(cov (X j) n ↔ low<=n/\n<=high/\Cm cs n j)
 ra:∀ j,k<=j->Dis (X j)
 rc:∀ j n,k<=j->(cov (X j) n ↔ low<=n/\n<=high/\(j=0\/∃ y:Nat,y < k/\Cm cs n y/\Goes cs n y (j:Int)))
 fs:∀ j s,s∈X j->Zt cs low s.1
structure RunsI (first:Int) (goals:List Int) (ws:List (Int×Int×Int)) (i:Nat):Prop where
 up:ws.Pairwise fun a b=>a.2.1 < b.1
 cv:∀ n g,(∃ w,w∈ws/\w.2.2=g/\w.1<=n/\n<=w.2.1) ↔ first<=n/\n < first + i/\goals[(n - first).toNat]?=some g
 rg:∀ w,w∈ws->first<=w.1/\w.1<=w.2.1/\w.2.1 < first + i/\w.2.2∈goals
 ls:∀ w,ws.getLast?=some w->w.2.1=first + i - 1
 ln:ws.length<=i
structure WI (ss os:List (Int×Int)) (i k:Nat):Prop where
 ins:∀ n,cov (ss.take i) n->cov os n
 pre:∀ o,o∈os.take k->∀ s,s∈ss.drop i->o.2 < s.2
 le:k<=os.length
theorem WI.start (ss os:List (Int×Int)):WI ss os 0 0:=⟨fun n q=>absurd q tY,fun o m=>(by cases m),Nat.zero_le _⟩
theorem WI.skip {ss os:List (Int×Int)}{i k:Nat}{s o:Int×Int}(h:WI ss os i k) (hg:Gap ss) (hs:ss[i]?=some s) (ho:os[k]?=some o) (hl:o.2 < s.2):WI ss os i (k + 1):=by
 refine ⟨h.ins,fun x mx t mt=>?_,(List.getElem?_eq_some_iff.mp ho).1⟩
 rw[tO ho] at mx
 rcases List.mem_append.mp mx with mx | mx
 ·exact h.pre x mx t mt
 ·rw[List.mem_singleton.mp mx]
  have e:=jH hs
  rw[e] at mt
  rcases List.mem_cons.mp mt with rfl | mt
  ·exact hl
  ·have hu:(ss.drop i).Pairwise fun a b=>a.2 + 1 < b.1:=hg.up.sublist (List.drop_sublist _ _)
   rw[e] at hu
   have:=(List.pairwise_cons.mp hu).1 t mt
   have mt2:t∈ss.drop i:=by rw[e]; exact List.mem_cons_of_mem _ mt
   have:=hg.ne t (List.mem_of_mem_drop mt2)
   omega
theorem WI.next {ss os:List (Int×Int)}{i k:Nat}{s o:Int×Int}(h:WI ss os i k) (hs:ss[i]?=some s) (ho:os[k]?=some o) (h1:s.2<=o.2) (h2:o.1<=s.1):WI ss os (i + 1) k:=by
 refine ⟨fun n q=>?_,fun x mx t mt=>h.pre x mx t (by rw[jH hs]; exact List.mem_cons_of_mem _ mt),h.le⟩
 rw[tO hs,jh,lO] at q
 rcases q with q | q
 ·exact h.ins n q
 ·exact ⟨o,List.mem_of_getElem? ho,ω,ω⟩
theorem WI.not {ss os:List (Int×Int)}{i k:Nat}{s:Int×Int}(h:WI ss os i k) (hg:Gap ss) (hgo:Gap os) (hs:ss[i]?=some s) (hk:k=os.length\/∃ o,os[k]?=some o/\s.2<=o.2/\s.1 < o.1):¬ ∀ n,cov ss n->cov os n:=by
 intro q
 have ms:s∈ss:=List.mem_of_getElem? hs
 have nes:=hg.ne s ms
 have pre:∀ o,o∈os.take k->o.2 < s.2:=fun o mo=>h.pre o mo s (by rw[jH hs]; exact List.mem_cons_self ..)
 rcases hk with rfl | ⟨o,ho,h1,h2⟩
 ·obtain ⟨o,mo,a,b⟩:=q s.2 ⟨s,ms,nes,Int.le_refl _⟩
  have:=pre o (by rw[List.take_length]; exact mo)
  omega
 ·have sp:∀ x,x∈os->x∈os.take k\/o.1<=x.1:=fun x mx=>by
   rw[<- List.take_append_drop k os] at mx
   rcases List.mem_append.mp mx with mx | mx
   ·exact .inl mx
   ·right
    rw[jH ho] at mx
    rcases List.mem_cons.mp mx with rfl | mx
    ·exact Int.le_refl _
    ·have hu:(os.drop k).Pairwise fun a b=>a.2 + 1 < b.1:=hgo.up.sublist (List.drop_sublist _ _)
     rw[jH ho] at hu
     have:=(List.pairwise_cons.mp hu).1 x mx
     have:=hgo.ne o (List.mem_of_getElem? ho)
     omega
  by_cases c:o.1<=s.2 + 1
  ·obtain ⟨x,mx,a,b⟩:=q (o.1 - 1) ⟨s,ms,ω,ω⟩
   rcases sp x mx with m | m
   ·have hu:=hgo.up
    rw[<- List.take_append_drop k os] at hu
    have:=(List.pairwise_append.mp hu).2.2 x m o (by rw[jH ho]; exact List.mem_cons_self ..)
    omega
   ·omega
  ·obtain ⟨x,mx,a,b⟩:=q s.2 ⟨s,ms,nes,Int.le_refl _⟩
   rcases sp x mx with m | m
   ·have:=pre x m; omega
   ·omega
inductive bT {α:Type} (en:α->List V) (H:Hp):List V->List α->Prop
 | nil:bT en H [] []
 | cons {p:Addr} {x:α} {us:List V} {xs:List α}:H p=some (.tup (en x))->bT en H us xs->bT en H (.ref p :: us) (x :: xs)
section
variable {α:Type}{en:α->List V}{H H':Hp}
theorem bT.length:∀ {us:List V}{xs:List α},bT en H us xs->us.length=xs.length
 | _,_,.nil=>rfl
 | _,_,.cons _ t=>by rw[List.length_cons,List.length_cons,t.length]
theorem bT.keep:∀ {us:List V}{xs:List α},bT en H us xs->(∀ p ys,H p=some (.tup ys)->H' p=some (.tup ys))->bT en H' us xs
 | _,_,.nil,_=>.nil
 | _,_,.cons e t,k=>.cons (k _ _ e) (t.keep k)
theorem bT.same {us:List V}{xs:List α}(h:bT en H us xs) (s:Same H H'):bT en H' us xs:=h.keep fun p ys e=>s _ _ e
theorem bT.uh {us:List V}{xs:List α}(h:bT en H us xs) {l:Addr}{ys:List V}{o:HO}(e:H l=some (.lst ys)):bT en (upd H l o) us xs:=h.keep fun p zs ep=>by
 rw[aH (fun z=>by rw[z,e] at ep; cases ep)]
 exact ep
theorem bT.Yb {us:List V}{xs:List α}(h:bT en H us xs) {l:Addr}{o:HO}(e:H l=none):bT en (upd H l o) us xs:=h.same (aA e)
theorem bT.get:∀ {us:List V}{xs:List α},bT en H us xs->∀ {i:Nat}{x:α},xs[i]?=some x->∃ p,us[i]?=some (.ref p)/\H p=some (.tup (en x))
 | _,_,.nil,_,_,h=>by cases h
 | _,_,.cons (p:=p) e t,0,_,h=>by cases h; exact ⟨p,rfl,e⟩
 | _,_,.cons e t,i + 1,_,h=>t.get (i:=i) h
theorem bT.got:∀ {us:List V}{xs:List α},bT en H us xs->∀ {i:Nat}{u:V},us[i]?=some u->∃ p x,u=.ref p/\xs[i]?=some x/\H p=some (.tup (en x))
 | _,_,.nil,_,_,h=>by cases h
 | _,_,.cons (p:=p) e t,0,_,h=>by cases h; exact ⟨p,_,rfl,rfl,e⟩
 | _,_,.cons e t,i + 1,_,h=>t.got (i:=i) h
theorem bT.app:∀ {us vs:List V}{xs ys:List α},bT en H us xs->bT en H vs ys->bT en H (us ++ vs) (xs ++ ys)
 | _,_,_,_,.nil,k=>k
 | _,_,_,_,.cons e t,k=>.cons e (t.app k)
theorem bT.snoc {us:List V}{xs:List α}(h:bT en H us xs) {p:Addr}{x:α}(e:H p=some (.tup (en x))):bT en H (us ++ [.ref p]) (xs ++ [x]):=h.app (.cons e .nil)
theorem bT.split:∀ {xs:List α}{us:List V}{x:α},bT en H us (xs ++ [x])->∃ vs p,us=vs ++ [.ref p]/\bT en H vs xs/\H p=some (.tup (en x))
 | [],us,x,h=>by
  cases h with
  | cons e t=>cases t; exact ⟨[],_,rfl,.nil,e⟩
 | y :: xs,us,x,h=>by
  cases h with
  | cons e t=>
   obtain ⟨vs,p,rfl,k,ep⟩:=bT.split t
   exact ⟨_ :: vs,p,rfl,.cons e k,ep⟩
theorem bT.refs:∀ {us:List V}{xs:List α},bT en H us xs->∃ ps:List Addr,us=ps.map V.ref
 | _,_,.nil=>⟨[],rfl⟩
 | _,_,.cons (p:=p) e t=>by
  obtain ⟨ps,rfl⟩:=t.refs
  exact ⟨p :: ps,rfl⟩
theorem bT.read {dec:Addr->α}:∀ {ps:List Addr}{xs:List α},bT en H (ps.map V.ref) xs->(∀ p x,H p=some (.tup (en x))->dec p=x)->xs=ps.map dec/\∀ p,p∈ps->H p=some (.tup (en (dec p)))
 | [],xs,h,_=>by cases h; exact ⟨rfl,fun p m=>by cases m⟩
 | p :: ps,xs,h,hd=>by
  cases h with
  | cons e t=>
   obtain ⟨e1,e2⟩:=bT.read t hd
   have ep:=hd _ _ e
   refine ⟨by rw[List.map_cons,ep,<- e1],fun q m=>?_⟩
   rcases List.mem_cons.mp m with rfl | m
   ·rw[ep]; exact e
   ·exact e2 q m
theorem bT.of_map {dec:Addr->α}:∀ {ps:List Addr},(∀ p,p∈ps->H p=some (.tup (en (dec p))))->bT en H (ps.map V.ref) (ps.map dec)
 | [],_=>.nil
 | p :: ps,h=>.cons (h p (List.mem_cons_self ..)) (bT.of_map fun q m=>h q (List.mem_cons_of_mem _ m))
end
def prE (s:Int×Int):List V:=[.int s.1,.int s.2]
def wg (H:Hp) (p:Addr):Int×Int:=match H p with
 | some (.tup [.int a,.int b])=>(a,b)
 | _=>(0,0)
theorem Rx {H:Hp}(p:Addr) (x:Int×Int) (h:H p=some (.tup (prE x))):wg H p=x:=by
 unfold wg
 rw[h]
 rfl
theorem Uz {α:Type}(xs:List α) (x:α):atI (xs ++ [x]) (-1)=some x:=by
 unfold atI ixN
 rw[if_neg δ,if_pos (by rw[List.length_append,List.length_singleton]; omega)]
 show (xs ++ [x])[(-1 + ((xs ++ [x]).length:Int)).toNat]?=_
 rw[show (-1 + ((xs ++ [x]).length:Int)).toNat=xs.length by rw[List.length_append,List.length_singleton]; omega]
 rw[List.getElem?_append_right (Nat.le_refl _),Nat.sub_self]
 rfl
theorem Tf {α:Type}(xs:List α) (x:α):ixN (xs ++ [x]).length (-1)=some xs.length:=by
 unfold ixN
 rw[if_neg δ,if_pos (by rw[List.length_append,List.length_singleton]; omega)]
 rw[List.length_append,List.length_singleton]
 congr 1
 omega
theorem Ky {α:Type}(xs:List α) (x y:α):(xs ++ [x]).set xs.length y=xs ++ [y]:=by
 rw[List.set_append_right _ _ (Nat.le_refl _),Nat.sub_self]
 rfl
structure RAt (H:Hp) (lr:Addr) (ps:List Addr) (X:Nat->List (Int×Int)):Prop where
 e:H lr=some (.lst (ps.map V.ref))
 nr:lr∉ps
 nd:ps.Nodup
 el:∀ (j:Nat) p,ps[j]?=some p->∃ us,H p=some (.lst us)/\bT prE H us (X j)
theorem YD {α:Type}{ps:List α}(h:ps.Nodup) {i j:Nat}{p q:α}(hi:ps[i]?=some p) (hj:ps[j]?=some q) (n:i≠j):p≠q:=fun e=>by
 obtain ⟨li,ei⟩:=List.getElem?_eq_some_iff.mp hi
 obtain ⟨lj,ej⟩:=List.getElem?_eq_some_iff.mp hj
 exact n ((List.getElem_inj (h₀:=li) (h₁:=lj) h).mp (by rw[ei,ej,e]))
theorem RAt.push {H:Hp}{lr:Addr}{ps:List Addr}{X:Nat->List (Int×Int)}(h:RAt H lr ps X) {g:Nat}{p q:Addr}{us:List V}{s:Int×Int}(hp:ps[g]?=some p) (e:H p=some (.lst us)) (eq:H q=some (.tup (prE s))) :
  RAt (upd H p (.lst (us ++ [.ref q]))) lr ps fun j=>X j ++ (if j=g then [s] else []):=by
 have np:∀ {b:Addr} {ys:List V},H b=some (.tup ys)->b≠p:=fun eb z=>by rw[z,e] at eb; cases eb
 have mp:p∈ps:=List.mem_of_getElem? hp
 refine ⟨by rw[aH (show lr≠p from fun z=>h.nr (z ▸ mp))]; exact h.e,h.nr,h.nd,fun j b hb=>?_⟩
 obtain ⟨us',e',t⟩:=h.el j b hb
 by_cases c:j=g
 ·subst c
  rw[hp] at hb
  cases hb
  rw[e] at e'
  cases e'
  refine ⟨_,aB,?_⟩
  rw[if_pos rfl]
  exact (t.uh e).snoc (by rw[aH (np eq)]; exact eq)
 ·rw[if_neg c,List.append_nil]
  exact ⟨us',by rw[aH (YD h.nd hb hp c)]; exact e',t.uh e⟩
def SameP (ps:List Addr) (H H':Hp):Prop:=∀ b o,b∉ps->H b=some o->H' b=some o
def zY:Sp:=fun vs H Q _=>∃ (a b:Addr) (us vs':List V) (ss os:List (Int×Int)),vs=[.ref a,.ref b]/\H a=some (.lst us)/\bT prE H us ss/\H b=some (.lst vs')/\bT prE H vs' os/\Gap ss/\Gap os /\
 ∀ (t:Bool),(t=true ↔ ∀ n,cov ss n->cov os n)->Q (.bl t) H
section
variable {α:Type}{en:α->List V}{H:Hp}
theorem bT.push {us:List V}{xs:List α}{r q:Addr}(t:bT en H us xs) (x:α) (er:H r=some (.lst us)) (hq:H q=none):bT en (upd (upd H q (.tup (en x))) r (.lst (us ++ [.ref q]))) (us ++ [.ref q]) (xs ++ [x]):=by
 have nq:r≠q:=aF er hq
 have er1:upd H q (.tup (en x)) r=some (.lst us):=by rw[aH nq]; exact er
 exact ((t.Yb hq).uh er1).snoc (by rw[aH nq.symm]; exact aB)
theorem bT.swap {us:List V}{xs:List α}{r q p:Addr}(t:bT en H us xs) (x:α) (er:H r=some (.lst (us ++ [.ref p]))) (hq:H q=none):bT en (upd (upd H q (.tup (en x))) r (.lst (us ++ [.ref q]))) (us ++ [.ref q]) (xs ++ [x]):=by
 have nq:r≠q:=aF er hq
 have er1:upd H q (.tup (en x)) r=some (.lst (us ++ [.ref p])):=by rw[aH nq]; exact er
 exact ((t.Yb hq).uh er1).snoc (by rw[aH nq.symm]; exact aB)
end
theorem SM {α:Type}(us:List α) (x:α):(us ++ [x]).isEmpty=false:=by cases us <;> rfl
theorem uE {H H':Hp}{r q:Addr}{o u:HO}(s:Same H H') (hr:H r=none) (hq:H' q=none):Same H (upd (upd H' q o) r u):=Hr (s.trans (aA hq)) hr
theorem CN {H:Hp}{r q d:Addr}{o u v:HO}(e:H d=some v) (n:d≠r) (hq:H q=none):upd (upd H q o) r u d=some v:=by
 rw[aH n,aH (aF e hq)]
 exact e
theorem w6 {w s:Int}(h1:1<=w) (hs:s=0\/s=1):oJ w.toNat s=wl w s:=by
 unfold oJ wl
 rw[show w.toNat - 1=(w - 1).toNat by omega]
 rcases hs with rfl | rfl
 ·rw[if_pos rfl]; omega
 ·rw[if_neg δ]; omega
def JG (w s:Int) (ys:List (Int×Int)):Prop:=∀ y,y∈ys->wl w s<=y.1/\y.1<=y.2/\y.2 < wl w s + 2 ^ w.toNat
theorem JG.kind {w s n:Int}{ys:List (Int×Int)}(h:JG w s ys) (c:cov ys n):b7 w s n:=by
 obtain ⟨y,m,a,b⟩:=c
 have:=h y m
 exact ⟨ω,ω⟩
structure ISp (w s:Int) (it:It1) (ys:List (Int×Int)):Prop where
 ins:JG w s ys
 cv:∀ n,b7 w s n->(cov ys n ↔ aQ w n it=true)
 ln:ys.length<=128
theorem Tw {w s a:Int}(h:b7 w s a):ISp w s (.one a) [(a,a)]:=by
 refine ⟨fun y m=>?_,fun n _=>?_,by simp⟩
 ·rw[List.mem_singleton.mp m]
  exact ⟨h.1,Int.le_refl _,h.2⟩
 ·rw[lO]
  unfold aQ
  rw[decide_eq_true_iff]
  show a<=n/\n<=a ↔ _
  omega
theorem Tv {w s a b:Int}(h:b7 w s a/\b7 w s b/\a<=b):ISp w s (.rng a b) [(a,b)]:=by
 refine ⟨fun y m=>?_,fun n _=>?_,by simp⟩
 ·rw[List.mem_singleton.mp m]
  exact ⟨h.1.1,h.2.2,h.2.1.2⟩
 ·rw[lO]
  unfold aQ
  rw[Bool.and_eq_true,decide_eq_true_iff,decide_eq_true_iff]
theorem Xl {w s:Int}{m v:Nat}(h:v &&& m≠v):ISp w s (.bits m v) []:=by
 refine ⟨fun y m=>(by cases m),fun n _=>⟨fun c=>absurd c tY,fun c=>?_⟩,δ⟩
 unfold aQ at c
 rw[decide_eq_true_iff] at c
 exact absurd (by rw[<- c,Nat.and_assoc,Nat.and_self]) h
theorem Tz {w s:Int}{v:Nat}(h:v &&& 0=v):ISp w s (.bits 0 v) [(wl w s,wl w s + 2 ^ w.toNat - 1)]:=by
 have p:=two_pow_pos w.toNat
 refine ⟨fun y m=>?_,fun n hn=>?_,by simp⟩
 ·rw[List.mem_singleton.mp m]
  show wl w s<=wl w s/\wl w s<=wl w s + 2 ^ w.toNat - 1/\wl w s + 2 ^ w.toNat - 1 < wl w s + 2 ^ w.toNat
  omega
 ·rw[lO]
  rw[show aQ w n (.bits 0 v)=decide ((n % 2 ^ w.toNat).toNat &&& 0=v) from rfl,Nat.and_zero]
  rw[Nat.and_zero] at h
  rw[decide_eq_true h]
  obtain ⟨a,b⟩:=hn
  exact ⟨fun _=>rfl,fun _=>⟨a,by show n<=wl w s + 2 ^ w.toNat - 1; omega⟩⟩
theorem sy {m v t:Nat}:∀ n,(aV m v t n).length=2 ^ (cY m t n).length
 | 0=>by simp [aV,cY]
 | n + 1=>by
  have ih:=sy (m:=m) (v:=v) (t:=t) n
  unfold aV
  rw[nG]
  split
  ·exact ih
  ·rw[List.length_append,List.length_map,ih,List.length_append,List.length_singleton,Nat.pow_succ]
   omega
theorem sS {m t:Nat}:∀ {i n:Nat},i<=n->(cY m t i).length<=(cY m t n).length
 | i,0,h=>by rw[Nat.le_zero.mp h]; exact Nat.le_refl _
 | i,n + 1,h=>by
  rcases Nat.lt_or_ge i (n + 1) with c | c
  ·refine Nat.le_trans (sS (show i<=n by omega)) ?_
   rw[nG]
   split
   ·exact Nat.le_refl _
   ·rw[List.length_append]; omega
  ·rw[show i=n + 1 by omega]; exact Nat.le_refl _
theorem qU {w:Int}{m v t i:Nat}(hf:9<=w->(frees w.toNat m).length<=4) (ht:m.testBit t=true) (hl:∀ i,i < t->m.testBit i=false) (tW:t < w.toNat) (hi:i<=w.toNat - (t + 1)):(aV m v t i).length<=128:=by
 rw[sy]
 have le7:(cY m t i).length<=7:=by
  refine Nat.le_trans (sS hi) ?_
  rcases Int.lt_or_le w 9 with c | c
  ·have:(cY m t (w.toNat - (t + 1))).length<=_:=List.length_filter_le _ _
   rw[List.length_range'] at this
   omega
  ·have:=hf c
   rw[vC ht hl tW] at this
   omega
 exact Nat.pow_le_pow_right δ le7
theorem Cv (m k:Nat):Builtin.bitAnd (m:Int) (2 ^ k)=if m.testBit k then 2 ^ k else 0:=by
 have c:((2 ^ k:Nat):Int)=2 ^ k:=by rw[Int.natCast_pow]; rfl
 rw[<- c,fZ]
 have e:m &&& 2 ^ k=if m.testBit k then 2 ^ k else 0:=Nat.eq_of_testBit_eq fun j=>by
  rw[Nat.testBit_and,Nat.testBit_two_pow]
  by_cases z:k=j
  ·subst z
   cases hb:m.testBit k <;> simp
  ·cases hb:m.testBit k <;> simp [z]
 rw[e]
 split <;> rfl
theorem none_of {H H':Hp}{p:Addr}(s:Same H H') (h:H' p=none):H p=none:=by
 cases e:H p with
 | none=>rfl
 | some o=>rw[s _ _ e] at h; cases h
theorem zX {m v t i:Nat}(hb:m.testBit (t + 1 + i)=true):aV m v t (i + 1)=aV m v t i:=by
 conv=>lhs; unfold aV
 rw[if_pos hb]
theorem Hf {m v t i:Nat}(hb:m.testBit (t + 1 + i)=false):cI (aV m v t i) ++ cI ((aV m v t i).map (· + 2 ^ (t + 1 + i)))=cI (aV m v t (i + 1)):=by
 unfold cI
 rw[<- List.map_append]
 congr 1
 conv=>rhs; unfold aV
 rw[if_neg (by rw[hb]; decide)]
theorem kW {W m v t:Nat}(hv:v &&& m=v) (hm:m < 2 ^ W) (ht:m.testBit t=true) (hl:∀ i,i < t->m.testBit i=false) {x:Nat}(hx:x∈aV m v t (W - (t + 1))):x < 2 ^ W/\2 ^ t * (x / 2 ^ t)=x/\t < W:=by
 have tW:t < W:=by
  rcases Nat.lt_or_ge t W with c | c
  ·exact c
  ·rw[Nat.testBit_lt_two_pow (Nat.lt_of_lt_of_le hm (Nat.pow_le_pow_right δ c))] at ht
   cases ht
 have vb:∀ i,v.testBit i=true->m.testBit i=true:=fun i h=>by
  rw[<- hv,Nat.testBit_and] at h
  simp at h
  exact h.2
 have vW:v < 2 ^ W:=by
  have:v<=m:=by rw[<- hv]; exact Nat.and_le_right
  omega
 have hsb:=(dJ vb).mp hx
 have slow:∀ i,i < t->x.testBit i=false:=fun i hi=>by
  rw[hsb i ω]
  exact Bool.eq_false_iff.mpr fun z=>by
   have:=vb i z
   rw[hl i hi] at this
   cases this
 refine ⟨Nat.lt_pow_two_of_testBit x fun i hi=>?_,Nat.eq_of_testBit_eq fun i=>?_,tW⟩
 ·rw[hsb i ω]
  exact Nat.testBit_lt_two_pow (Nat.lt_of_lt_of_le vW (Nat.pow_le_pow_right δ hi))
 ·rw[Nat.testBit_two_pow_mul]
  by_cases c:i < t
  ·rw[decide_eq_false ω,Bool.false_and,slow i c]
  ·rw[decide_eq_true ω,Bool.true_and,Nat.testBit_div_two_pow,Nat.sub_add_cancel ω]
theorem Mw {W t x:Nat}{sg:Int}(hW:1<=W) (hx:x < 2 ^ W) (hd:2 ^ t * (x / 2 ^ t)=x) (ht:t < W):oJ W sg<=nOf W sg x/\nOf W sg x + 2 ^ t<=oJ W sg + 2 ^ W:=by
 obtain ⟨k1,k2⟩:=Cj ht hd
 replace k2:=k2 hx
 have eN:2 ^ W=2 * 2 ^ (W - 1):=by
  obtain ⟨V,rfl⟩:∃ V,W=V + 1:=⟨W - 1,ω⟩
  rw[Nat.add_sub_cancel,Nat.pow_succ,Nat.mul_comm]
 have c1:((2 ^ W:Nat):Int)=2 ^ W:=by rw[Int.natCast_pow]; rfl
 have c2:((2 ^ (W - 1):Nat):Int)=2 ^ (W - 1):=by rw[Int.natCast_pow]; rfl
 have c3:((2 ^ t:Nat):Int)=2 ^ t:=by rw[Int.natCast_pow]; rfl
 unfold nOf oJ
 rw[<- c1,<- c2,<- c3]
 clear c1 c2 c3 hd
 generalize 2 ^ (W - 1)=H at *
 generalize (2:Nat) ^ W=D at *
 generalize 2 ^ t=T at *
 by_cases g:sg=0
 ·subst g
  rw[if_pos rfl,if_neg (by simp)]
  omega
 ·rw[if_neg g]
  by_cases c:H<=x
  ·rw[if_pos ⟨g,c⟩]
   omega
  ·rw[if_neg (fun z=>c z.2)]
   have:=k1 ω
   omega
theorem Nu {w s:Int}{m v t:Nat}(h1:1<=w) (hs:s=0\/s=1) (hok:It1.Ok w s (.bits m v)) (hv:v &&& m=v) (ht:m.testBit t=true) (hl:∀ i,i < t->m.testBit i=false):ISp w s (.bits m v) (GF w.toNat s m v t):=by
 obtain ⟨hm,hv2,hf⟩:=hok
 refine ⟨fun y my=>?_,fun n hn=>?_,?_⟩
 ·obtain ⟨x,mx,rfl⟩:=List.mem_map.mp my
  obtain ⟨f1,f2,f3⟩:=kW hv hm ht hl mx
  have:=Mw (sg:=s) ω f1 f2 f3
  rw[w6 h1 hs] at this
  have p:=two_pow_pos t
  show wl w s<=nOf w.toNat s x/\nOf w.toNat s x<=nOf w.toNat s x + 2 ^ t - 1/\nOf w.toNat s x + 2 ^ t - 1 < _
  omega
 ·rw[kI ω hv hm ht hl (by rw[w6 h1 hs]; exact hn.1) (by rw[w6 h1 hs]; exact hn.2)]
  unfold aQ
  rw[decide_eq_true_iff]
 ·unfold GF
  rw[List.length_map]
  have tW:t < w.toNat:=by
   rcases Nat.lt_or_ge t w.toNat with c | c
   ·exact c
   ·rw[Nat.testBit_lt_two_pow (Nat.lt_of_lt_of_le hm (Nat.pow_le_pow_right δ c))] at ht
    cases ht
  exact qU hf ht hl tW (Nat.le_refl _)
structure CSp (w s:Int) (its:List It1) (ys:List (Int×Int)):Prop where
 gap:Gap ys
 ins:JG w s ys
 cv:∀ n,b7 w s n->(cov ys n ↔ its.any (aQ w n)=true)
 ln:ys.length<=128 * its.length
structure GSp (w s:Int) (its:List It1) (ys:List (Int×Int)):Prop where
 ins:JG w s ys
 cv:∀ n,b7 w s n->(cov ys n ↔ its.any (aQ w n)=true)
 ln:ys.length<=128 * its.length
theorem GSp.nil {w s:Int}:GSp w s [] []:=⟨fun y m=>(by cases m),fun n _=>⟨fun c=>absurd c tY,fun c=>by cases c⟩,Nat.le_refl _⟩
theorem GSp.snoc {w s:Int}{its:List It1} {it:It1} {ys zs:List (Int×Int)}(h:GSp w s its ys) (k:ISp w s it zs):GSp w s (its ++ [it]) (ys ++ zs):=by
 refine ⟨fun y m=>?_,fun n hn=>?_,?_⟩
 ·rcases List.mem_append.mp m with m | m
  ·exact h.ins y m
  ·exact k.ins y m
 ·rw[jh,h.cv n hn,k.cv n hn,List.any_append]
  simp
 ·rw[List.length_append,List.length_append,List.length_singleton]
  have:=h.ln
  have:=k.ln
  omega
theorem GSp.case {w s:Int}{its:List It1} {ys zs:List (Int×Int)}(h:GSp w s its ys) (g:Gap zs) (c:∀ n,cov zs n ↔ cov ys n) (l:zs.length<=ys.length):CSp w s its zs:=by
 refine ⟨g,fun y m=>?_,fun n hn=>by rw[c,h.cv n hn],Nat.le_trans l h.ln⟩
 have ne:=g.ne y m
 have k1:=h.ins.kind ((c _).mp ⟨y,m,Int.le_refl _,ne⟩)
 have k2:=h.ins.kind ((c _).mp ⟨y,m,ne,Int.le_refl _⟩)
 exact ⟨k1.1,ne,k2.2⟩
def tQ:Sp:=fun vs H Q _=>∃ (l:Addr) (us:List V) (ss:List (Int×Int)),vs=[.ref l]/\H l=some (.lst us)/\bT prE H us ss/\(∀ s,s∈ss->s.1<=s.2/\-1267650600228229401496703205376 < s.2/\s.2 < 1267650600228229401496703205376)/\ss.length<=100000 /\
 ∀ (r:Addr) (H':Hp) (us':List V) (ys:List (Int×Int)),Same H H'->H r=none->H' r=some (.lst us')->bT prE H' us' ys->Gap ys->(∀ n,cov ys n ↔ cov ss n)->ys.length<=ss.length->Q (.ref r) H'
def Vb:Sp:=fun vs H Q _=>∃ (w s:Int) (m v:Nat),vs=[.int w,.int s,.int m,.int v]/\1<=w/\w<=40/\(s=0\/s=1)/\It1.Ok w s (.bits m v) /\
 ∀ (r:Addr) (H':Hp) (us:List V) (ys:List (Int×Int)),Same H H'->H r=none->H' r=some (.lst us)->bT prE H' us ys->ISp w s (.bits m v) ys->Q (.ref r) H'
def U9:Sp:=fun vs H Q _=>∃ (w s:Int) (t:Addr) (it:It1),vs=[.int w,.int s,.ref t]/\1<=w/\w<=40/\(s=0\/s=1)/\nM H t it/\It1.Ok w s it /\
 ∀ (r:Addr) (H':Hp) (us:List V) (ys:List (Int×Int)),Same H H'->H r=none->H' r=some (.lst us)->bT prE H' us ys->ISp w s it ys->Q (.ref r) H'
def Va:Sp:=fun vs H Q _=>∃ (w s:Int) (x:V) (ok:Addr->Prop) (its:List It1),vs=[.int w,.int s,x]/\1<=w/\w<=40/\(s=0\/s=1)/\aX ok H x (jJ its)/\(∀ it,it∈its->It1.Ok w s it)/\its.length<=700 /\
 ∀ (r:Addr) (H':Hp) (us:List V) (ys:List (Int×Int)),Same H H'->H r=none->H' r=some (.lst us)->bT prE H' us ys->CSp w s its ys->Q (.ref r) H'
theorem O8 (t:Nat):Builtin.Int.intBits ((2:Int) ^ t)=t + 1:=by
 have c3:((2 ^ t:Nat):Int)=2 ^ t:=by rw[Int.natCast_pow]; rfl
 have p:=Nat.two_pow_pos t
 unfold Builtin.Int.intBits
 rw[<- c3,if_neg (by simp; omega),Int.natAbs_natCast,Nat.log2_two_pow]
inductive X7 (H:Hp):List V->List (List (Int×Int))->Prop
 | nil:X7 H [] []
 | cons {p:Addr} {us vs:List V} {c:List (Int×Int)} {cs:List (List (Int×Int))}:H p=some (.lst vs)->bT prE H vs c->X7 H us cs->X7 H (.ref p :: us) (c :: cs)
inductive Qc (w s:Int):List (List It1)->List (List (Int×Int))->Prop
 | nil:Qc w s [] []
 | cons {its:List It1} {c:List (Int×Int)} {css:List (List It1)} {cs:List (List (Int×Int))}:CSp w s its c->Qc w s css cs->Qc w s (its :: css) (c :: cs)
def DX (w n:Int) (css:List (List It1)):List Nat:=(css.zipIdx.filter fun x=>x.1.any (aQ w n)).map (·.2)
theorem labs_len {w n:Int}{css:List (List It1)}:(DX w n css).length=BK w css n:=by
 unfold DX BK
 rw[List.length_map]
 have:∀ (css:List (List It1)) k,((css.zipIdx k).filter fun x=>x.1.any (aQ w n)).length=(css.filter fun its=>its.any (aQ w n)).length:=by
  intro css
  induction css with
  | nil=>intro k; rfl
  | cons c css ih=>
   intro k
   rw[List.zipIdx_cons,List.filter_cons,List.filter_cons]
   dsimp only
   split
   ·rw[List.length_cons,List.length_cons,ih]
   ·exact ih _
 exact this css 0
def ClashIs (w s:Int) (css:List (List It1)):Option (Nat×Nat×Int)->Prop
 | none=>∀ n,b7 w s n->BK w css n < 2
 | some c=>b7 w s c.2.2/\(∃ r,DX w c.2.2 css=c.1 :: c.2.1 :: r)/\∀ k,b7 w s k->k < c.2.2->BK w css k < 2
def bdr (w s:Int) (b:Int):It1->Prop
 | .one a=>b=a\/b=a + 1
 | .rng a c=>b=a\/b=c + 1
 | .bits m v=>v &&& m=v/\∃ t x,m.testBit t=true/\(∀ i,i < t->m.testBit i=false)/\x∈aV m v t (w.toNat - (t + 1))/\(b=nOf w.toNat s x\/b=nOf w.toNat s x + 2 ^ t)
def lV (w s:Int) (css:List (List It1)) (b:Int):Prop:=b7 w s b/\(w < 9\/b=wl w s\/∃ its,its∈css/\∃ it,it∈its/\bdr w s b it)
theorem Uu {w s b:Int}{it:It1} (h1:1<=w) (hs:s=0\/s=1) (hok:It1.Ok w s it) (h:bdr w s b it):wl w s<=b:=by
 cases it with
 | one a=>
  obtain ⟨k,_⟩:=hok
  rcases h with rfl | rfl <;> omega
 | rng a c=>
  obtain ⟨⟨k,_⟩,⟨k2,_⟩,_⟩:=hok
  rcases h with rfl | rfl <;> omega
 | bits m v=>
  obtain ⟨hv,t,x,ht,hl,hx,h⟩:=h
  obtain ⟨f1,f2,f3⟩:=kW hv hok.1 ht hl hx
  have:=Mw (sg:=s) ω f1 f2 f3
  rw[w6 h1 hs] at this
  have p:=two_pow_pos t
  rcases h with rfl | rfl <;> omega
theorem Pg {w s n:Int}{it:It1} (h:YZ w.toNat s n it):bdr w s n it:=by
 cases it with
 | one a=>exact .inl h
 | rng a c=>exact .inl h
 | bits m v=>
  obtain ⟨hv,t,x,ht,hl,hx,h⟩:=h
  exact ⟨hv,t,x,ht,hl,hx,.inl h⟩
def Vc:Sp:=fun vs H Q _=>∃ (w s:Int) (m v:Nat),vs=[.int w,.int s,.int m,.int v]/\9<=w/\w<=40/\(s=0\/s=1)/\m < 2 ^ w.toNat/\v < 2 ^ w.toNat/\(frees w.toNat m).length<=4 /\
 ∀ (p:Addr) H' (ns:List Int),H' p=some (.lst (ns.map V.int))->ns.length<=32->(∀ b,b∈ns ↔ bdr w s b (.bits m v))->Same H H'->Q (.ref p) H'
def Fv:Sp:=fun vs H Q _=>∃ (x:V) (w s:Int) (ok:Addr->Prop) (css:List (List It1)),vs=[x]/\1<=w/\w<=40/\(s=0\/s=1)/\aX ok H x (ig w s css)/\(∀ its,its∈css->∀ it,it∈its->It1.Ok w s it)/\(css.map List.length).sum<=110 /\
 ∀ (p:Addr) H' (ns:List Int),Same H H'->H' p=some (.lst (ns.map V.int))->ns.length<=4000->ns.Pairwise (· < ·)->(∀ b,b∈ns ↔ lV w s css b)->Q (.ref p) H'
def Calm (w s:Int) (css:List (List It1)):Prop:=∀ b,lV w s css b->BK w css b < 2
theorem u6:∀ {css:List (List It1)}{its:List It1},its∈css->its.length<=(css.map List.length).sum
 | c :: css,its,m=>by
  simp only[List.map_cons,List.sum_cons]
  rcases List.mem_cons.mp m with rfl | m
  ·omega
  ·have:=u6 m
   omega
theorem SN {w s:Int}{p:Nat}(h1:1<=w) (hs:s=1) (hp:p < 2 ^ w.toNat):(p:Int) - 2 ^ w.toNat * (if (p:Int) / 2 ^ (w - 1).toNat=1 then 1 else 0)=nOf w.toNat s p:=by
 have e:=kh h1
 have p0:=two_pow_pos (w - 1).toNat
 have e2:w.toNat - 1=(w - 1).toNat:=by omega
 have c1:((2 ^ w.toNat:Nat):Int)=2 ^ w.toNat:=by rw[Int.natCast_pow]; rfl
 have c2:((2 ^ (w - 1).toNat:Nat):Int)=2 ^ (w - 1).toNat:=by rw[Int.natCast_pow]; rfl
 unfold nOf
 rw[e2]
 have hd:(p:Int) / 2 ^ (w - 1).toNat=1 ↔ 2 ^ (w - 1).toNat<=p:=by
  have h:=Int.mul_ediv_add_emod (p:Int) (2 ^ (w - 1).toNat)
  have h3:=Int.emod_nonneg (p:Int) (show (2:Int) ^ (w - 1).toNat≠0 by omega)
  have h4:=Int.emod_lt_of_pos (p:Int) p0
  have hq:(p:Int) / 2 ^ (w - 1).toNat < 2:=Int.ediv_lt_of_lt_mul p0 ω
  have hq0:0<=(p:Int) / 2 ^ (w - 1).toNat:=Int.ediv_nonneg ω ω
  constructor
  ·intro z
   rw[z] at h
   omega
  ·intro z
   rcases Int.lt_or_le ((p:Int) / 2 ^ (w - 1).toNat) 1 with c | c
   ·have:(p:Int) / 2 ^ (w - 1).toNat=0:=by omega
    rw[this] at h
    omega
   ·omega
 by_cases c:2 ^ (w - 1).toNat<=p
 ·rw[if_pos (hd.mpr c),if_pos ⟨ω,c⟩,Int.mul_one]
 ·rw[if_neg (fun z=>c (hd.mp z)),if_neg (fun z=>c z.2),Int.mul_zero,Int.sub_zero]
theorem Mv {w s:Int}{p:Nat}(hs:s=0):(p:Int) - 2 ^ w.toNat * 0=nOf w.toNat s p:=by
 unfold nOf
 rw[if_neg (by rw[hs]; simp),Int.mul_zero,Int.sub_zero]
theorem G8 {fs:List Nat}{i j p:Nat}(h:fs[i]?=some p):jk (fs.take (i + 1)) j=jk (fs.take i) j + if j.testBit i then 2 ^ p else 0:=by
 have l:i < fs.length:=(List.getElem?_eq_some_iff.mp h).1
 rw[List.take_add_one,h]
 show jk (fs.take i ++ [p]) j=_
 rw[nO,show (fs.take i).length=i by rw[List.length_take]; omega]
theorem Bm {m t t':Nat}(ht:m.testBit t=true) (hl:∀ i,i < t->m.testBit i=false) (ht':m.testBit t'=true) (hl':∀ i,i < t'->m.testBit i=false):t=t':=by
 rcases Nat.lt_trichotomy t t' with c | c | c
 ·rw[hl' t c] at ht; cases ht
 ·exact c
 ·rw[hl t' c] at ht'; cases ht'
theorem Cr {W m v t j:Nat}(hm:m < 2 ^ W) (hv:v &&& m=v) (ht:m.testBit t=true) (hl:∀ i,i < t->m.testBit i=false) (hj:j < 2 ^ (frees W m).length):v + jk (frees W m) j∈aV m v t (W - (t + 1)):=by
 have tW:t < W:=by
  rcases Nat.lt_or_ge t W with c | c
  ·exact c
  ·rw[Nat.testBit_lt_two_pow (Nat.lt_of_lt_of_le hm (Nat.pow_le_pow_right δ c))] at ht
   cases ht
 rw[vC ht hl tW] at hj |-
 exact fX.mpr ⟨j,hj,rfl⟩
theorem XS {w s:Int}{m v t:Nat}{ns:List Int}(hm:m < 2 ^ w.toNat) (hv:v &&& m=v) (ht:m.testBit t=true) (hl:∀ i,i < t->m.testBit i=false)
  (h:∀ b,b∈ns ↔ ∃ j,j < 2 ^ (frees w.toNat m).length/\(b=nOf w.toNat s (v + jk (frees w.toNat m) j)\/b=nOf w.toNat s (v + jk (frees w.toNat m) j) + 2 ^ t)) (b:Int):b∈ns ↔ bdr w s b (.bits m v):=by
 have tW:t < w.toNat:=by
  rcases Nat.lt_or_ge t w.toNat with c | c
  ·exact c
  ·rw[Nat.testBit_lt_two_pow (Nat.lt_of_lt_of_le hm (Nat.pow_le_pow_right δ c))] at ht
   cases ht
 rw[h]
 constructor
 ·rintro ⟨j,hj,hb⟩
  exact ⟨hv,t,_,ht,hl,Cr hm hv ht hl hj,hb⟩
 ·rintro ⟨_,t',x,ht',hl',hx,hb⟩
  have e:=Bm ht hl ht' hl'
  subst e
  obtain ⟨j,hj,rfl⟩:=fX.mp hx
  rw[<- vC ht hl tW] at hj hb
  exact ⟨j,hj,hb⟩
theorem Uy {w s b:Int}{m v:Nat}(h:m=0\/v &&& m≠v):b∈([]:List Int) ↔ bdr w s b (.bits m v):=by
 constructor
 ·intro z; cases z
 ·rintro ⟨hv,t,x,ht,_⟩
  rcases h with rfl | h
  ·rw[Nat.zero_testBit] at ht; cases ht
  ·exact absurd hv h
theorem Ux {ns:List Int}{i:Nat}{a b:Int}{A B:Nat->Int}(h:∀ n,n∈ns ↔ ∃ j,j < i/\(n=A j\/n=B j)) (ha:a=A i) (hb:b=B i) (n:Int):n∈ns ++ [a,b] ↔ ∃ j,j < i + 1/\(n=A j\/n=B j):=by
 rw[List.mem_append,h]
 simp only[List.mem_cons,List.not_mem_nil,or_false]
 constructor
 ·rintro (⟨j,hj,q⟩ | q)
  ·exact ⟨j,ω,q⟩
  ·exact ⟨i,ω,by rw[<- ha,<- hb]; exact q⟩
 ·rintro ⟨j,hj,q⟩
  rcases Nat.lt_or_ge j i with c | c
  ·exact .inl ⟨j,c,q⟩
  ·have:j=i:=by omega
   subst this
   rw[<- ha,<- hb] at q
   exact .inr q
def BIn (w s:Int) (css:List (List It1)) (b:Int):Prop:=b=wl w s\/∃ its,its∈css/\∃ it,it∈its/\bdr w s b it
theorem JF {w s:Int}(b:Int):b∈[wl w s] ↔ BIn w s [] b:=by
 rw[List.mem_singleton]
 constructor
 ·exact fun h=>.inl h
 ·rintro (h | ⟨its,m,_⟩)
  ·exact h
  ·cases m
theorem Ck {w s:Int}{its:List It1} {it:It1} {j:Nat}{ns nB:List Int}{A:Int->Prop}(h:∀ b,b∈ns ↔ A b\/∃ it,it∈its.take j/\bdr w s b it) (hi:its[j]?=some it) (hB:∀ b,b∈nB ↔ bdr w s b it) (b:Int) :
  b∈ns ++ nB ↔ A b\/∃ it,it∈its.take (j + 1)/\bdr w s b it:=by
 rw[List.mem_append,h,hB,List.take_add_one,hi]
 constructor
 ·rintro ((q | ⟨x,m,q⟩) | q)
  ·exact .inl q
  ·exact .inr ⟨x,List.mem_append_left _ m,q⟩
  ·exact .inr ⟨it,List.mem_append_right _ (by simp),q⟩
 ·rintro (q | ⟨x,m,q⟩)
  ·exact .inl (.inl q)
  ·rcases List.mem_append.mp m with m | m
   ·exact .inl (.inr ⟨x,m,q⟩)
   ·simp at m
    subst m
    exact .inr q
theorem Pa {w s:Int}{css:List (List It1)}{its:List It1} {i n:Nat}{ns:List Int}(h:∀ b,b∈ns ↔ BIn w s (css.take i) b\/∃ it,it∈its.take n/\bdr w s b it) (hi:css[i]?=some its) (hn:n=its.length) (b:Int):b∈ns ↔ BIn w s (css.take (i + 1)) b:=by
 subst hn
 rw[List.take_length] at h
 rw[h,List.take_add_one,hi]
 unfold BIn
 constructor
 ·rintro ((q | ⟨x,m,q⟩) | ⟨it,m,q⟩)
  ·exact .inl q
  ·exact .inr ⟨x,List.mem_append_left _ m,q⟩
  ·exact .inr ⟨its,List.mem_append_right _ (by simp),it,m,q⟩
 ·rintro (q | ⟨x,m,it,m2,q⟩)
  ·exact .inl (.inl q)
  ·rcases List.mem_append.mp m with m | m
   ·exact .inl (.inr ⟨x,m,it,m2,q⟩)
   ·simp at m
    subst m
    exact .inr ⟨it,m2,q⟩
theorem O9 {w s:Int}{its:List It1} {ns:List Int}{A:Int->Prop}(h:∀ b,b∈ns ↔ A b) (b:Int):b∈ns ↔ A b\/∃ it,it∈its.take 0/\bdr w s b it:=by
 rw[h]
 simp
theorem Fi {a c b:Int}:b∈[a,c] ↔ b=a\/b=c:=by simp
theorem Vy {lo:Int}{n:Nat}:((List.range n).map fun k=>lo + ((k:Nat):Int)).Pairwise (· < ·):=by
 refine List.pairwise_map.mpr (List.pairwise_lt_range.imp fun {a b} h=>?_)
 show lo + (a:Int) < lo + (b:Int)
 omega
theorem QJ {w s:Int}{css:List (List It1)}(h9:w < 9) (b:Int):b∈((List.range (wl w s + 2 ^ w.toNat - wl w s).toNat).map fun k=>wl w s + ((k:Nat):Int)) ↔ lV w s css b:=by
 have p:=two_pow_pos w.toNat
 rw[List.mem_map]
 constructor
 ·rintro ⟨k,m,rfl⟩
  have:=List.mem_range.mp m
  exact ⟨⟨ω,ω⟩,.inl h9⟩
 ·rintro ⟨⟨h1,h2⟩,_⟩
  exact ⟨(b - wl w s).toNat,List.mem_range.mpr ω,ω⟩
theorem O3 {w s:Int}{css:List (List It1)}{ns ys:List Int}(h1:1<=w) (h9:¬ w < 9) (hs:s=0\/s=1) (hok:∀ its,its∈css->∀ it,it∈its->It1.Ok w s it) (h:∀ b,b∈ns ↔ BIn w s css b)
  (hp:ys.Perm (SRT.ded (ns.filter fun b=>decide (b < wl w s + 2 ^ w.toNat)))) (b:Int):b∈ys ↔ lV w s css b:=by
 rw[hp.mem_iff,SRT.Uh,List.mem_filter,h]
 have p:=two_pow_pos w.toNat
 unfold lV BIn
 rw[decide_eq_true_iff]
 constructor
 ·rintro ⟨q,hb⟩
  refine ⟨⟨?_,hb⟩,.inr q⟩
  rcases q with rfl | ⟨its,m,it,mi,q⟩
  ·exact Int.le_refl _
  ·exact Uu h1 hs (hok its m it mi) q
 ·rintro ⟨⟨_,hb⟩,q⟩
  exact ⟨q.resolve_left h9,hb⟩
theorem Ez {w s n:Int}{it:It1} (h1:1<=w) (hs:s=0\/s=1) (hok:It1.Ok w s it) (hlo:wl w s < n) (hn:b7 w s n) (h:aQ w n it=true) (h':aQ w (n - 1) it=false):bdr w s n it:=by
 have e:=w6 h1 hs
 have ew:((w.toNat:Nat):Int)=w:=by omega
 refine Pg (begins (W:=w.toNat) ω ?_ (by rw[e]; exact hlo) (by rw[e]; exact hn.2) (by rw[ew]; exact h) (by rw[ew]; exact h'))
 cases it with
 | bits a b=>exact hok.1
 | _=>trivial
theorem Ot {w s n:Int}{it:It1} (h1:1<=w) (hs:s=0\/s=1) (hok:It1.Ok w s it) (hlo:wl w s < n) (hn:b7 w s n) (h:aQ w n it=false) (h':aQ w (n - 1) it=true):bdr w s n it:=by
 cases it with
 | one a=>
  have:n - 1=a:=by simpa [aQ] using h'
  right
  omega
 | rng a c=>
  simp [aQ] at h h'
  right
  omega
 | bits m v=>
  have e:=w6 h1 hs
  have e1:aQ w n (.bits m v)=decide ((n % 2 ^ w.toNat).toNat &&& m=v):=rfl
  have e2:aQ w (n - 1) (.bits m v)=decide (((n - 1) % 2 ^ w.toNat).toNat &&& m=v):=rfl
  rw[e1,decide_eq_false_iff_not] at h
  rw[e2,decide_eq_true_iff] at h'
  have hv:v &&& m=v:=by rw[<- h',Nat.and_assoc,Nat.and_self]
  have m0:m≠0:=by
   rintro rfl
   rw[Nat.and_zero] at h h'
   exact h h'
  obtain ⟨t,ht,hl⟩:=yU m0
  have k1:=hn.1
  have k2:=hn.2
  obtain ⟨y,my,y1,y2⟩:=(kI (W:=w.toNat) (sg:=s) ω hv hok.1 ht hl (by rw[e]; omega) (by rw[e]; omega)).mpr h'
  obtain ⟨x,mx,rfl⟩:=List.mem_map.mp my
  replace y1:nOf w.toNat s x<=n - 1:=y1
  replace y2:n - 1<=nOf w.toNat s x + 2 ^ t - 1:=y2
  refine ⟨hv,t,x,ht,hl,mx,.inr ?_⟩
  rcases Int.lt_or_le n (nOf w.toNat s x + 2 ^ t) with c | c
  ·exfalso
   refine h ((kI (W:=w.toNat) (sg:=s) ω hv hok.1 ht hl (by rw[e]; omega) (by rw[e]; omega)).mp ⟨_,my,?_,?_⟩)
   ·show nOf w.toNat s x<=n
    omega
   ·show n<=nOf w.toNat s x + 2 ^ t - 1
    omega
  ·omega
theorem vf {w n n':Int}:∀ {css:List (List It1)},(∀ its,its∈css->∀ it,it∈its->aQ w n it=aQ w n' it)->jq w n css=jq w n' css
 | [],_=>rfl
 | c :: css,h=>by
  have e:c.any (aQ w n)=c.any (aQ w n'):=by
   rw[Bool.eq_iff_iff,List.any_eq_true,List.any_eq_true]
   constructor
   ·rintro ⟨it,m,q⟩
    exact ⟨it,m,by rw[<- h c (List.mem_cons_self ..) it m]; exact q⟩
   ·rintro ⟨it,m,q⟩
    exact ⟨it,m,by rw[h c (List.mem_cons_self ..) it m]; exact q⟩
  unfold jq
  rw[e,vf fun its m=>h its (List.mem_cons_of_mem _ m)]
theorem u9 {w s:Int}{css:List (List It1)}(h1:1<=w) (hs:s=0\/s=1) (hok:∀ its,its∈css->∀ it,it∈its->It1.Ok w s it):∀ {d:Nat}{n:Int},n=wl w s + d->b7 w s n->∃ b,lV w s css b/\b<=n/\jq w b css=jq w n css
 | 0,n,hd,hn=>⟨n,⟨hn,.inr (.inl ω)⟩,Int.le_refl _,rfl⟩
 | d + 1,n,hd,hn=>by
  by_cases c:lV w s css n
  ·exact ⟨n,c,Int.le_refl _,rfl⟩
  ·have k1:=hn.1
   have k2:=hn.2
   obtain ⟨b,hb,hle,e⟩:=u9 h1 hs hok (d:=d) (n:=n - 1) ω ⟨ω,ω⟩
   refine ⟨b,hb,ω,?_⟩
   rw[e]
   refine vf fun its m it mi=>?_
   have nb:¬ bdr w s n it:=fun z=>c ⟨hn,.inr (.inr ⟨its,m,it,mi,z⟩)⟩
   cases p1:aQ w n it with
   | true=>
    cases p2:aQ w (n - 1) it with
    | true=>rfl
    | false=>exact absurd (Ez h1 hs (hok its m it mi) ω hn p1 p2) nb
   | false=>
    cases p2:aQ w (n - 1) it with
    | false=>rfl
    | true=>exact absurd (Ot h1 hs (hok its m it mi) ω hn p1 p2) nb
theorem Gh {w n:Int}:∀ {css:List (List It1)}{k:Nat},jq w n css=k->k < css.length->∃ its,css[k]?=some its/\its.any (aQ w n)=true/\∀ (j:Nat) cs,j < k->css[j]?=some cs->cs.any (aQ w n)=false
 | [],k,_,h=>by cases h
 | c :: css,k,e,h=>by
  unfold jq at e
  split at e
  ·rename_i hc
   subst e
   exact ⟨c,rfl,hc,fun j cs hj=>absurd hj ω⟩
  ·rename_i hc
   subst e
   obtain ⟨its,h1,h2,h3⟩:=Gh (css:=css) (k:=jq w n css) rfl (by simpa using h)
   refine ⟨its,by simpa using h1,h2,fun j cs hj hcs=>?_⟩
   cases j with
   | zero=>
    cases hcs
    exact Bool.eq_false_iff.mpr hc
   | succ j=>exact h3 j cs ω (by simpa using hcs)
open Classical in
noncomputable def deadB (w s:Int) (css:List (List It1)) (k:Nat):Bool:=decide (∀ n,b7 w s n->jq w n css≠k)
theorem xM {w s:Int}{css:List (List It1)}{k:Nat}:deadB w s css k=true ↔ ∀ n,b7 w s n->jq w n css≠k:=by
 unfold deadB
 exact @decide_eq_true_iff _ (_)
noncomputable def deadL (w s:Int) (css:List (List It1)) (i:Nat):List Nat:=(List.range i).filter (deadB w s css)
theorem vH {w s:Int}{css:List (List It1)}{i:Nat}:deadL w s css (i + 1)=deadL w s css i ++ if deadB w s css i then [i] else []:=by
 unfold deadL
 rw[List.range_succ,List.filter_append]
 congr 1
 cases h:deadB w s css i <;> simp [h]
theorem rP {w s:Int}{css:List (List It1)}{i:Nat}:(deadL w s css i).length<=i:=by
 have:=List.length_filter_le (deadB w s css) (List.range i)
 rw[List.length_range] at this
 exact this
structure TSp (w s:Int) (css:List (List It1)) (ys:List (Int×Int)):Prop where
 gap:Gap ys
 ins:JG w s ys
 cv:∀ n,b7 w s n->(cov ys n ↔ ∃ its,its∈css/\its.any (aQ w n)=true)
 ln:ys.length<=128 * (css.map List.length).sum
theorem TSp.nil {w s:Int}:TSp w s [] []:=⟨.nil,fun y m=>(by cases m),fun n _=>⟨fun c=>absurd c tY,fun ⟨its,m,_⟩=>by cases m⟩,Nat.le_refl _⟩
theorem TSp.more {w s:Int}{css:List (List It1)}{its:List It1} {ys zs ws:List (Int×Int)}(h:TSp w s css ys) (k:CSp w s its zs) (g:Gap ws) (c:∀ n,cov ws n ↔ cov (ys ++ zs) n) (l:ws.length<=(ys ++ zs).length):TSp w s (css ++ [its]) ws:=by
 refine ⟨g,fun y m=>?_,fun n hn=>?_,?_⟩
 ·have ne:=g.ne y m
  have kk:∀ n,cov ws n->b7 w s n:=fun n z=>by
   rw[c,jh] at z
   rcases z with z | z
   ·exact h.ins.kind z
   ·exact k.ins.kind z
  have k1:=kk _ ⟨y,m,Int.le_refl _,ne⟩
  have k2:=kk _ ⟨y,m,ne,Int.le_refl _⟩
  exact ⟨k1.1,ne,k2.2⟩
 ·rw[c,jh,h.cv n hn,k.cv n hn]
  constructor
  ·rintro (⟨its',m,q⟩ | q)
   ·exact ⟨its',List.mem_append_left _ m,q⟩
   ·exact ⟨its,List.mem_append_right _ (by simp),q⟩
  ·rintro ⟨its',m,q⟩
   rcases List.mem_append.mp m with m | m
   ·exact .inl ⟨its',m,q⟩
   ·rw[List.mem_singleton.mp m] at q
    exact .inr q
 ·have:=h.ln
  have:=k.ln
  rw[List.length_append] at l
  rw[List.map_append,List.sum_append]
  simp only[List.map_cons,List.map_nil,List.sum_cons,List.sum_nil]
  omega
theorem Ow {w s:Int}{css:List (List It1)}{its:List It1} {i:Nat}{ys zs:List (Int×Int)}(hi:css[i]?=some its) (h:TSp w s (css.take i) ys) (k:CSp w s its zs) {t:Bool}(ht:t=true ↔ ∀ n,cov zs n->cov ys n):t=deadB w s css i:=by
 rw[Bool.eq_iff_iff,ht,xM]
 have il:=(List.getElem?_eq_some_iff.mp hi).1
 constructor
 ·intro z n hn e
  obtain ⟨its',h1,h2,h3⟩:=Gh e il
  rw[hi] at h1
  cases h1
  obtain ⟨cs,m,q⟩:=(h.cv n hn).mp (z n ((k.cv n hn).mpr h2))
  obtain ⟨j,hj⟩:=List.getElem?_of_mem m
  have lj:=(List.getElem?_eq_some_iff.mp hj).1
  rw[List.length_take] at lj
  rw[List.getElem?_take_of_lt ω] at hj
  rw[h3 j cs ω hj] at q
  cases q
 ·intro z n hn
  have kn:=k.ins.kind hn
  refine (h.cv n kn).mpr ?_
  by_cases c:∃ cs,cs∈css.take i/\cs.any (aQ w n)=true
  ·exact c
  ·exfalso
   refine z n kn (vd hi (fun j cs hj hc=>?_) ((k.cv n kn).mp hn))
   refine Bool.eq_false_iff.mpr fun q=>c ⟨cs,?_,q⟩
   refine List.mem_of_getElem? (i:=j) ?_
   rw[List.getElem?_take_of_lt hj]
   exact hc
theorem Ox {w s:Int}{css:List (List It1)}{ns:List Int}{k:Nat}(h1:1<=w) (hs:s=0\/s=1) (hok:∀ its,its∈css->∀ it,it∈its->It1.Ok w s it) (hns:∀ b,b∈ns ↔ lV w s css b):deadB w s css k=true ↔ ¬ ∃ b,b∈ns/\jq w b css=k:=by
 rw[xM]
 constructor
 ·rintro h ⟨b,m,e⟩
  exact h b ((hns b).mp m).1 e
 ·intro h n hn e
  obtain ⟨b,hb,_,eb⟩:=u9 h1 hs hok (d:=(n - wl w s).toNat) (n:=n) (by have:=hn.1; omega) hn
  exact h ⟨b,(hns b).mpr hb,by rw[eb,e]⟩
def Ku:Sp:=fun vs H Q _=>∃ (x:V) (w s:Int) (ok:Addr->Prop) (css:List (List It1)),vs=[x]/\1<=w/\w<=40/\(s=0\/s=1)/\aX ok H x (ig w s css)/\(∀ its,its∈css->∀ it,it∈its->It1.Ok w s it)/\(css.map List.length).sum<=110 /\
 ∀ (r:Addr) (H':Hp),Same H H'->H r=none->H' r=some (.lst (cI (deadL w s css css.length)))->Q (.ref r) H'
def Ko:Sp:=fun vs H Q _=>∃ (p t:Addr) (B w s:Int) (css:List (List It1)),vs=[.ref p,.ref t]/\bA H p B/\0<=B/\B<=900000/\aX (·≠p) H (.ref t) (ig w s css)/\(∀ its,its∈css->its.length<=6/\∀ it,it∈its->It1.Ok w s it)/\css.length<=12 /\
 ∀ (t':Addr) (css':List (List It1)) H',cN p H H'->bA H' p (B + 100)->aX (·≠p) H' (.ref t') (ig w s css') ->
  (∀ its,its∈css'->its.length<=6/\∀ it,it∈its->It1.Ok w s it)->css'.length<=25->(css'.map List.length).sum<=110->Q (.ref t') H'
section
variable {X:Cx}{o e:Expr}{apos cpos:Pos}{td ty:TE}
end
theorem wA {prog:Program}{w:World}{A:Around}{E:Value->Shared->Prop}{s:Shared}{l:Addr}{rs:List (Key×Value)}{ps:Array Value}{k:Nat}{Q:Value->Shared->Prop}(hh:A.handled=none) (hl:s.heap.get? l=some { cls:=.type "list",data:=.seq ps k }) (P:Cz prog w s.heap rs ps []) (hz:rs.length<=sizeLine) (hb:sysModules < s.heap.objs.size)
  (hQ:∀ (h':Heap) (t':Nat),h'.DictOf (b8 prog w) s.heap.objs.size (merged [] rs)->(∀ c o,s.heap.get? c=some o->h'.get? c=some o)->Q (.ref s.heap.objs.size) { s with heap:=h',toks:=t' }) :
  wpAny (model prog w) A (call (Value.type "dict") [Value.ref l]) Q E s:=by
 have fr:∀ {c:Addr} {o:Obj},s.heap.get? c=some o->s.heap.objs.size≠c:=fun {c o} e q=>by
  have:=Heap.lt_size e
  rw[<- q] at this
  exact Nat.lt_irrefl _ this
 refine callType_codes F.kt_called_dict (F.kt_typeCall_dict_1 _) F.entry_dict_init (kt_code_dict_new _ (Q₁:=fun obj s₁=>obj=Value.ref s.heap.objs.size/\s₁={ s with heap:=s.heap.push { cls:=Value.type "dict",data:=Data.dict #[] } }) ⟨rfl,rfl⟩) fun obj s₁ q=>?_
 obtain ⟨rfl,rfl⟩:=q
 have gd:(s.heap.push { cls:=Value.type "dict",data:=Data.dict #[] }).get? s.heap.objs.size=some { cls:=Value.type "dict",data:=Data.dict #[] }:=Heap.get?_push_size _ rfl
 have up:∀ c o,s.heap.get? c=some o->(s.heap.push { cls:=Value.type "dict",data:=Data.dict #[] }).get? c=some o:=fun c o e=>Heap.get?_push_of_some _ e
 refine ⟨⟨_,gd,rfl⟩,F.args_dict_init_2 _ _,?_⟩
 unfold Builtin.«dict.__init__» Builtin.Dict.selfAndRest Builtin.Dict.notOrdered
 refine wpAny_bind (wpAny_bind (wpAny_ite_true ψ ?_))
 refine wpAny_bind (wpAny_typeOf (T := "dict") ⟨_,gd,rfl⟩ (wpAny_ite_false rfl (wpAny_pure ?_)))
 show wpAny _ _ (Builtin.Dict.addrOf (Value.ref s.heap.objs.size) >>= _) _ _ _
 refine wpAny_bind ?_
 show wpAny _ _ (pure s.heap.objs.size) _ _ _
 refine wpAny_pure (wpAny_pure ?_)
 show wpAny _ _ (Builtin.Dict.updateFrom "dict.__init__" s.heap.objs.size (Value.ref l) [] Value.none) _ _ _
 unfold Builtin.Dict.updateFrom
 refine wpAny_bind (wpAny_typeOf (T := "list") ⟨_,up l _ hl,rfl⟩ (wpAny_ite_true rfl ?_))
 refine wpAny_bind (wj (A:=A.in1.in1) hh (up l _ hl) fun h1 tk kp=>?_)
 refine wpAny_ite_true rfl ?_
 refine wpAny_bind (wpAny_rule ?_)
 have up2:∀ c o,s.heap.get? c=some o->h1.get? c=some o:=fun c o e=>kp c o (up c o e)
 have il:h1.IsList l ps:=⟨_,up2 l _ hl,rfl,k,rfl⟩
 have hd0:h1.DictOf (b8 prog w) s.heap.objs.size []:=by
  obtain ⟨_,_,vs,kv,o,es,ep,e,r⟩:=Ou (P:=prog) (w:=w) (H:=fun _=>none) s.heap hb
  cases kv
  exact ⟨o,es,ep,kp _ o e,r⟩
 refine wpAny_bind (wpAny_pyIter_list (s:={ s with heap:=h1,toks:=tk }) il (wpAny_pure ⟨Code.quiet_builtin _ ψ,?_⟩))
 have up3:∀ c o,h1.get? c=some o->(h1.push { cls:=.type "list_iterator",data:=.fields #[.ref l,.int 0 0] }).get? c=some o:=fun c o e=>Heap.get?_push_of_some _ e
 have lt:∀ {c:Addr} {o:Obj},h1.get? c=some o->c≠h1.objs.size:=fun {c o} e q=>by
  have:=Heap.lt_size e
  rw[q] at this
  exact Nat.lt_irrefl _ this
 have gd1:∃ o,h1.get? s.heap.objs.size=some o:=by obtain ⟨o,_,_,e,_⟩:=hd0; exact ⟨o,e⟩
 obtain ⟨od,ed⟩:=gd1
 refine uh (A:=A.in1) (it:=h1.objs.size) (l:=l) (d:=s.heap.objs.size) (rs:=rs) (ps:=ps) hh (lt ed) (fr hl) (lt (up2 l _ hl)) rs.length 0 _ [] rfl (Nat.zero_le _) ⟨_,Heap.get?_push_size _ rfl,rfl,rfl⟩ ⟨_,up3 l _ (up2 l _ hl),rfl,k,rfl⟩ ?_ ?_ (by simpa using hz) fun h3 t3 d3 old3=>?_
 ·refine ⟨P.1,fun j kv e=>?_⟩
  obtain ⟨p,u,e1,e2,e3,e4⟩:=P.2 j kv e
  obtain ⟨o5,e5,e6⟩:=e2
  refine ⟨p,u,e1,⟨o5,up3 p o5 (up2 p o5 e5),e6⟩,e3,fun q=>?_⟩
  rcases List.mem_cons.mp q with q | q
  ·exact lt (up2 p o5 e5) q
  ·exact fr e5 (List.mem_singleton.mp q).symm
 ·obtain ⟨o,es,ep,e,r⟩:=hd0
  exact ⟨o,es,ep,up3 _ o e,r⟩
 ·rw[List.drop_zero] at d3
  exact ⟨rfl,hQ h3 t3 d3 fun c o e=>old3 c o (lt (up2 c o e)) (Ne.symm (fr e)) (up3 c o (up2 c o e))⟩
def J9 (ta:TA):TE:=fun σ H Q=>ta σ H fun vs H1=>∃ (l:Addr) (prs:List (Key×V)) (ads:List Addr),vs=[.ref l]/\H1 l=some (.lst (ads.map V.ref))/\ads.length=prs.length /\
 (∀ (j:Nat) p kv,ads[j]?=some p->prs[j]?=some kv->H1 p=some (.tup [kV kv.1,kv.2]))/\prs.length<=sizeLine/\∀ d,H1 d=none->Q (.ref d) (upd H1 d (.dK (putAll [] prs)))
section
variable {X:Cx}
theorem RQ {a:Expr}{ta:TA}{p pos:Pos}(hc:X.calm=true) (hg:Gl X "dict") (hm:X.mg "dict" = none) (ha:PA X [a] ta) (hs:starEach [a] X.env=[(false,eval a X.env)]:=by rfl) :
  PE X (.Call (.Name "dict" p) [a] [] pos) (J9 ta):=by
 intro pins s σ H Q I h
 refine Call_ (iT I hg hm boot_dict (PyProof.Rows.callWith_type1 (thA (ha pos pins s σ H _ I h) fun us s1 vs H1 I1 r1 q1=>?_) hs rfl))
 obtain ⟨l,prs,ads,rfl,el,hlen,hprs,hz,q⟩:=q1
 cases r1 with
 | cons r rr=>
  cases rr
  cases r
  obtain ⟨zl,its,n,rv,gl⟩:=I1.hok l _ el
  have eits:=ud rv
  obtain ⟨rs,k1,k2,k3⟩:=Lx I1.hok ads prs hlen hprs
  refine wA (rs:=rs) (ps:=its.toArray) (k:=n) (I1.ok.hd hc) gl ⟨?_,fun j kv ej=>?_⟩ (by rw[k2]; exact hz) I1.big fun h3 t3 d3 old=>?_
  ·rw[List.size_toArray,eits,List.length_map,hlen,k2]
  ·obtain ⟨p,u,xs,e1,e2,e3,e4⟩:=k3 j kv ej
   refine ⟨p,u,?_,e2,e3,List.not_mem_nil⟩
   rw[List.getElem?_toArray,eits,List.getElem?_map,e1]
   rfl
  ·have hf:H1 s1.heap.objs.size=none:=I1.hok.fresh (Nat.le_refl _)
   have hsys:(s1.heap.objs.size == sysModules)=false:=by
    have t1:@LT.lt Nat _ sysModules s1.heap.objs.size:=I1.big
    exact beq_false_of_ne (by intro (z:@Eq Nat _ _); omega)
   have hle:=wN prs []
   exact ⟨.ref s1.heap.objs.size,_,I1.laid (t':=t3) (h':=h3) old (Nat.le_refl _) (Xy (Nat.le_trans hle (by simpa using hz)) hsys (KV.putAll .nil k1) d3),rfl,q _ hf⟩
theorem Ri {a:Expr}{ta:TA}{p pos:Pos}(hc:X.calm=true) (hg:Gl X "dict") (hm:X.mg "dict" = none) (ha:QA X [a] ta) (hs:starEach [a] X.env=[(false,eval a X.env)]:=by rfl) :
  QE X (.Call (.Name "dict" p) [a] [] pos) (J9 ta):=⟨RQ hc hg hm ha.h hs⟩
end
def FN:R2:=fun x y H Q=>∃ a o,y=.ref a/\Qa H a x o/\Q (.bl (!o.isSome)) H
theorem HW {X:Cx}(hu:X.A.units + 1 < cLine):OpR X (compareOp .NotIn) FN:=by
 intro pins s σ H x y v u Q I rx ry h
 obtain ⟨a,o,rfl,g,q⟩:=h
 cases ry
 exact Ui hu I g rx fun s' I'=>⟨.bl _,H,I',rfl,q⟩
theorem uK {v:V}{j:Key}:∀ {bs:List Int}{kvs:List (Key×V)},gR (putAll kvs (bs.map fun b=>((Sum.inl b:Key),v))) j=if (∃ b,b∈bs/\j=Sum.inl b) then some v else gR kvs j
 | [],kvs=>by
  rw[if_neg (by rintro ⟨b,m,_⟩; cases m)]
  rfl
 | b :: bs,kvs=>by
  have ih:=uK (v:=v) (j:=j) (bs:=bs) (kvs:=putK kvs (Sum.inl b) v)
  rw[List.map_cons]
  show gR (putAll (putK kvs (Sum.inl b) v) _) j=_
  rw[ih,JL]
  by_cases c:∃ b',b'∈bs/\j=Sum.inl b'
  ·rw[if_pos c,if_pos]
   obtain ⟨b',m,e⟩:=c
   exact ⟨b',List.mem_cons_of_mem _ m,e⟩
  ·rw[if_neg c]
   by_cases e:j=Sum.inl b
   ·rw[if_pos e,if_pos ⟨b,List.mem_cons_self ..,e⟩]
   ·rw[if_neg e,if_neg]
    rintro ⟨b',m,e'⟩
    rcases List.mem_cons.mp m with rfl | m
    ·exact e e'
    ·exact c ⟨b',m,e'⟩
def DY (w:Int) (css:List (List It1)) (ns:List Int):List (Key×V):=putAll [] ((ns.map fun b=>((jq w b css:Nat):Int)).map fun b=>((Sum.inl b:Key),V.bl true))
theorem IV {w s:Int}{css:List (List It1)}{ns:List Int}{k:Nat}(h1:1<=w) (hs:s=0\/s=1) (hok:∀ its,its∈css->∀ it,it∈its->It1.Ok w s it) (hns:∀ b,b∈ns ↔ lV w s css b):(!(gR (DY w css ns) (Sum.inl (k:Int):Key)).isSome)=deadB w s css k:=by
 rw[Bool.eq_iff_iff,Ox h1 hs hok hns]
 unfold DY
 rw[uK]
 by_cases c:∃ b,b∈ns/\jq w b css=k
 ·obtain ⟨b,m,e⟩:=c
  rw[if_pos ⟨_,List.mem_map_of_mem m,by rw[e]⟩]
  constructor
  ·intro z; cases z
  ·intro z; exact absurd ⟨b,m,e⟩ z
 ·rw[if_neg,show gR ([]:List (Key×V)) (Sum.inl (k:Int):Key)=none from rfl]
  ·exact ⟨fun _=>c,fun _=>rfl⟩
  ·rintro ⟨b',m,e⟩
   obtain ⟨b,mb,rfl⟩:=List.mem_map.mp m
   injection e with e
   exact c ⟨b,mb,ω⟩
theorem Oz (xs:List V) {n:Int}(h:0<=n):rQ xs none (some n)=xs.take n.toNat:=by
 rcases Nat.lt_or_ge xs.length n.toNat with c | c
 ·unfold rQ
  simp only[HT.sIx]
  rw[List.drop_zero,List.take_of_length_le (show xs.length<=n.toNat by omega)]
  refine List.take_of_length_le ?_
  split <;> omega
 ·have e:n=((n.toNat:Nat):Int):=by omega
  rw[e,Int.toNat_natCast]
  exact Xz xs n.toNat c
structure Own (w:Int) (ns:List Int) (kvs:List (Key×V)) (css:List (List It1)):Prop where
 vals:∀ b v,gR kvs (Sum.inl b)=some v->∃ k:Int,v=.int k
 own:∀ (k:Nat) its it b,css[k]?=some its->it∈its->b∈ns->aQ w b it=true->gR kvs (Sum.inl b)=some (.int (k:Int))
structure MadeAt (H0 H:Hp) (p:Addr) (ads:List Addr) (css:List (List It1)):Prop where
 ln:ads.length=css.length
 nd:ads.Nodup
 fr:∀ a,a∈ads->H0 a=none/\a≠p
 el:∀ (j:Nat) a its,ads[j]?=some a->css[j]?=some its->∃ vs,H a=some (.lst vs)/\vs.length<=1000/\aK (fun b=>b≠p/\H0 b≠none) H vs (its.map itD)
theorem atV {xs:List V}{r:Int}{x:V}(h0:0<=r) (h:xs[r.toNat]?=some x):atI xs r=some x:=by
 have e:r=((r.toNat:Nat):Int):=by omega
 rw[e]
 exact fD h
end L2
local macro_rules | `(tactic| push_cast) => `(tactic| ((try dsimp only [L2.tV, L2.CT, L2.J5, L2.su, L2.tOp, L2.tC, L2.zT, L2.zU, L2.mG, L2.iW, L2.uq, L2.tCB, L2.tIf, L2.Qo, L2.tB, L2.Qq, L2.tOr, L2.J3, L2.G6, L2.sW, L2.ju, L2.rI0, List.getElem?_cons_zero, List.getElem?_cons_succ, List.set_cons_zero, List.set_cons_succ]); try simp only [↓L2.rdy, L2.rdy, ↓reduceIte, reduceCtorEq, Nat.reduceAdd, Nat.reduceSub]))
local macro_rules | `(tactic| push_cast [$ls,*]) => `(tactic| ((try dsimp only [L2.tV, L2.CT, L2.J5, L2.su, L2.tOp, L2.tC, L2.zT, L2.zU, L2.mG, L2.iW, L2.uq, L2.tCB, L2.tIf, L2.Qo, L2.tB, L2.Qq, L2.tOr, L2.J3, L2.G6, L2.sW, L2.ju, L2.rI0, List.getElem?_cons_zero, List.getElem?_cons_succ, List.set_cons_zero, List.set_cons_succ]); try simp only [↓L2.rdy, L2.rdy, ↓reduceIte, reduceCtorEq, Nat.reduceAdd, Nat.reduceSub, $ls,*]))
namespace K07
open PySem L2 PyProof.Rows
def top (i:Nat):Stmt:=PySem.Challenge.pw_caseways_k07_dead_cases_told.main.body.getD i (.Pass ⟨0,0,0,0⟩)
abbrev BLs:List Str:=["abs", "all", "any", "bool", "dict", "enumerate", "int", "isinstance", "len", "list", "max", "min", "range", "repr", "set", "sorted", "str", "sum", "tuple", "zip"]
theorem M7:("abs" : Str)∈BLs:=by decide +kernel
theorem W8:("all" : Str)∈BLs:=by decide +kernel
theorem W7:("any" : Str)∈BLs:=by decide +kernel
theorem yS:("bool" : Str)∈BLs:=by decide +kernel
theorem SX:("dict" : Str)∈BLs:=by decide +kernel
theorem jf:("enumerate" : Str)∈BLs:=by decide +kernel
theorem yR:("int" : Str)∈BLs:=by decide +kernel
theorem bM:("isinstance" : Str)∈BLs:=by decide +kernel
theorem jQ:("len" : Str)∈BLs:=by decide +kernel
theorem qx:("list" : Str)∈BLs:=by decide +kernel
theorem M6:("max" : Str)∈BLs:=by decide +kernel
theorem DQ:("min" : Str)∈BLs:=by decide +kernel
theorem eU:("range" : Str)∈BLs:=by decide +kernel
theorem Gg:("repr" : Str)∈BLs:=by decide +kernel
theorem W6:("set" : Str)∈BLs:=by decide +kernel
theorem wZ:("sorted" : Str)∈BLs:=by decide +kernel
theorem DP:("str" : Str)∈BLs:=by decide +kernel
theorem W5:("sum" : Str)∈BLs:=by decide +kernel
theorem uZ:("tuple" : Str)∈BLs:=by decide +kernel
theorem W4:("zip" : Str)∈BLs:=by decide +kernel
abbrev vQ:List Str:=["_law_script", "_law_k"]
abbrev GI_ (s:Stmt) (x:Str):Prop:=(aj s).names.lookup x=some .globalImplicit
abbrev NM_ (N:List Str) (s:Stmt) (i:Nat) (x:Str):Prop:=Nm N (aj s) i x
abbrev gC:Stmt:=top 13
theorem Hl:bJ vQ ["_law_script", "_law_k"] (aj gC):=⟨rfl,rfl,rfl,ψ,rfl,ψ,ψ⟩
theorem uX:NM_ vQ gC 0 "_law_script" := .of ψ
theorem uW:NM_ vQ gC 1 "_law_k" := .of ψ
theorem zf:GI_ gC "len" := by decide +kernel
theorem JC:Bn "_law_cell_at" := ⟨ψ,ψ⟩
abbrev zK:List Str:=["_law_script", "_law_k", "_law_cell"]
abbrev iC:Stmt:=top 14
theorem Fy:bJ zK ["_law_script", "_law_k"] (aj iC):=⟨rfl,rfl,rfl,ψ,rfl,ψ,ψ⟩
theorem Mr:NM_ zK iC 0 "_law_script" := .of ψ
theorem uN:NM_ zK iC 1 "_law_k" := .of ψ
theorem pO:NM_ zK iC 2 "_law_cell" := .of ψ
theorem vm:GI_ iC "_law_cell_at" := by decide +kernel
theorem vh:GI_ iC "abs" := by decide +kernel
theorem Ed:GI_ iC "int" := by decide +kernel
theorem Um:Bn "_law_tape" := ⟨ψ,ψ⟩
abbrev rW:List Str:=["_law_tape_here", "_law_many", "_law_found", "_law_prime", "_law_once"]
abbrev iD:Stmt:=top 15
theorem pF:bJ rW ["_law_tape_here", "_law_many"] (aj iD):=⟨rfl,rfl,rfl,ψ,rfl,ψ,ψ⟩
theorem cX:NM_ rW iD 0 "_law_tape_here" := .of ψ
theorem mQ:NM_ rW iD 1 "_law_many" := .of ψ
theorem mO:NM_ rW iD 2 "_law_found" := .of ψ
theorem Aw:NM_ rW iD 3 "_law_prime" := .of ψ
theorem uO:NM_ rW iD 4 "_law_once" := .of ψ
theorem yZ:GI_ iD "_law_take" := by decide +kernel
theorem bY:Bn "_law_take" := ⟨ψ,ψ⟩
section
variable {P:Program}{w:World}{K:PySem.W.Frag}{mg:Str->Option Value}{base:Heap}{f:Addr}{fd:FuncData}{bs:List Str}
theorem Sv (hB:∀ x:Str,x∈BLs->mg x=none) (F:Fun K "_law_cell_at" "_law_cell_at" gC f fd):dO P w K mg base CX0 1 f fd ["_law_script", "_law_k"] (Kv K):=by
 refine F.okq Hl (fun vs H Q E h=>?_) (fun cdv A outer s H vs Q E hr h=>?_)
 ·obtain ⟨a,ns,k,rfl,_⟩:=h
  rfl
 ·obtain ⟨a,ns,k,rfl,hS,h0,q⟩:=h
  refine ⟨_,(aJ (aR (pN (aU j4 (ao uW) (cG jj zf (hB "len" jQ) PySem.boot_len jT (ak (ao uX) au rfl) rfl rfl) (aO _)) (bI Gk (ao uX) (ao uW) (fun _ _=>rfl)) aq))),?_⟩
  push_cast
  refine ⟨_,.inl hS,?_⟩
  split
  ·rename_i c
   rw[List.length_map] at c
   have hk:k.toNat < ns.length:=by omega
   have ek:k=((k.toNat:Nat):Int):=by omega
   have z:atI (ns.map V.int) ((k.toNat:Nat):Int)=some (.int ns[k.toNat]):=fD (by rw[List.getElem?_map,List.getElem?_eq_getElem hk]; rfl)
   rw[<- ek] at z
   unfold Yh
   exact ⟨a,_,k,_,rfl,rfl,hS,z,q _⟩
  ·exact q _
theorem R9 (hB:∀ x:Str,x∈BLs->mg x=none) (CZCellAt:Cal P w K mg base "_law_cell_at" 1 ["_law_script", "_law_k"] (Kv K)) (F:Fun K "_law_tape" "_law_tape" iC f fd):dO P w K mg base CX0 2 f fd ["_law_script", "_law_k"] (Km K):=by
 refine F.okq Fy (fun vs H Q E h=>?_) (fun cdv A outer s H vs Q E hr h=>?_)
 ·obtain ⟨a,ns,k,rfl,_⟩:=h
  rfl
 ·obtain ⟨a,ns,k,rfl,hS,h0,h1,q⟩:=h
  refine ⟨_,(aD (bQ pO Fy.nd (bD CZCellAt (hr.mono δ) vm JC (ak (ao Mr) (ak (ao uN) au rfl) rfl) rfl rfl) rfl (.inl rfl))
   (aJ (aR (cZ (ak (aG fP (cG BR vh (hB "abs" M7) PyProof.Rows.Boot.«abs» O5 (ak (ao pO) au rfl) rfl rfl) (FW oU Ed (hB "int" yR) boot_int zp (ak (iH Yx (cG BR vh (hB "abs" M7) PyProof.Rows.Boot.«abs» O5 (ak (ao pO) au rfl) rfl rfl) (aG Mi aq aq) (aO _)) au rfl) rfl rfl)) (ak (aG iI (aG fP (aG aZ (aG aZ (aG iI (ao pO) aq) (aG fP (aG fP aq (ao uN)) (ao uN))) aq) aq) aq) (ak aq au rfl) rfl) rfl))))),?_⟩
  push_cast
  refine ⟨a,ns,k,rfl,hS,h0,fun v=>?_⟩
  push_cast
  refine ⟨⟨δ,δ,δ⟩,?_,δ,.inl δ,.inr ω,.inr δ,δ,aP δ,fun p hp=>q p _ hp (aA hp) ⟨_,_,_,aB,?_,?_,?_,Int.le_refl _,Int.le_refl _⟩⟩
  ·right
   generalize (if v < 0 then -v else v)=u
   split <;> decide
  ·refine Int.mul_nonneg ?_ ?_
   ·split <;> omega
   ·generalize (if v < 0 then -v else v)=u
    split <;> decide
  ·exact Int.emod_nonneg _ δ
  ·exact Int.emod_lt_of_pos _ δ
theorem Gd {n:Nat}(hB:∀ x:Str,x∈BLs->mg x=none) (hn:n<=10) (CZTake:Cal P w K mg base "_law_take" n ["_law_tape_here", "_law_many"] (fG n)) (F:Fun K "_law_take" "_law_take" iD f fd):dO P w K mg base CX0 (n + 1) f fd ["_law_tape_here", "_law_many"] (fG (n + 1)):=by
 refine F.okq pF (fun vs H Q E h=>?_) (fun cdv A outer s H vs Q E hr h=>?_)
 ·obtain ⟨p,m,B,rfl,_⟩:=h
  rfl
 ·obtain ⟨p,m,B,rfl,⟨a,b,c,hp,ha,hb0,hb1,hc0,hc1⟩,hB0,hm0,hm1,hn1,hn2,q⟩:=h
  refine ⟨_,(aD (cT (aU Gb (bI cQ (ao cX) aq (fun _ _=>rfl)) aq (aO _)) (aD (bQ mO pF.nd (aG iI (bI cQ (ao cX) aq (fun _ _=>rfl)) (ao mQ)) rfl (.inl rfl))
   (aD (jN (aG Aq (bI cQ (ao cX) aq (fun _ _=>rfl)) (ao mQ)) (yC (ao cX) aq Fw) rfl rfl rfl)
   (aJ (aR (ao mO))))) bZ)
   (aD (jN (aG aZ (bI cQ (ao cX) aq (fun _ _=>rfl)) aq) (yC (ao cX) aq Fw) rfl rfl rfl)
   (aD (bQ Aw pF.nd (bI cQ (cZ (ak aq (ak aq (ak aq (ak aq (ak aq (ak aq (ak aq au rfl) rfl) rfl) rfl) rfl) rfl) rfl)) (aG iI (bI cQ (ao cX) aq (fun _ _=>rfl)) aq) (fun _ _=>rfl)) rfl (.inl rfl))
   (aD (bQ uO pF.nd (aG iI (aG fP (aG aZ (bI cQ (ao cX) aq (fun _ _=>rfl)) (aG fP aq (bI cQ (ao cX) aq (fun _ _=>rfl)))) (aG aZ aq (bI cQ (ao cX) aq (fun _ _=>rfl)))) (ao Aw)) rfl (.inl rfl))
   (aD (jN (aG iI (aG aZ (aG fP (ao uO) (aG aZ (aG iI (ao uO) aq) aq)) (bI cQ (ao cX) aq (fun _ _=>rfl))) aq) (yC (ao cX) aq Fw) rfl rfl rfl)
   (aD (bQ mO pF.nd (aG Aq (aG iI (aG fP (bI cQ (ao cX) aq (fun _ _=>rfl)) (aG aZ (aG iI (bI cQ (ao cX) aq (fun _ _=>rfl)) aq) aq)) aq) aq) rfl (.inl rfl))
   (aJ (aR (pN (aU j4 (ao mQ) (aG Mi aq aq) (aO _)) (aG iI (ao mO) (ao mQ)) (aG iI (aG aZ (aG fP (ao mO) aq) (bD CZTake (hr.mono ω) yZ bY (ak (ao cX) (ak aq au rfl) rfl) rfl rfl)) (ao mQ))))))))))),?_⟩
  push_cast [hp]
  split
  ·refine ⟨hm0,⟨hm0,hm1⟩,?_⟩
   refine q _ _ (Int.emod_nonneg _ ω) (Int.emod_lt_of_pos _ hm0) cN.upd ⟨_,_,_,aB,Int.ediv_nonneg ha ω,hb0,hb1,hc0,ω⟩
  ·refine ⟨aP δ,fun p1 hp1=>?_⟩
   have np:p≠p1:=fun z=>by rw[<- z,aB] at hp1; cases hp1
   obtain ⟨v,hv,v0⟩:=Wg (c + 1)
   push_cast [hp,aH np,ne_eq,np,not_false_eq_true,hv]
   have m1:∀ x:Int,0<=x % 40009/\x % 40009 < 40009:=fun x=>⟨Int.emod_nonneg _ δ,Int.emod_lt_of_pos _ δ⟩
   have m2:∀ x:Int,0<=x % 1009/\x % 1009 < 1009:=fun x=>⟨Int.emod_nonneg _ δ,Int.emod_lt_of_pos _ δ⟩
   have m3:∀ x:Int,0<=x % 2147483629/\x % 2147483629 < 2147483629:=fun x=>⟨Int.emod_nonneg _ δ,Int.emod_lt_of_pos _ δ⟩
   refine ⟨δ,.inl δ,.inr ω,v0,δ,.inr ?_,δ,δ,.inr ?_,δ,δ,δ,?_⟩
   ·have:=m1 ((b + 39373 * (c + 1)) * (48271 + (c + 1)) % v)
    omega
   ·have:=m2 (((b + 39373 * (c + 1)) * (48271 + (c + 1)) % v * ((b + 39373 * (c + 1)) * (48271 + (c + 1)) % v % 40009 + 7) + (c + 1)) % 2147483629)
    omega
   ·have e3:=m3 ((b + 39373 * (c + 1)) * (48271 + (c + 1)) % v * ((b + 39373 * (c + 1)) * (48271 + (c + 1)) % v % 40009 + 7) + (c + 1))
    generalize ((b + 39373 * (c + 1)) * (48271 + (c + 1)) % v * ((b + 39373 * (c + 1)) * (48271 + (c + 1)) % v % 40009 + 7) + (c + 1)) % 2147483629=y at e3 |-
    have sx:cN p H (upd (upd (upd H p (HO.lst [V.int a,V.int b,V.int (c + 1)])) p1 (HO.lst [V.int 2147483587,V.int 2147483579,V.int 2147483563,V.int 2147483549,V.int 2147483543,V.int 2147483497,V.int 2147483489])) p (HO.lst [V.int a,V.int y,V.int (c + 1)])):=
     (cN.upd.trans (aA hp1).x).trans cN.upd
    have tp:bA (upd (upd (upd H p (HO.lst [V.int a,V.int b,V.int (c + 1)])) p1 (HO.lst [V.int 2147483587,V.int 2147483579,V.int 2147483563,V.int 2147483549,V.int 2147483543,V.int 2147483497,V.int 2147483489])) p (HO.lst [V.int a,V.int y,V.int (c + 1)])) p (B + 1):=
     ⟨a,y,c + 1,aB,ha,e3.1,e3.2,ω,ω⟩
    generalize upd (upd (upd H p (HO.lst [V.int a,V.int b,V.int (c + 1)])) p1 (HO.lst [V.int 2147483587,V.int 2147483579,V.int 2147483563,V.int 2147483549,V.int 2147483543,V.int 2147483497,V.int 2147483489])) p (HO.lst [V.int a,V.int y,V.int (c + 1)])=H2 at sx tp |-
    split
    ·refine ⟨hm0,q _ _ (Int.emod_nonneg _ ω) (Int.emod_lt_of_pos _ hm0) sx ?_⟩
     obtain ⟨a',b',c',z1,z2,z3,z4,z5,z6⟩:=tp
     exact ⟨a',b',c',z1,z2,z3,z4,z5,ω⟩
    ·rename_i hm
     have hm':1000000<=m:=by
      rw[show (10:Int) ^ Int.toNat 6=1000000 from by decide] at hm
      omega
     have hn3:=hn2 hm'
     refine ⟨.inr δ,p,99991,B + 1,rfl,tp,ω,δ,δ,ω,fun z=>absurd z δ,fun r H3 r0 r1 s3 t3=>?_⟩
     push_cast
     refine ⟨hm0,q _ _ (Int.emod_nonneg _ ω) (Int.emod_lt_of_pos _ hm0) (sx.trans s3) ?_⟩
     obtain ⟨a',b',c',z1,z2,z3,z4,z5,z6⟩:=t3
     exact ⟨a',b',c',z1,z2,z3,z4,z5,ω⟩
theorem G5:dO P w K mg base CX0 0 f fd ["_law_tape_here", "_law_many"] (fG 0):=by
 have no:∀ vs H Q E,¬ fG 0 vs H Q E:=fun vs H Q E h=>by
  obtain ⟨p,m,B,_,_,_,_,_,h1,_⟩:=h
  omega
 exact ⟨fun vs H Q E h=>absurd h (no vs H Q E),fun A outer s H args us vs Q E _ _ _ _ h=>absurd h (no vs H Q E)⟩
abbrev zL:List Str:=["_law_found", "_law_due"]
abbrev dW:Stmt:=top 27
theorem Qz:bJ zL ["_law_found", "_law_due"] (aj dW):=⟨rfl,rfl,rfl,ψ,rfl,ψ,ψ⟩
theorem eO:NM_ zL dW 0 "_law_found" := .of ψ
theorem dR:NM_ zL dW 1 "_law_due" := .of ψ
theorem Eh:GI_ dW "all" := by decide +kernel
theorem mZ:GI_ dW "bool" := by decide +kernel
theorem Eg:GI_ dW "int" := by decide +kernel
theorem aW:GI_ dW "isinstance" := by decide +kernel
theorem vp:GI_ dW "len" := by decide +kernel
theorem mY:GI_ dW "list" := by decide +kernel
theorem oN:GI_ dW "str" := by decide +kernel
theorem lJ:GI_ dW "tuple" := by decide +kernel
theorem Ef:GI_ dW "zip" := by decide +kernel
theorem GD:Bn "_law_same" := ⟨ψ,ψ⟩
theorem tX {n:Nat}(hB:∀ x:Str,x∈BLs->mg x=none) (CZSame:Cal P w K mg base "_law_same" n ["_law_found", "_law_due"] (pA n)) (F:Fun K "_law_same" "_law_same" dW f fd):dO P w K mg base CX0 (n + 1) f fd ["_law_found", "_law_due"] (pA (n + 1)):=by
 refine F.okq Qz (fun vs H Q E h=>?_) (fun cdv A outer s H vs Q E hr h=>?_)
 ·obtain ⟨x,y,ok,d,rfl,_⟩:=h
  rfl
 ·obtain ⟨x,y,ok,d,rfl,tx,ty,hd,q⟩:=h
  refine ⟨_,(aD (cT (kZ (cG Js aW (hB "isinstance" bM) boot_isinstance bN (ak (ao dR) (ak (d8 (ak (jZ "list" mY (hB "list" qx) boot_list tZ) (ak (jZ "tuple" lJ (hB "tuple" uZ) boot_tuple vK) au rfl) rfl)) au rfl) rfl) rfl rfl) (fun _=>rfl)) (aD (cT (v9 (uF (aU (lq hr.bF) (cG dG aW (hB "isinstance" bM) boot_isinstance bN (ak (ao eO) (ak (jZ "list" mY (hB "list" qx) boot_list tZ) au rfl) rfl) rfl rfl) (cG dG aW (hB "isinstance" bM) boot_isinstance bN (ak (ao dR) (ak (jZ "list" mY (hB "list" qx) boot_list tZ) au rfl) rfl) rfl rfl) (aO _)) (qZ (aU (lq hr.bF) (cG dG aW (hB "isinstance" bM) boot_isinstance bN (ak (ao eO) (ak (jZ "tuple" lJ (hB "tuple" uZ) boot_tuple vK) au rfl) rfl) rfl rfl) (cG dG aW (hB "isinstance" bM) boot_isinstance bN (ak (ao dR) (ak (jZ "tuple" lJ (hB "tuple" uZ) boot_tuple vK) au rfl) rfl) rfl rfl) (aO _))))) (aJ (aR uH)) bZ)
   (aD (cT (aU (lq hr.bF) (cG eV vp (hB "len" jQ) PySem.boot_len jT (ak (ao eO) au rfl) rfl rfl) (cG eV vp (hB "len" jQ) PySem.boot_len jT (ak (ao dR) au rfl) rfl rfl) (aO _)) (aJ (aR uH)) bZ)
   (aJ (aR (cG (Jw rfl) Eh (hB "all" W8) PyProof.Rows.Boot.«all» XJ (ak (jb (NX:=zL) (kX:=(aj dW).names) ["_law_one", "_law_other"] [none,none] rfl rfl ⟨rfl,ψ,ψ,ψ,ψ⟩ rfl (Rc Ef (hB "zip" W4) (ak (ao eO) (ak (ao dR) au rfl) rfl) rfl rfl) (fun _ _ _ _ _=>(gW (n:=2) rfl (aY (eZ 0 (show List.Nodup (["_law_one", "_law_other"]:List Str) from by decide +kernel) rfl (Or.inl rfl)) (aY (eZ 1 (show List.Nodup (["_law_one", "_law_other"]:List Str) from by decide +kernel) rfl (Or.inl rfl)) eY rfl) rfl) rfl rfl)) (fun _ _ _ _ _=>rm) (fun _ _ _ _ _=>(bD CZSame (hr.mono ω) rfl GD (ak (cM 0) (ak (cM 1) au rfl) rfl) rfl rfl))) au rfl) rfl rfl))))) bZ)
   (aD (cT (v9 (uF (aU Ww (ao dR) V2 (aO _)) (qZ (kZ (cG dG aW (hB "isinstance" bM) boot_isinstance bN (ak (ao dR) (ak (jZ "str" oN (hB "str" DP) boot_str Et) au rfl) rfl) rfl rfl) (fun _=>rfl))))) (aJ (aR (uI (iH (bV hr.bF) (ao eO) (ao dR) (aO _)) (yD (iH (bV hr.bF) (cG dG aW (hB "isinstance" bM) boot_isinstance bN (ak (ao eO) (ak (jZ "str" oN (hB "str" DP) boot_str Et) au rfl) rfl) rfl rfl) (cG dG aW (hB "isinstance" bM) boot_isinstance bN (ak (ao dR) (ak (jZ "str" oN (hB "str" DP) boot_str Et) au rfl) rfl) rfl rfl) (aO _)))))) bZ)
   (aD (cT (kZ (cG dG aW (hB "isinstance" bM) boot_isinstance bN (ak (ao dR) (ak (jZ "bool" mZ (hB "bool" yS) boot_bool zu) au rfl) rfl) rfl rfl) (fun _=>rfl)) (aJ (aR (uI (cG dG aW (hB "isinstance" bM) boot_isinstance bN (ak (ao eO) (ak (jZ "bool" mZ (hB "bool" yS) boot_bool zu) au rfl) rfl) rfl rfl) (yD (iH (bV hr.bF) (ao eO) (ao dR) (aO _)))))) bZ)
   (aJ (aR (uI (cG dG aW (hB "isinstance" bM) boot_isinstance bN (ak (ao eO) (ak (jZ "int" Eg (hB "int" yR) boot_int zp) au rfl) rfl) rfl rfl) (uI (V1 (cG dG aW (hB "isinstance" bM) boot_isinstance bN (ak (ao eO) (ak (jZ "bool" mZ (hB "bool" yS) boot_bool zu) au rfl) rfl) rfl rfl)) (yD (iH (bV hr.bF) (ao eO) (ao dR) (aO _)))))))))),?_⟩
  cases tx with
  | non=>
   cases ty
   refine aM fun k hk=>?_
   push_cast
   refine ⟨aP δ,fun t ht=>?_⟩
   subst hk
   refine aM fun k hk=>?_
   push_cast
   exact q _ (aA ht)
  | bl b=>
   cases ty
   refine aM fun k hk=>?_
   push_cast
   refine ⟨aP δ,fun t ht=>?_⟩
   subst hk
   refine aM fun k hk=>?_
   push_cast
   subst hk
   refine aM fun k hk=>?_
   push_cast
   exact q _ (aA ht)
  | int i=>
   cases ty
   refine aM fun k hk=>?_
   push_cast
   refine ⟨aP δ,fun t ht=>?_⟩
   subst hk
   refine aM fun k hk=>?_
   push_cast
   subst hk
   refine aM fun k hk=>?_
   push_cast
   subst hk
   push_cast
   exact q _ (aA ht)
  | str x=>
   cases ty
   refine aM fun k hk=>?_
   push_cast
   refine ⟨aP δ,fun t ht=>?_⟩
   subst hk
   refine aM fun k hk=>?_
   push_cast
   exact q _ (aA ht)
  | lst o1 e1 z1 ts1=>
   rename_i p1 xs1 ds
   cases ty with
   | lst o2 e2 z2 ts2=>
    rename_i p2 xs2
    have l1:=ts1.length
    have l2:=ts2.length
    refine aM fun k hk=>?_
    push_cast [e1,e2]
    refine ⟨aP δ,fun t ht=>?_⟩
    have s1:=aA (o:=HO.tup [V.ty "list",V.ty "tuple"]) ht
    have e1:=s1 _ _ e1
    have e2:=s1 _ _ e2
    generalize upd H t (HO.tup [V.ty "list",V.ty "tuple"])=H1 at s1 e1 e2 |-
    push_cast [e1,e2]
    rw[decide_eq_true (show (xs1.length:Int)=(xs2.length:Int) by omega),Bool.not_true,if_neg δ]
    refine iU fun R hR=>?_
    push_cast [e1,e2]
    obtain ⟨Pc,hPc⟩:∃ Pv:Nat->List V->L2.St->Hp->Prop,Pv=fun (i:Nat) acc τ H'=>∃ (o0 o1:Option V),Same H1 H'/\acc=(List.replicate i true).map V.bl/\τ=[o0,o1]:=⟨_,rfl⟩
    refine Ul hR (xs:=xs1) (ys:=xs2) (aP z1) ω Pc (by rw[hPc]; exact ⟨_,_,Same.refl _,rfl,rfl⟩) ?_ ?_ ?_ ?_
    ·intro i acc τ H2 pc
     rw[hPc] at pc
     obtain ⟨_,_,_,rfl,_⟩:=pc
     simp
    ·intro i acc τ H2 pc
     rw[hPc] at pc
     obtain ⟨_,_,s2,_,_⟩:=pc
     exact ⟨s2 _ _ e1,s2 _ _ e2⟩
    ·intro i x y acc τ H2 r hx hy pc hr2
     rw[hPc] at pc
     obtain ⟨o0,o1,s2,rfl,rfl⟩:=pc
     obtain ⟨dx,hdx,tx⟩:=ts1.get hx
     obtain ⟨dy,hdy,ty⟩:=ts2.get hy
     rw[hdx] at hdy
     cases hdy
     have s3:=aA (o:=HO.tup [x,y]) hr2
     have s13:=(s1.trans s2).trans s3
     push_cast
     refine ⟨x,y,ok,dx,rfl,tx.same s13,ty.same s13,by have:=(xK (List.mem_of_getElem? hdx)).1; omega,fun H4 s4=>?_⟩
     rw[hPc]
     refine ⟨_,_,(s2.trans s3).trans s4,?_,rfl⟩
     rw[List.replicate_succ',List.map_append]
     rfl
    ·intro acc τ H2 d2 pc hd2
     rw[hPc] at pc
     obtain ⟨o0,o1,s2,rfl,rfl⟩:=pc
     have s3:=s1.trans (s2.trans (aA (o:=HO.lst ((List.replicate xs1.length true).map V.bl)) hd2))
     have e3:upd H2 d2 (HO.lst ((List.replicate xs1.length true).map V.bl)) d2=_:=aB
     generalize upd H2 d2 (HO.lst ((List.replicate xs1.length true).map V.bl))=H3 at s3 e3 |-
     push_cast [e3]
     refine ⟨_,rfl,?_⟩
     rw[show (List.replicate xs1.length true).all id=true by simp]
     exact q _ s3
  | tup o1 e1 z1 ts1=>
   rename_i p1 xs1 ds
   cases ty with
   | tup o2 e2 z2 ts2=>
    rename_i p2 xs2
    have l1:=ts1.length
    have l2:=ts2.length
    refine aM fun k hk=>?_
    push_cast [e1,e2]
    refine ⟨aP δ,fun t ht=>?_⟩
    have s1:=aA (o:=HO.tup [V.ty "list",V.ty "tuple"]) ht
    have e1:=s1 _ _ e1
    have e2:=s1 _ _ e2
    generalize upd H t (HO.tup [V.ty "list",V.ty "tuple"])=H1 at s1 e1 e2 |-
    push_cast [e1,e2]
    rw[decide_eq_true (show (xs1.length:Int)=(xs2.length:Int) by omega),Bool.not_true,if_neg δ]
    refine iU fun R hR=>?_
    push_cast [e1,e2]
    obtain ⟨Pc,hPc⟩:∃ Pv:Nat->List V->L2.St->Hp->Prop,Pv=fun (i:Nat) acc τ H'=>∃ (o0 o1:Option V),Same H1 H'/\acc=(List.replicate i true).map V.bl/\τ=[o0,o1]:=⟨_,rfl⟩
    refine Uk hR (xs:=xs1) (ys:=xs2) (aP z1) ω Pc (by rw[hPc]; exact ⟨_,_,Same.refl _,rfl,rfl⟩) ?_ ?_ ?_ ?_
    ·intro i acc τ H2 pc
     rw[hPc] at pc
     obtain ⟨_,_,_,rfl,_⟩:=pc
     simp
    ·intro i acc τ H2 pc
     rw[hPc] at pc
     obtain ⟨_,_,s2,_,_⟩:=pc
     exact ⟨s2 _ _ e1,s2 _ _ e2⟩
    ·intro i x y acc τ H2 r hx hy pc hr2
     rw[hPc] at pc
     obtain ⟨o0,o1,s2,rfl,rfl⟩:=pc
     obtain ⟨dx,hdx,tx⟩:=ts1.get hx
     obtain ⟨dy,hdy,ty⟩:=ts2.get hy
     rw[hdx] at hdy
     cases hdy
     have s3:=aA (o:=HO.tup [x,y]) hr2
     have s13:=(s1.trans s2).trans s3
     push_cast
     refine ⟨x,y,ok,dx,rfl,tx.same s13,ty.same s13,by have:=(xK (List.mem_of_getElem? hdx)).2; omega,fun H4 s4=>?_⟩
     rw[hPc]
     refine ⟨_,_,(s2.trans s3).trans s4,?_,rfl⟩
     rw[List.replicate_succ',List.map_append]
     rfl
    ·intro acc τ H2 d2 pc hd2
     rw[hPc] at pc
     obtain ⟨o0,o1,s2,rfl,rfl⟩:=pc
     have s3:=s1.trans (s2.trans (aA (o:=HO.lst ((List.replicate xs1.length true).map V.bl)) hd2))
     have e3:upd H2 d2 (HO.lst ((List.replicate xs1.length true).map V.bl)) d2=_:=aB
     generalize upd H2 d2 (HO.lst ((List.replicate xs1.length true).map V.bl))=H3 at s3 e3 |-
     push_cast [e3]
     refine ⟨_,rfl,?_⟩
     rw[show (List.replicate xs1.length true).all id=true by simp]
     exact q _ s3
theorem same_none:dO P w K mg base CX0 0 f fd ["_law_found", "_law_due"] (pA 0):=by
 have no:∀ vs H Q E,¬ pA 0 vs H Q E:=fun vs H Q E h=>by
  obtain ⟨x,y,ok,d,_,_,_,h1,_⟩:=h
  omega
 exact ⟨fun vs H Q E h=>absurd h (no vs H Q E),fun A outer s H args us vs Q E _ _ _ _ h=>absurd h (no vs H Q E)⟩
abbrev vR:List Str:=["width", "sign"]
abbrev iz:Stmt:=top 1
theorem Ho:bJ vR ["width", "sign"] (aj iz):=⟨rfl,rfl,rfl,ψ,rfl,ψ,ψ⟩
theorem Dy:NM_ vR iz 0 "width" := .of ψ
theorem Dw:NM_ vR iz 1 "sign" := .of ψ
theorem JD:Bn "least_of" := ⟨ψ,ψ⟩
abbrev zO:List Str:=["width", "sign"]
abbrev jB:Stmt:=top 2
theorem KR:bJ zO ["width", "sign"] (aj jB):=⟨rfl,rfl,rfl,ψ,rfl,ψ,ψ⟩
theorem wV:NM_ zO jB 0 "width" := .of ψ
theorem Il:NM_ zO jB 1 "sign" := .of ψ
theorem BW:Bn "most_of" := ⟨ψ,ψ⟩
abbrev nU:List Str:=["pattern", "width", "sign"]
abbrev dU:Stmt:=top 3
theorem Df:bJ nU ["pattern", "width", "sign"] (aj dU):=⟨rfl,rfl,rfl,ψ,rfl,ψ,ψ⟩
theorem mW:NM_ nU dU 0 "pattern" := .of ψ
theorem sJ:NM_ nU dU 1 "width" := .of ψ
theorem Bg:NM_ nU dU 2 "sign" := .of ψ
theorem rM:GI_ dU "most_of" := by decide +kernel
theorem Ey:Bn "number_of" := ⟨ψ,ψ⟩
theorem Ml (F:Fun K "most_of" "most_of" jB f fd):dO P w K mg base CX0 1 f fd ["width", "sign"] yg:=by
 refine F.okq KR (fun vs H Q E h=>?_) (fun cdv A outer s H vs Q E hr h=>?_)
 ·obtain ⟨w,s,rfl,_⟩:=h
  rfl
 ·obtain ⟨w,s,rfl,h1,h2,hs,q⟩:=h
  refine ⟨_,(aD (cT (aU (bV hr.bF) (ao Il) aq (aO _)) (aJ (aR (aG eE (aG dF aq (ao wV)) aq))) bZ)
   (aJ (aR (aG eE (aG dF aq (aG eE (ao wV) aq)) aq)))),?_⟩
  have e:=kh h1
  unfold wl at q
  push_cast [Int.one_mul]
  rcases hs with rfl | rfl
  ·rw[if_pos rfl]
   rw[Int.mul_zero,Int.sub_zero,Int.zero_add] at q
   exact ⟨⟨ω,ω,δ⟩,q⟩
  ·rw[if_neg δ]
   refine ⟨⟨ω,ω,δ⟩,?_⟩
   rw[show (0:Int) - 2 ^ (w - 1).toNat * 1 + 2 ^ w.toNat - 1=2 ^ (w - 1).toNat - 1 by omega] at q
   exact q
theorem Mj (hB:∀ x:Str,x∈BLs->mg x=none) (CMostOf:Cal P w K mg base "most_of" 1 ["width", "sign"] yg) (F:Fun K "number_of" "number_of" dU f fd):dO P w K mg base CX0 2 f fd ["pattern", "width", "sign"] Fq:=by
 refine F.okq Df (fun vs H Q E h=>?_) (fun cdv A outer s H vs Q E hr h=>?_)
 ·obtain ⟨w,s,p,rfl,_⟩:=h
  rfl
 ·obtain ⟨w,s,p,rfl,h1,h2,hs,hp,q⟩:=h
  refine ⟨_,(aD (cT (aU Gb (ao mW) (bD CMostOf (hr.mono δ) rM BW (ak (ao sJ) (ak (ao Bg) au rfl) rfl) rfl rfl) (aO _)) (aJ (aR (aG eE (ao mW) (aG dF aq (ao sJ))))) bZ)
   (aJ (aR (ao mW)))),?_⟩
  rw[WT h1 hs hp] at q
  push_cast [Int.one_mul]
  refine ⟨w,s,rfl,h1,h2,hs,?_⟩
  push_cast [Int.one_mul]
  by_cases c:wl w s + 2 ^ w.toNat - 1 < (p:Int)
  ·rw[if_pos c] at q
   rw[if_pos (by simpa using c)]
   exact ⟨⟨ω,ω,δ⟩,q⟩
  ·rw[if_neg c] at q
   rw[if_neg (by simpa using c)]
   exact q
abbrev qQ:List Str:=["spans", "told", "low", "high"]
abbrev fM:Stmt:=top 5
theorem pH:bJ qQ ["spans"] (aj fM):=⟨rfl,rfl,rfl,ψ,rfl,ψ,ψ⟩
theorem Im:NM_ qQ fM 0 "spans" := .of ψ
theorem gn:NM_ qQ fM 1 "told" := .of ψ
theorem rE:NM_ qQ fM 2 "low" := .of ψ
theorem rD:NM_ qQ fM 3 "high" := .of ψ
theorem Bs:GI_ fM "max" := by decide +kernel
theorem vA:GI_ fM "sorted" := by decide +kernel
theorem BZ:Bn "joined" := ⟨ψ,ψ⟩
theorem Ib (hB:∀ x:Str,x∈BLs->mg x=none) (F:Fun K "joined" "joined" fM f fd):dO P w K mg base CX0 1 f fd ["spans"] tQ:=by
 refine F.okq pH (fun vs H Q E h=>?_) (fun cdv A outer s H vs Q E hr h=>?_)
 ·obtain ⟨l,us,ss,rfl,_⟩:=h
  rfl
 ·obtain ⟨l,us,ss,rfl,el,t,hd,hl,q⟩:=h
  refine ⟨_,(aD (bQ gn pH.nd (cZ au) rfl (.inl rfl))
   (aD (fH PassesOwn.never rfl (fO (cG Er vA (hB "sorted" wZ) PyProof.Rows.boot_sorted JB (ak (ao Im) au rfl) rfl rfl)) (gW (n:=2) rfl (aY (cg rE pH.nd (.inl rfl)) (aY (cg rD pH.nd (.inl rfl)) eY rfl) rfl) rfl rfl)
   (aJ (cT (v9 (uG (VP (ao gn)) (tR (aU Ga (ao rE) (aG aZ (bI cQ (bI cQ (ao gn) (pK kO aq) (fun _ _=>rfl)) aq (fun _ _=>rfl)) aq) (aO _))))) (aJ (jN (d8 (ak (bI cQ (bI cQ (ao gn) (pK kO aq) (fun _ _=>rfl)) aq (fun _ _=>rfl)) (ak (cG (xP rfl) Bs (hB "max" M6) boot_max O4 (ak (ao rD) (ak (bI cQ (bI cQ (ao gn) (pK kO aq) (fun _ _=>rfl)) aq (fun _ _=>rfl)) au rfl) rfl) rfl rfl) au rfl) rfl)) (Rf (ao gn) (pK kO aq) Fw) rfl rfl rfl)) (aJ (jC (lg (ao gn) (d8 (ak (ao rE) (ak (ao rD) au rfl) rfl)) rfl rfl rfl rfl rfl) rfl)))) (fun _=>rfl))
   (aJ (aR (ao gn))))),?_⟩
  refine aM fun k hk=>?_
  push_cast
  refine ⟨aP δ,fun r hr0=>?_⟩
  have s0:=aA (o:=HO.lst []) hr0
  have e0:upd H r (HO.lst []) r=_:=aB
  generalize upd H r (HO.lst [])=H0 at s0 e0 |-
  subst hk
  refine aM fun k hk=>?_
  refine iY fun R hR=>?_
  push_cast
  obtain ⟨ps,rfl⟩:=t.refs
  obtain ⟨e1,e2⟩:=t.read (dec:=wg H) Rx
  have hpl:ps.length=ss.length:=by have:=t.length; rwa [List.length_map] at this
  refine ⟨l,ps,fun p=>(wg H p).1,fun p=>(wg H p).2,rfl,s0 _ _ el,ω,fun p m=>⟨s0 _ _ (e2 p m),(hd _ (by rw[e1]; exact List.mem_map_of_mem m)).2⟩,fun d qs hd0 hp ho=>?_⟩
  have s1:Same H (upd H0 d (.lst (qs.map V.ref))):=s0.trans (aA hd0)
  have ed:upd H0 d (.lst (qs.map V.ref)) d=_:=aB
  have er:upd H0 d (.lst (qs.map V.ref)) r=some (.lst []):=by rw[aH (aF e0 hd0)]; exact e0
  have ndr:d≠r:=(aF e0 hd0).symm
  generalize upd H0 d (.lst (qs.map V.ref))=H1 at s1 ed er |-
  have tz:bT prE H (qs.map V.ref) (qs.map (wg H)):=.of_map fun p m=>e2 p (hp.mem_iff.mp m)
  have pz:(qs.map (wg H)).Perm ss:=by rw[e1]; exact hp.map _
  have hn:∀ s,s∈qs.map (wg H)->s.1<=s.2:=fun s m=>(hd s (pz.mem_iff.mp m)).1
  have hu:(qs.map (wg H)).Pairwise fun a b=>a.1<=b.1:=by
   refine List.pairwise_map.mpr (ho.imp fun {a b} z=>?_)
   rcases z with z | z
   ·exact Int.le_of_lt z
   ·exact Int.le_of_eq z.1
  generalize hzs:qs.map (wg H)=zs at tz pz hn hu
  push_cast [ed]
  obtain ⟨Pv,hPv⟩:∃ Pv:Nat->L2.St->Hp->Prop,Pv=fun (i:Nat) σ H'=>∃ (told:List (Int×Int)) (us':List V) (o2 o3:Option V),Same H H'/\H' d=some (.lst (qs.map V.ref))/\H' r=some (.lst us')/\bT prE H' us' told/\JW zs told i/\σ=[some (.ref l),some (.ref r),o2,o3]:=⟨_,rfl⟩
  have zl:zs.length=(qs.map V.ref).length:=tz.length.symm
  have zll:=pz.length_eq
  refine Bu hR Pv (by rw[hPv]; exact ⟨[],[],_,_,s1,ed,er,.nil,.start _,rfl⟩) (fun i σ H' _ pv=>by rw[hPv] at pv; obtain ⟨_,_,_,_,_,e,_⟩:=pv; exact SqL.of e) ?_ ?_
  ·intro i x σ H2 hx pv
   rw[hPv] at pv
   obtain ⟨told,us',o2,o3,s2,ed2,er2,t2,ji,rfl⟩:=pv
   obtain ⟨p,z,rfl,hz,ep⟩:=(tz.same s2).got hx
   replace ep:H2 p=some (.tup [.int z.1,.int z.2]):=ep
   have li:i < zs.length:=(List.getElem?_eq_some_iff.mp hz).1
   have lt:=ji.ln
   have le:=t2.length
   rcases List.eq_nil_or_concat told with e0 | ⟨pre,t0,e0⟩
   ·subst e0
    cases t2
    push_cast [ep,er2]
    refine ⟨aP δ,fun q hq=>?_⟩
    have er3:upd H2 q (.tup [.int z.1,.int z.2]) r=some (.lst []):=by rw[aH (aF er2 hq)]; exact er2
    push_cast [er3]
    refine ⟨δ,?_⟩
    rw[hPv]
    exact ⟨[z],_,_,_,uE s2 hr0 hq,CN ed2 ndr hq,aB,bT.push .nil z er2 hq,ji.fresh hz hn hu (fun t q=>by cases q),rfl⟩
   ·rw[List.concat_eq_append] at e0
    subst e0
    obtain ⟨vs,pt,rfl,tv,ept⟩:=t2.split
    replace ept:H2 pt=some (.tup [.int t0.1,.int t0.2]):=ept
    have la:=Uz vs (V.ref pt)
    push_cast [ep,er2,la,ept,SM]
    have mx:(if t0.2 > z.2 then t0.2 else z.2)=max z.2 t0.2:=by split <;> omega
    rw[mx]
    by_cases c:z.1<=t0.2 + 1
    ·rw[if_pos c]
     refine ⟨aP δ,fun q hq=>?_⟩
     have er3:upd H2 q (.tup [.int t0.1,.int (max z.2 t0.2)]) r=some (.lst (vs ++ [.ref pt])):=by rw[aH (aF er2 hq)]; exact er2
     push_cast [er3]
     refine ⟨_,Tf vs _,?_⟩
     rw[Ky,hPv]
     exact ⟨pre ++ [(t0.1,max z.2 t0.2)],_,_,_,uE s2 hr0 hq,CN ed2 ndr hq,aB,bT.swap tv (t0.1,max z.2 t0.2) er2 hq,ji.grown hz hn hu c,rfl⟩
    ·rw[if_neg c]
     refine ⟨aP δ,fun q hq=>?_⟩
     have er3:upd H2 q (.tup [.int z.1,.int z.2]) r=some (.lst (vs ++ [.ref pt])):=by rw[aH (aF er2 hq)]; exact er2
     push_cast [er3]
     refine ⟨Nat.lt_of_lt_of_le (show (vs ++ [V.ref pt]).length < 1000000 by omega) (aP (Nat.le_refl 1000000)),?_⟩
     rw[hPv]
     exact ⟨(pre ++ [t0]) ++ [z],_,_,_,uE s2 hr0 hq,CN ed2 ndr hq,aB,bT.push t2 z er2 hq,ji.fresh hz hn hu (fun t q=>by rw[List.getLast?_append] at q; cases q; exact c),rfl⟩
  ·intro σ H2 pv
   rw[hPv] at pv
   obtain ⟨told,us',o2,o3,s2,ed2,er2,t2,ji,rfl⟩:=pv
   subst hk
   push_cast
   refine q r H2 us' told s2 hr0 er2 t2 ji.gap (fun n=>?_) ?_
   ·rw[ji.cv,<- zl,List.take_length]
    exact OD pz
   ·have:=ji.ln; omega
abbrev cD:List Str:=["width", "sign", "mask", "value", "block", "starts", "place", "bit", "lows"]
abbrev bh:Stmt:=top 6
theorem d7:bJ cD ["width", "sign", "mask", "value"] (aj bh):=⟨rfl,rfl,rfl,ψ,rfl,ψ,ψ⟩
theorem lG:NM_ cD bh 0 "width" := .of ψ
theorem qw:NM_ cD bh 1 "sign" := .of ψ
theorem gJ:NM_ cD bh 2 "mask" := .of ψ
theorem lF:NM_ cD bh 3 "value" := .of ψ
theorem qu:NM_ cD bh 4 "block" := .of ψ
theorem gH:NM_ cD bh 5 "starts" := .of ψ
theorem qt:NM_ cD bh 6 "place" := .of ψ
theorem qm:NM_ cD bh 7 "bit" := .of ψ
theorem ql:NM_ cD bh 8 "lows" := .of ψ
theorem oR:GI_ bh "least_of" := by decide +kernel
theorem qL:GI_ bh "most_of" := by decide +kernel
theorem rO:GI_ bh "range" := by decide +kernel
theorem Cg:Bn "bits_spans" := ⟨ψ,ψ⟩
abbrev lU:List Str:=["width", "sign", "item"]
abbrev dm:Stmt:=top 7
theorem Ab:bJ lU ["width", "sign", "item"] (aj dm):=⟨rfl,rfl,rfl,ψ,rfl,ψ,ψ⟩
theorem yM:NM_ lU dm 0 "width" := .of ψ
theorem yL:NM_ lU dm 1 "sign" := .of ψ
theorem dg:NM_ lU dm 2 "item" := .of ψ
theorem ni:GI_ dm "bits_spans" := by decide +kernel
theorem Ca:Bn "item_spans" := ⟨ψ,ψ⟩
abbrev g8:List Str:=["width", "sign", "items", "spans", "item"]
abbrev cB:Stmt:=top 8
theorem mJ:bJ g8 ["width", "sign", "items"] (aj cB):=⟨rfl,rfl,rfl,ψ,rfl,ψ,ψ⟩
theorem yQ:NM_ g8 cB 0 "width" := .of ψ
theorem yP:NM_ g8 cB 1 "sign" := .of ψ
theorem yO:NM_ g8 cB 2 "items" := .of ψ
theorem lE:NM_ g8 cB 3 "spans" := .of ψ
theorem qj:NM_ g8 cB 4 "item" := .of ψ
theorem nF:GI_ cB "item_spans" := by decide +kernel
theorem qK:GI_ cB "joined" := by decide +kernel
theorem Ce:Bn "case_spans" := ⟨ψ,ψ⟩
theorem Ia (F:Fun K "least_of" "least_of" iz f fd):dO P w K mg base CX0 1 f fd ["width", "sign"] Aa:=by
 refine F.okq Ho (fun vs H Q E h=>?_) (fun cdv A outer s H vs Q E hr h=>?_)
 ·obtain ⟨w,s,rfl,_⟩:=h
  rfl
 ·obtain ⟨w,s,rfl,h1,h2,hs,q⟩:=h
  refine ⟨_,(aD (cT (aU (bV hr.bF) (ao Dw) aq (aO _)) (aJ (aR aq)) bZ)
   (aJ (aR (pK kO (aG dF aq (aG eE (ao Dy) aq)))))),?_⟩
  unfold wl at q
  push_cast [Int.one_mul]
  rcases hs with rfl | rfl
  ·rw[if_pos rfl]
   rw[Int.mul_zero,Int.sub_zero] at q
   exact q
  ·rw[if_neg δ]
   refine ⟨⟨ω,ω,δ⟩,?_⟩
   rw[Int.mul_one,Int.zero_sub] at q
   exact q
theorem WQ (hB:∀ x:Str,x∈BLs->mg x=none) (CLeastOf:Cal P w K mg base "least_of" 1 ["width", "sign"] Aa) (CMostOf:Cal P w K mg base "most_of" 1 ["width", "sign"] yg) (CNumberOf:Cal P w K mg base "number_of" 2 ["pattern", "width", "sign"] Fq) (F:Fun K "bits_spans" "bits_spans" bh f fd):dO P w K mg base CX0 3 f fd ["width", "sign", "mask", "value"] Vb:=by
 refine F.okq d7 (fun vs H Q E h=>?_) (fun cdv A outer s H vs Q E hr h=>?_)
 ·obtain ⟨w,s,m,v,rfl,_⟩:=h
  rfl
 ·obtain ⟨w,s,m,v,rfl,h1,h2,hs,hok,q⟩:=h
  refine ⟨_,(aD (cT (aU (lq hr.bF) (aG jP (ao lF) (ao gJ)) (ao lF) (aO _)) (aJ (aR (cZ au))) bZ)
   (aD (cT (aU (bV hr.bF) (ao gJ) aq (aO _)) (aJ (aR (cZ (ak (d8 (ak (bD CLeastOf (hr.mono δ) oR JD (ak (ao lG) (ak (ao qw) au rfl) rfl) rfl rfl) (ak (bD CMostOf (hr.mono δ) qL BW (ak (ao lG) (ak (ao qw) au rfl) rfl) rfl rfl) au rfl) rfl)) au rfl)))) bZ)
   (aD (bQ qu d7.nd (aG jP (ao gJ) (pK kO (ao gJ))) rfl (.inl rfl))
   (aD (bQ gH d7.nd (cZ (ak (ao lF) au rfl)) rfl (.inl rfl))
   (aD (fH PassesOwn.never rfl (Hz rO (hB "range" eU) (ak (Rj (ao qu)) (ak (ao lG) au rfl) rfl) rfl rfl) (cg qt d7.nd (.inl rfl))
   (aD (bQ qm d7.nd (aG dF aq (ao qt)) rfl (.inl rfl))
   (aJ (cT (aU (bV hr.bF) (aG jP (ao gJ) (ao qm)) aq (aO _)) (aJ (bQ gH d7.nd (aG aZ (ao gH) (jb (NX:=cD) (kX:=(aj bh).names) ["start", "bit"] [none,some 7] rfl rfl ⟨rfl,ψ,ψ,ψ,ψ⟩ rfl (fO (ao gH)) (fun _ _ _ _ _=>(eZ 0 (show List.Nodup (["start", "bit"]:List Str) from by decide +kernel) rfl (Or.inl rfl))) (fun _ _ _ _ _=>rm) (fun _ _ _ _ _=>(aG aZ (cM 0) (cM 1))))) rfl (.inl rfl))) bZ))) (fun _=>rfl))
   (aD (FQ (NX:=cD) (kX:=(aj bh).names) ["start", "width", "sign"] [none,some 0,some 1] ql d7.nd rfl rfl ⟨rfl,ψ,ψ,ψ,ψ⟩ rfl (fO (ao gH)) (fun _ _ _ _ _=>(eZ 0 (show List.Nodup (["start", "width", "sign"]:List Str) from by decide +kernel) rfl (Or.inl rfl))) (fun _ _ _ _ _=>rm) (fun _ _ _ _ _=>(bD CNumberOf (hr.mono δ) rfl Ey (ak (cM 0) (ak (cM 1) (ak (cM 2) au rfl) rfl) rfl) rfl rfl)))
   (aJ (aR (jb (NX:=cD) (kX:=(aj bh).names) ["low", "block"] [none,some 4] rfl rfl ⟨rfl,ψ,ψ,ψ,ψ⟩ rfl (fO (ao ql)) (fun _ _ _ _ _=>(eZ 0 (show List.Nodup (["low", "block"]:List Str) from by decide +kernel) rfl (Or.inl rfl))) (fun _ _ _ _ _=>rm) (fun _ _ _ _ _=>(d8 (ak (cM 0) (ak (aG eE (aG aZ (cM 0) (cM 1)) aq) au rfl) rfl)))))))))))),?_⟩
  obtain ⟨hm,hv,hf⟩:=hok
  have p40:=gh (k:=w.toNat) ω
  by_cases hvm:v &&& m=v
  case neg=>
   push_cast [fZ,Int.ofNat_inj,decide_eq_false hvm,Bool.not_false]
   exact ⟨Nat.zero_le _,fun p hp=>q p _ [] [] (aA hp) hp aB .nil (Xl hvm)⟩
  refine aM fun k hk=>?_
  push_cast [fZ,hvm,Bool.not_true,decide_true]
  subst hk
  refine aM fun k hk=>?_
  push_cast
  split
  ·rename_i hm0
   have hm1:m=0:=by omega
   subst hm1
   refine ⟨w,s,rfl,h1,h2,hs,w,s,rfl,h1,h2,hs,aP δ,fun p hp=>⟨aP δ,fun p2 hp2=>?_⟩⟩
   exact q p2 _ _ [(wl w s,wl w s + 2 ^ w.toNat - 1)] ((aA hp).trans (aA hp2)) (none_of (aA hp) hp2) aB (.cons (aA hp2 _ _ aB) .nil) (Tz hvm)
  rename_i hm0
  obtain ⟨t,ht,hl⟩:=yU (m:=m) ω
  have tW:t < w.toNat:=by
   rcases Nat.lt_or_ge t w.toNat with c | c
   ·exact c
   ·rw[Nat.testBit_lt_two_pow (Nat.lt_of_lt_of_le hm (Nat.pow_le_pow_right δ c))] at ht
    cases ht
  subst hk
  refine aM fun k hk=>?_
  push_cast [UW ht hl]
  subst hk
  refine aM fun k hk=>?_
  push_cast
  refine ⟨aP δ,fun st hst=>?_⟩
  have s1:=aA (o:=HO.lst [V.int (v:Int)]) hst
  have e1:upd H st (HO.lst [V.int (v:Int)]) st=some (.lst (cI (aV m v t 0))):=aB
  generalize upd H st (HO.lst [V.int (v:Int)])=H1 at s1 e1 |-
  subst hk
  refine aM fun k hk=>?_
  refine iY fun R hR=>?_
  push_cast [NK,Ka,Ut,O8]
  refine ⟨⟨ω,ω,ω,ω⟩,?_⟩
  have en:(w - ((t + 1:Nat):Int)).toNat=w.toNat - (t + 1):=by omega
  rw[en]
  obtain ⟨Pv,hPv⟩:∃ Pv:Nat->L2.St->Hp->Prop,Pv=fun (i:Nat) σ H'=>∃ (st:Addr) (o6 o7:Option V),Same H1 H'/\H' st=some (.lst (cI (aV m v t i)))/\σ=[some (.int w),some (.int s),some (.int m),some (.int v),some (.int (2 ^ t)),some (.ref st),o6,o7,none]:=⟨_,rfl⟩
  refine vD hR Pv (by rw[hPv]; exact ⟨_,_,_,Same.refl _,e1,rfl⟩) ?_ ?_
  ·intro i σ H2 hi pv
   rw[hPv] at pv
   obtain ⟨st2,o6,o7,s2,e2,rfl⟩:=pv
   have hk1:((t + 1:Nat):Int) + (i:Int)=((t + 1 + i:Nat):Int):=by omega
   rw[hk1]
   refine aM fun k2 hk2=>?_
   push_cast [Int.one_mul,Int.toNat_natCast]
   refine ⟨⟨ω,ω,δ⟩,?_⟩
   subst hk2
   have hz:=qU (v:=v) hf ht hl tW (Nat.le_of_lt hi)
   push_cast [Cv]
   cases hb:m.testBit (t + 1 + i) with
   | true=>
    have hne:((2:Int) ^ (t + 1 + i))≠0:=Int.ne_of_gt (two_pow_pos _)
    push_cast [hne]
    rw[hPv]
    exact ⟨st2,_,_,s2,by rw[e2,zX hb],rfl⟩
   | false=>
    push_cast
    refine iU fun R2 hR2=>?_
    push_cast [e2]
    obtain ⟨Pc,hPc⟩:∃ Pv:Nat->List V->L2.St->Hp->Prop,Pv=fun (j:Nat) acc τ H'=>∃ (o1:Option V),H'=H2/\acc=cI (((aV m v t i).take j).map (· + 2 ^ (t + 1 + i)))/\τ=[o1,some (.int (2 ^ (t + 1 + i)))]:=⟨_,rfl⟩
    refine rR hR2 (xs:=cI (aV m v t i)) (aP (by rw[cH]; omega)) Pc (by rw[hPc]; exact ⟨none,rfl,rfl,rfl⟩) ?_ ?_ ?_ ?_
    ·intro j acc τ H3 pc
     rw[hPc] at pc
     obtain ⟨o1,rfl,rfl,rfl⟩:=pc
     rw[cH,List.length_map]
     exact List.length_take_le _ _
    ·intro j acc τ H3 pc
     rw[hPc] at pc
     obtain ⟨o1,rfl,rfl,rfl⟩:=pc
     exact SqL.of e2
    ·intro j x acc τ H3 hx pc
     rw[hPc] at pc
     obtain ⟨o1,rfl,rfl,rfl⟩:=pc
     unfold cI at hx
     rw[List.getElem?_map] at hx
     obtain ⟨x0,hx0,rfl⟩:=Option.map_eq_some_iff.mp hx
     push_cast
     rw[hPc]
     refine ⟨_,rfl,?_,rfl⟩
     rw[List.take_add_one,hx0,List.map_append]
     simp [cI]
    ·intro acc τ H3 d pc hd
     rw[hPc] at pc
     obtain ⟨o1,rfl,rfl,rfl⟩:=pc
     rw[show (cI (aV m v t i)).length=(aV m v t i).length from cH _,List.take_length]
     have s3:=aA (o:=HO.lst (cI ((aV m v t i).map (· + 2 ^ (t + 1 + i))))) hd
     have e3:upd H3 d (HO.lst (cI ((aV m v t i).map (· + 2 ^ (t + 1 + i))))) d=_:=aB
     generalize upd H3 d (HO.lst (cI ((aV m v t i).map (· + 2 ^ (t + 1 + i)))))=H4 at s3 e3 |-
     have e4:=s3 _ _ e2
     push_cast [e3,e4]
     rw[Hf hb]
     refine ⟨?_,fun p5 hp5=>?_⟩
     ·rw[cH,cH,List.length_map]
      exact aP ω
     rw[hPv]
     exact ⟨p5,_,_,s2.trans (s3.trans (aA hp5)),aB,rfl⟩
  ·intro σ H2 pv
   rw[hPv] at pv
   obtain ⟨st2,o6,o7,s2,e2,rfl⟩:=pv
   show k _ _
   subst hk
   have hz:=qU (v:=v) hf ht hl tW (Nat.le_refl _)
   have hx1:∀ {x:Nat},x∈aV m v t (w.toNat - (t + 1))->x < 2 ^ w.toNat:=fun mx=>(kW hvm hm ht hl mx).1
   have isp:=Nu h1 hs ⟨hm,hv,hf⟩ hvm ht hl
   unfold GF at isp
   generalize aV m v t (w.toNat - (t + 1))=xs at e2 hz hx1 isp
   refine aM fun k hk=>?_
   push_cast
   refine iU fun R2 hR2=>?_
   push_cast [e2]
   obtain ⟨Pc,hPc⟩:∃ Pv:Nat->List V->L2.St->Hp->Prop,Pv=fun (j:Nat) acc τ H'=>∃ (o1:Option V),H'=H2/\acc=((xs.take j).map (nOf w.toNat s)).map V.int/\τ=[o1,some (.int w),some (.int s)]:=⟨_,rfl⟩
   refine rR hR2 (xs:=cI xs) (aP (by rw[cH]; omega)) Pc (by rw[hPc]; exact ⟨none,rfl,rfl,rfl⟩) ?_ ?_ ?_ ?_
   ·intro j acc τ H3 pc
    rw[hPc] at pc
    obtain ⟨o1,rfl,rfl,rfl⟩:=pc
    rw[List.length_map,List.length_map]
    exact List.length_take_le _ _
   ·intro j acc τ H3 pc
    rw[hPc] at pc
    obtain ⟨o1,rfl,rfl,rfl⟩:=pc
    exact SqL.of e2
   ·intro j x acc τ H3 hx pc
    rw[hPc] at pc
    obtain ⟨o1,rfl,rfl,rfl⟩:=pc
    unfold cI at hx
    rw[List.getElem?_map] at hx
    obtain ⟨x0,hx0,rfl⟩:=Option.map_eq_some_iff.mp hx
    push_cast
    refine ⟨w,s,x0,rfl,h1,h2,hs,hx1 (List.mem_of_getElem? hx0),?_⟩
    rw[hPc]
    refine ⟨_,rfl,?_,rfl⟩
    rw[List.take_add_one,hx0,List.map_append,List.map_append]
    rfl
   ·intro acc τ H3 d pc hd
    rw[hPc] at pc
    obtain ⟨o1,rfl,rfl,rfl⟩:=pc
    rw[cH,List.take_length]
    have s3:=s2.trans (aA (o:=HO.lst ((xs.map (nOf w.toNat s)).map V.int)) hd)
    have e3:upd H3 d (HO.lst ((xs.map (nOf w.toNat s)).map V.int)) d=_:=aB
    generalize upd H3 d (HO.lst ((xs.map (nOf w.toNat s)).map V.int))=H4 at s3 e3 |-
    subst hk
    push_cast
    refine iU fun R3 hR3=>?_
    push_cast [e3]
    obtain ⟨Pd,hPd⟩:∃ Pv:Nat->List V->L2.St->Hp->Prop,Pv=fun (j:Nat) acc τ H'=>∃ (o1:Option V),Same H4 H'/\bT prE H' acc ((xs.take j).map fun x=>(nOf w.toNat s x,nOf w.toNat s x + 2 ^ t - 1))/\τ=[o1,some (.int (2 ^ t))]:=⟨_,rfl⟩
    refine rR hR3 (xs:=(xs.map (nOf w.toNat s)).map V.int) (aP (by rw[List.length_map,List.length_map]; omega)) Pd (by rw[hPd]; exact ⟨none,Same.refl _,.nil,rfl⟩) ?_ ?_ ?_ ?_
    ·intro j acc τ H5 pc
     rw[hPd] at pc
     obtain ⟨o1,s5,t5,rfl⟩:=pc
     rw[t5.length,List.length_map]
     exact List.length_take_le _ _
    ·intro j acc τ H5 pc
     rw[hPd] at pc
     obtain ⟨o1,s5,t5,rfl⟩:=pc
     exact SqL.of (s5 _ _ e3)
    ·intro j x acc τ H5 hx pc
     rw[hPd] at pc
     obtain ⟨o1,s5,t5,rfl⟩:=pc
     rw[List.getElem?_map] at hx
     obtain ⟨y0,hy0,rfl⟩:=Option.map_eq_some_iff.mp hx
     rw[List.getElem?_map] at hy0
     obtain ⟨x0,hx0,rfl⟩:=Option.map_eq_some_iff.mp hy0
     push_cast
     refine ⟨aP δ,fun p6 hp6=>?_⟩
     rw[hPd]
     refine ⟨_,s5.trans (aA hp6),?_,rfl⟩
     rw[List.take_add_one,hx0,List.map_append]
     exact (t5.same (aA hp6)).snoc (x:=(nOf w.toNat s x0,nOf w.toNat s x0 + 2 ^ t - 1)) aB
    ·intro acc τ H5 d2 pc hd2
     rw[hPd] at pc
     obtain ⟨o1,s5,t5,rfl⟩:=pc
     rw[List.length_map,List.length_map,List.take_length] at t5
     have s6:=(s1.trans s3).trans s5
     exact q d2 _ acc _ (s6.trans (aA hd2)) (none_of s6 hd2) aB (t5.same (aA hd2)) isp
theorem WM (hB:∀ x:Str,x∈BLs->mg x=none) (CBitsSpans:Cal P w K mg base "bits_spans" 3 ["width", "sign", "mask", "value"] Vb) (F:Fun K "item_spans" "item_spans" dm f fd):dO P w K mg base CX0 4 f fd ["width", "sign", "item"] U9:=by
 refine F.okq Ab (fun vs H Q E h=>?_) (fun cdv A outer s H vs Q E hr h=>?_)
 ·obtain ⟨w,s,t,it,rfl,_⟩:=h
  rfl
 ·obtain ⟨w,s,t,it,rfl,h1,h2,hs,⟨hi⟩,hok,q⟩:=h
  refine ⟨_,(aD (cT (aU (bV hr.bF) (bI cQ (ao dg) aq (fun _ _=>rfl)) iG (aO _)) (aJ (aR (cZ (ak (d8 (ak (bI cQ (ao dg) aq (fun _ _=>rfl)) (ak (bI cQ (ao dg) aq (fun _ _=>rfl)) au rfl) rfl)) au rfl)))) bZ)
   (aD (cT (aU (bV hr.bF) (bI cQ (ao dg) aq (fun _ _=>rfl)) iG (aO _)) (aJ (aR (cZ (ak (d8 (ak (bI cQ (ao dg) aq (fun _ _=>rfl)) (ak (bI cQ (ao dg) aq (fun _ _=>rfl)) au rfl) rfl)) au rfl)))) bZ)
   (aJ (aR (bD CBitsSpans (hr.mono δ) ni Cg (ak (ao yM) (ak (ao yL) (ak (bI cQ (ao dg) aq (fun _ _=>rfl)) (ak (bI cQ (ao dg) aq (fun _ _=>rfl)) au rfl) rfl) rfl) rfl) rfl rfl))))),?_⟩
  cases it with
  | one a=>
   push_cast [hi]
   refine ⟨aP δ,fun p hp=>⟨aP δ,fun p2 hp2=>?_⟩⟩
   exact q p2 _ _ [(a,a)] ((aA hp).trans (aA hp2)) (none_of (aA hp) hp2) aB (.cons (aA hp2 _ _ aB) .nil) (Tw hok)
  | rng a b=>
   push_cast [hi]
   refine ⟨aP δ,fun p hp=>⟨aP δ,fun p2 hp2=>?_⟩⟩
   exact q p2 _ _ [(a,b)] ((aA hp).trans (aA hp2)) (none_of (aA hp) hp2) aB (.cons (aA hp2 _ _ aB) .nil) (Tv hok)
  | bits m v=>
   push_cast [hi]
   exact ⟨w,s,m,v,rfl,h1,h2,hs,hok,q⟩
theorem WN (hB:∀ x:Str,x∈BLs->mg x=none) (CItemSpans:Cal P w K mg base "item_spans" 4 ["width", "sign", "item"] U9) (CJoined:Cal P w K mg base "joined" 1 ["spans"] tQ) (F:Fun K "case_spans" "case_spans" cB f fd):dO P w K mg base CX0 5 f fd ["width", "sign", "items"] Va:=by
 refine F.okq mJ (fun vs H Q E h=>?_) (fun cdv A outer s H vs Q E hr h=>?_)
 ·obtain ⟨w,s,x,ok,its,rfl,_⟩:=h
  rfl
 ·obtain ⟨w,s,x,ok,its,rfl,h1,h2,hs,t,hok,hlen,q⟩:=h
  refine ⟨_,(aD (bQ lE mJ.nd (cZ au) rfl (.inl rfl))
   (aD (fH PassesOwn.never rfl (fO (ao yO)) (cg qj mJ.nd (.inl rfl))
   (aJ (jC (Rh (ao lE) (bD CItemSpans (hr.mono δ) nF Ca (ak (ao yQ) (ak (ao yP) (ak (ao qj) au rfl) rfl) rfl) rfl rfl) rfl rfl rfl rfl rfl) rfl)) (fun _=>rfl))
   (aJ (aR (bD CJoined (hr.mono δ) qK BZ (ak (ao lE) au rfl) rfl rfl))))),?_⟩
  obtain ⟨q0,us,rfl,o,e,z,ts⟩:=jW t
  have hul:=ts.length
  rw[List.length_map] at hul
  have wb:=jV h1 h2 hs
  refine aM fun k hk=>?_
  push_cast
  refine ⟨aP δ,fun sp hsp=>?_⟩
  have s0:=aA (o:=HO.lst []) hsp
  have e0:upd H sp (HO.lst []) sp=some (.lst []):=aB
  generalize upd H sp (HO.lst [])=H0 at s0 e0 |-
  subst hk
  refine aM fun k hk=>?_
  refine iY fun R hR=>?_
  have e1:=s0 _ _ e
  push_cast [e1]
  obtain ⟨Pv,hPv⟩:∃ Pv:Nat->L2.St->Hp->Prop,Pv=fun (i:Nat) σ H'=>∃ (vs:List V) (ys:List (Int×Int)) (o4:Option V),Same H H'/\H' sp=some (.lst vs)/\bT prE H' vs ys/\GSp w s (its.take i) ys/\σ=[some (.int w),some (.int s),some (.ref q0),some (.ref sp),o4]:=⟨_,rfl⟩
  refine Bu hR (xs:=us) Pv (by rw[hPv]; exact ⟨[],[],_,s0,e0,.nil,.nil,rfl⟩) (fun i σ H' _ pv=>?_) ?_ ?_
  ·rw[hPv] at pv
   obtain ⟨_,_,_,s',_⟩:=pv
   exact SqL.of (s' _ _ e)
  ·intro i x σ H2 hx pv
   rw[hPv] at pv
   obtain ⟨vs,ys,o4,s2,e2,t2,g2,rfl⟩:=pv
   obtain ⟨d,hd,td⟩:=(ts.same s2).get hx
   rw[List.getElem?_map] at hd
   obtain ⟨it,hit,rfl⟩:=Option.map_eq_some_iff.mp hd
   obtain ⟨q5,rfl,o6,hi⟩:=qT td
   have li:i < its.length:=(List.getElem?_eq_some_iff.mp hit).1
   push_cast [J6,Ue,e2,nT]
   refine ⟨w,s,q5,it,rfl,h1,h2,hs,hi,hok it (List.mem_of_getElem? hit),fun r H3 us3 zs s3 hr3 e3 t3 i3=>?_⟩
   have e23:=s3 _ _ e2
   dsimp only
   rw[Ol,e23,e3,Xv]
   have l2:=t2.length
   have l3:=t3.length
   have l4:=i3.ln
   have l5:=g2.ln
   rw[List.length_take] at l5
   refine ⟨aP ω,?_⟩
   rw[hPv]
   refine ⟨vs ++ us3,ys ++ zs,_,fun a o ha=>?_,aB,((t2.same s3).uh e23).app (t3.uh e23),?_,rfl⟩
   ·rw[aH (fun z=>by rw[z,hsp] at ha; cases ha)]
    exact s3 _ _ (s2 _ _ ha)
   ·rw[List.take_add_one,hit]
    exact g2.snoc i3
  ·intro σ H2 pv
   rw[hPv] at pv
   obtain ⟨vs,ys,o4,s2,e2,t2,g2,rfl⟩:=pv
   show k _ _
   subst hk
   rw[hul,List.take_length] at g2
   push_cast
   have hln:=g2.ln
   refine ⟨sp,vs,ys,rfl,e2,t2,fun y my=>?_,ω,fun r H3 us' zs s3 hr3 e3 t3 g3 c3 l3=>?_⟩
   ·have:=g2.ins y my
    exact ⟨this.2.1,ω,ω⟩
   ·exact q r H3 us' zs (s2.trans s3) (none_of s2 hr3) e3 t3 (g2.case g3 c3 l3)
end
abbrev gZ:List Str:=["spans", "others", "at", "low", "high"]
abbrev cP:Stmt:=top 9
theorem iy:bJ gZ ["spans", "others"] (aj cP):=⟨rfl,rfl,rfl,ψ,rfl,ψ,ψ⟩
theorem yK:NM_ gZ cP 0 "spans" := .of ψ
theorem jd:NM_ gZ cP 1 "others" := .of ψ
theorem fu:NM_ gZ cP 2 "at" := .of ψ
theorem p8:NM_ gZ cP 3 "low" := .of ψ
theorem pZ:NM_ gZ cP 4 "high" := .of ψ
theorem m9:GI_ cP "len" := by decide +kernel
theorem BX:Bn "lie_within" := ⟨ψ,ψ⟩
abbrev dw:List Str:=["choice", "width", "sign", "cases", "taken", "dead", "label", "items", "spans"]
abbrev bH:Stmt:=top 11
theorem cR:bJ dw ["choice"] (aj bH):=⟨rfl,rfl,rfl,ψ,rfl,ψ,ψ⟩
theorem yN:NM_ dw bH 0 "choice" := .of ψ
theorem qi:NM_ dw bH 1 "width" := .of ψ
theorem qg:NM_ dw bH 2 "sign" := .of ψ
theorem qe:NM_ dw bH 3 "cases" := .of ψ
theorem je:NM_ dw bH 4 "taken" := .of ψ
theorem lD:NM_ dw bH 5 "dead" := .of ψ
theorem qd:NM_ dw bH 6 "label" := .of ψ
theorem qb:NM_ dw bH 7 "items" := .of ψ
theorem lA:NM_ dw bH 8 "spans" := .of ψ
theorem nA:GI_ bH "case_spans" := by decide +kernel
theorem nj:GI_ bH "enumerate" := by decide +kernel
theorem qJ:GI_ bH "joined" := by decide +kernel
theorem nu:GI_ bH "lie_within" := by decide +kernel
theorem Cd:Bn "dead_cases" := ⟨ψ,ψ⟩
theorem wI:∀ (css:List (List It1)) (i:Nat),((css.take i).map List.length).sum<=(css.map List.length).sum
 | [],i=>by simp
 | c :: css,0=>by simp
 | c :: css,i + 1=>by
  have:=wI css i
  simp only[List.take_succ_cons,List.map_cons,List.sum_cons]
  omega
section
variable {P:Program}{w:World}{K:PySem.W.Frag}{mg:Str->Option Value}{base:Heap}{f:Addr}{fd:FuncData}{bs:List Str}
theorem WK (hB:∀ x:Str,x∈BLs->mg x=none) (F:Fun K "lie_within" "lie_within" cP f fd):dO P w K mg base CX0 1 f fd ["spans", "others"] zY:=by
 refine F.okq iy (fun vs H Q E h=>?_) (fun cdv A outer s H vs Q E hr h=>?_)
 ·obtain ⟨a,b,us,vs',ss,os,rfl,_⟩:=h
  rfl
 ·obtain ⟨a,b,us,vs',ss,os,rfl,ea,ta,eb,tb,gs,go,q⟩:=h
  refine ⟨_,(aD (bQ fu iy.nd aq rfl (.inl rfl))
   (aD (fH PassesOwn.never rfl (fO (ao yK)) (gW (n:=2) rfl (aY (cg p8 iy.nd (.inl rfl)) (aY (cg pZ iy.nd (.inl rfl)) eY rfl) rfl) rfl rfl)
   (aD (Al PassesOwn.never (v9 (uG (aU j4 (ao fu) (cG eV m9 (hB "len" jQ) PySem.boot_len jT (ak (ao jd) au rfl) rfl rfl) (aO _)) (tR (aU j4 (bI cQ (bI cQ (ao jd) (ao fu) (fun _ _=>rfl)) aq (fun _ _=>rfl)) (ao pZ) (aO _))))) (aJ (V0 fu iy.nd aq Xn)))
   (aJ (cT (v9 (uF (aU (bV hr.bF) (ao fu) (cG eV m9 (hB "len" jQ) PySem.boot_len jT (ak (ao jd) au rfl) rfl rfl) (aO _)) (qZ (aU j4 (ao p8) (bI cQ (bI cQ (ao jd) (ao fu) (fun _ _=>rfl)) aq (fun _ _=>rfl)) (aO _))))) (aJ (aR uH)) bZ))) (fun _=>rfl))
   (aJ (aR uH)))),?_⟩
  refine aM fun k hk=>?_
  push_cast
  subst hk
  refine aM fun k hk=>?_
  refine iY fun R hR=>?_
  push_cast [ea]
  have la:=ta.length
  have lb:=tb.length
  obtain ⟨Pv,hPv⟩:∃ Pv:Nat->L2.St->Hp->Prop,Pv=fun (i:Nat) σ H'=>∃ (j:Nat) (o3 o4:Option V),H'=H/\WI ss os i j/\σ=[some (.ref a),some (.ref b),some (.int (j:Int)),o3,o4]:=⟨_,rfl⟩
  refine Bu hR Pv (by rw[hPv]; exact ⟨0,_,_,rfl,.start _ _,rfl⟩) (fun i σ H' _ pv=>by rw[hPv] at pv; obtain ⟨_,_,_,rfl,_⟩:=pv; exact SqL.of ea) ?_ ?_
  ·intro i x σ H2 hx pv
   rw[hPv] at pv
   obtain ⟨j,o3,o4,rfl,wi,rfl⟩:=pv
   obtain ⟨p,z,rfl,hz,ep⟩:=ta.got hx
   replace ep:H2 p=some (.tup [.int z.1,.int z.2]):=ep
   push_cast [ep]
   obtain ⟨Pw,hPw⟩:∃ Pw:Nat->L2.St->Hp->Prop,Pw=fun (j:Nat) σ H'=>H'=H2/\WI ss os i j/\σ=[some (.ref a),some (.ref b),some (.int (j:Int)),some (.int z.1),some (.int z.2)]:=⟨_,rfl⟩
   refine Qf os.length Pw j (by rw[hPw]; exact ⟨rfl,wi,rfl⟩) ?_
   intro j σ H3 pw
   rw[hPw] at pw
   obtain ⟨rfl,wi,rfl⟩:=pw
   have lj:=wi.le
   push_cast [eb]
   by_cases hj:j < os.length
   ·rw[if_pos (show (j:Int) < (vs'.length:Int) by omega)]
    have ho:os[j]?=some os[j]:=List.getElem?_eq_getElem hj
    obtain ⟨po,hpo,epo⟩:=tb.get ho
    generalize os[j]=o at ho epo
    replace epo:H3 po=some (.tup [.int o.1,.int o.2]):=epo
    have hat:=fD hpo
    push_cast [hat,epo]
    by_cases c:o.2 < z.2
    ·rw[if_pos c]
     refine ⟨fun σ' H'=>Pw (j + 1) σ' H',fun σ' H' h=>⟨_,ω,j + 1,rfl,h⟩,?_⟩
     rw[hPw]
     exact ⟨rfl,wi.skip gs hz ho c,rfl⟩
    ·rw[if_neg c]
     push_cast [eb]
     rw[if_neg (show ¬ (j:Int)=(vs'.length:Int) by omega)]
     push_cast [hat,epo]
     by_cases c2:z.1 < o.1
     ·rw[if_pos c2]
      exact q false ⟨fun h=>(by cases h),fun h=>absurd h (wi.not gs go hz (.inr ⟨o,ho,ω,c2⟩))⟩
     ·rw[if_neg c2,hPv]
      exact ⟨j,_,_,rfl,wi.next hz ho ω ω,rfl⟩
   ·rw[if_neg (show ¬ (j:Int) < (vs'.length:Int) by omega),if_pos (show (j:Int)=(vs'.length:Int) by omega)]
    exact q false ⟨fun h=>(by cases h),fun h=>absurd h (wi.not gs go hz (.inl ω))⟩
  ·intro σ H2 pv
   rw[hPv] at pv
   obtain ⟨j,o3,o4,rfl,wi,rfl⟩:=pv
   subst hk
   push_cast
   refine q true ⟨fun _ n hn=>wi.ins n ?_,fun _=>rfl⟩
   rw[la,List.take_length]
   exact hn
theorem Ss (hB:∀ x:Str,x∈BLs->mg x=none) (CLieWithin:Cal P w K mg base "lie_within" 1 ["spans", "others"] zY) (CCaseSpans:Cal P w K mg base "case_spans" 5 ["width", "sign", "items"] Va) (CJoined:Cal P w K mg base "joined" 1 ["spans"] tQ) (F:Fun K "dead_cases" "dead_cases" bH f fd):dO P w K mg base CX0 6 f fd ["choice"] Ku:=by
 refine F.okq cR (fun vs H Q E h=>?_) (fun cdv A outer s H vs Q E hr h=>?_)
 ·obtain ⟨x,w,s,ok,css,rfl,_⟩:=h
  rfl
 ·obtain ⟨x,w,s,ok,css,rfl,h1,h2,hs,t,hok,hsum,q⟩:=h
  refine ⟨_,(aD (jN (ao yN) (gW (n:=3) rfl (aY (cg qi cR.nd (.inl rfl)) (aY (cg qg cR.nd (.inl rfl)) (aY (cg qe cR.nd (.inl rfl)) eY rfl) rfl) rfl) rfl rfl) rfl rfl rfl)
   (aD (bQ je cR.nd (cZ au) rfl (.inl rfl))
   (aD (bQ lD cR.nd (cZ au) rfl (.inl rfl))
   (aD (fH PassesOwn.never rfl (tU nj (hB "enumerate" jf) (ak (ao qe) au rfl) rfl) (gW (n:=2) rfl (aY (cg qd cR.nd (.inl rfl)) (aY (cg qb cR.nd (.inl rfl)) eY rfl) rfl) rfl rfl)
   (aD (bQ lA cR.nd (bD CCaseSpans (hr.mono δ) nA Ce (ak (ao qi) (ak (ao qg) (ak (ao qb) au rfl) rfl) rfl) rfl rfl) rfl (.inl rfl))
   (aD (cT (kZ (bD CLieWithin (hr.mono δ) nu BX (ak (ao lA) (ak (ao je) au rfl) rfl) rfl rfl) (fun _=>rfl)) (aJ (jC (lg (ao lD) (ao qd) rfl rfl rfl rfl rfl) rfl)) bZ)
   (aJ (bQ je cR.nd (bD CJoined (hr.mono δ) qJ BZ (ak (aG aZ (ao je) (ao lA)) au rfl) rfl rfl) rfl (.inl rfl))))) (fun _=>rfl))
   (aJ (aR (ao lD))))))),?_⟩
  obtain ⟨p,c,xs,rfl,op,ep,oc,ec,z,ts⟩:=iu t
  have hlen:=ts.length
  rw[List.length_map] at hlen
  have wb:=jV h1 h2 hs
  refine aM fun k hk=>?_
  push_cast [ep]
  subst hk
  refine aM fun k hk=>?_
  push_cast
  refine ⟨aP δ,fun tk htk=>?_⟩
  have s0:=aA (o:=HO.lst []) htk
  have e0:upd H tk (HO.lst []) tk=some (.lst []):=aB
  generalize upd H tk (HO.lst [])=H0 at s0 e0 |-
  subst hk
  refine aM fun k hk=>?_
  push_cast
  refine ⟨aP δ,fun dd hdd=>?_⟩
  have s1:=s0.trans (aA (o:=HO.lst []) hdd)
  have e1:upd H0 dd (HO.lst []) dd=some (.lst []):=aB
  have et1:=aA (o:=HO.lst []) hdd _ _ e0
  have hdH:=none_of s0 hdd
  generalize upd H0 dd (HO.lst [])=H1 at s1 e1 et1 |-
  subst hk
  refine aM fun k hk=>?_
  refine iY fun R hR=>?_
  have ec1:=s1 _ _ ec
  push_cast [xH,ec1]
  refine ⟨⟨_,SqL.of ec1⟩,?_⟩
  obtain ⟨Pv,hPv⟩:∃ Pv:Nat->L2.St->Hp->Prop,Pv=fun (i:Nat) σ H'=>∃ (tk:Addr) (us:List V) (ys:List (Int×Int)) (o6 o7 o8:Option V),Same H H'/\H' tk=some (.lst us)/\bT prE H' us ys/\TSp w s (css.take i) ys/\H' dd=some (.lst (cI (deadL w s css i)))/\tk≠dd /\
   σ=[some (.ref p),some (.int w),some (.int s),some (.ref c),some (.ref tk),some (.ref dd),o6,o7,o8]:=⟨_,rfl⟩
  refine Oe hR (xs:=xs) Pv (by rw[hPv]; exact ⟨tk,[],[],_,_,_,s1,et1,.nil,.nil,e1,aF e0 hdd,rfl⟩) (fun i σ H' pv=>?_) ?_ ?_
  ·rw[hPv] at pv
   obtain ⟨_,_,_,_,_,_,s',_⟩:=pv
   exact s' _ _ ec
  ·intro i x σ H2 p2 hx pv hp2
   rw[hPv] at pv
   obtain ⟨tk,us,ys,o6,o7,o8,s2,et2,ty2,tsp,ed2,ntd,rfl⟩:=pv
   obtain ⟨d,hd,td⟩:=(ts.same s2).get hx
   rw[List.getElem?_map] at hd
   obtain ⟨its,hits,rfl⟩:=Option.map_eq_some_iff.mp hd
   have hmem:=List.mem_of_getElem? hits
   have hle:its.length<=110:=Nat.le_trans (u6 hmem) hsum
   have hix:i < xs.length:=(List.getElem?_eq_some_iff.mp hx).1
   have s3:=aA (o:=HO.tup [V.int (i:Int),x]) hp2
   have e3:upd H2 p2 (HO.tup [V.int (i:Int),x]) p2=_:=aB
   have td3:=td.same s3
   have s23:=s2.trans s3
   have et3:=s3 _ _ et2
   have ty3:=ty2.same s3
   have ed3:=s3 _ _ ed2
   generalize upd H2 p2 (HO.tup [V.int (i:Int),x])=H3 at e3 td3 s23 et3 ty3 ed3 |-
   push_cast [e3]
   refine ⟨w,s,x,ok,its,rfl,h1,h2,hs,td3,hok its hmem,ω,fun r H4 us4 zs s4 hr4 e4 t4 c4=>?_⟩
   have et4:=s4 _ _ et3
   have ty4:=ty3.same s4
   have ed4:=s4 _ _ ed3
   push_cast
   have l2:=ty2.length
   have l4:=t4.length
   have l5:=tsp.ln
   have l6:=c4.ln
   have l7:((css.take i).map List.length).sum<=110:=Nat.le_trans (wI css i) hsum
   have fin:∀ H5,Same H H5->H5 tk=some (.lst us)->H5 r=some (.lst us4)->bT prE H5 us ys->bT prE H5 us4 zs->H5 dd=some (.lst (cI (deadL w s css (i + 1)))) ->
     adq (H5 tk) (H5 r) H5 fun x_3 H1=>tQ [x_3] H1 (fun x_4 H1=>Pv (i + 1) [some (V.ref p),some (V.int w),some (V.int s),some (V.ref c),some x_4,some (V.ref dd),some (V.int (i:Int)),some x,some (V.ref r)] H1) E0:=by
    intro H5 s5 et5 er5 ty5 tz5 ed5
    rw[et5,er5,zF]
    refine ⟨aP ω,fun p6 hp6=>?_⟩
    have s6:=aA (o:=HO.lst (us ++ us4)) hp6
    refine ⟨p6,us ++ us4,ys ++ zs,rfl,aB,(ty5.same s6).app (tz5.same s6),fun y my=>?_,by rw[List.length_append]; omega,fun r7 H7 us7 ws s7 hr7 e7 t7 g7 c7 m7=>?_⟩
    ·have:wl w s<=y.1/\y.1<=y.2/\y.2 < wl w s + 2 ^ w.toNat:=by
      rcases List.mem_append.mp my with m | m
      ·exact tsp.ins y m
      ·exact c4.ins y m
     exact ⟨this.2.1,ω,ω⟩
    ·rw[hPv]
     have ed6:=s6 _ _ ed5
     refine ⟨r7,us7,ws,_,_,_,s5.trans (s6.trans s7),e7,t7,?_,s7 _ _ ed6,(aF ed6 hr7).symm,rfl⟩
     rw[List.take_add_one,hits]
     exact tsp.more c4 g7 c7 m7
   refine ⟨r,tk,us4,us,zs,ys,rfl,e4,t4,et4,ty4,c4.gap,tsp.gap,fun tt htt=>?_⟩
   have hdead:=Ow hits tsp c4 htt
   have hst:=vH (w:=w) (s:=s) (css:=css) (i:=i)
   rw[<- hdead] at hst
   refine ⟨_,rfl,?_⟩
   cases tt with
   | true=>
    rw[if_pos rfl] at hst
    have ld:=rP (w:=w) (s:=s) (css:=css) (i:=i)
    push_cast [ed4,nT]
    refine ⟨Nat.lt_of_lt_of_le (show (cI (deadL w s css i)).length < 1000000 by rw[cH]; omega) (aP (Nat.le_refl 1000000)),?_⟩
    have nrd:r≠dd:=(aF ed3 hr4).symm
    refine fin _ (fun a o ha=>?_) (by rw[aH ntd]; exact et4) (by rw[aH nrd]; exact e4) (ty4.uh ed4) (t4.uh ed4) ?_
    ·rw[aH (fun z=>by rw[z,hdH] at ha; cases ha)]
     exact (s23.trans s4) _ _ ha
    ·rw[aB,hst]
     simp [cI]
   | false=>
    rw[if_neg δ,List.append_nil] at hst
    push_cast
    exact fin H4 (s23.trans s4) et4 e4 ty4 t4 (by rw[hst]; exact ed4)
  ·intro σ H2 pv
   rw[hPv] at pv
   obtain ⟨tk,us,ys,o6,o7,o8,s2,et2,ty2,tsp,ed2,ntd,rfl⟩:=pv
   show k _ _
   subst hk
   push_cast
   rw[hlen] at ed2
   exact q dd H2 s2 hdH ed2
abbrev t8:List Str:=["_law_width", "_law_item_here", "_law_number_here"]
abbrev iZ:Stmt:=top 18
theorem KN:bJ t8 ["_law_width", "_law_item_here", "_law_number_here"] (aj iZ):=⟨rfl,rfl,rfl,ψ,rfl,ψ,ψ⟩
theorem Ie:NM_ t8 iZ 0 "_law_width" := .of ψ
theorem gY:NM_ t8 iZ 1 "_law_item_here" := .of ψ
theorem rA:NM_ t8 iZ 2 "_law_number_here" := .of ψ
theorem O6:Bn "_law_picks" := ⟨ψ,ψ⟩
abbrev jK:List Str:=["_law_choice", "_law_number_here", "_law_width", "_law_sign", "_law_cases", "_law_k", "_law_items"]
abbrev dz:Stmt:=top 19
theorem jX:bJ jK ["_law_choice", "_law_number_here"] (aj dz):=⟨rfl,rfl,rfl,ψ,rfl,ψ,ψ⟩
theorem Ik:NM_ jK dz 0 "_law_choice" := .of ψ
theorem Ij:NM_ jK dz 2 "_law_width" := .of ψ
theorem Ii:NM_ jK dz 3 "_law_sign" := .of ψ
theorem rB:NM_ jK dz 4 "_law_cases" := .of ψ
theorem wU:NM_ jK dz 5 "_law_k" := .of ψ
theorem wR:NM_ jK dz 6 "_law_items" := .of ψ
theorem Bq:GI_ dz "any" := by decide +kernel
theorem qC:GI_ dz "enumerate" := by decide +kernel
theorem Bp:GI_ dz "len" := by decide +kernel
theorem O7:Bn "_law_label" := ⟨ψ,ψ⟩
theorem HY (hB:∀ x:Str,x∈BLs->mg x=none) (F:Fun K "_law_picks" "_law_picks" iZ f fd):dO P w K mg base CX0 1 f fd ["_law_width", "_law_item_here", "_law_number_here"] Fp:=by
 refine F.okq KN (fun vs H Q E h=>?_) (fun cdv A outer s H vs Q E hr h=>?_)
 ·obtain ⟨w,n,t,it,rfl,_⟩:=h
  rfl
 ·obtain ⟨w,n,t,it,rfl,h1,h2,⟨hi⟩,q⟩:=h
  refine ⟨_,(aD (cT (aU (bV hr.bF) (bI cQ (ao gY) aq (fun _ _=>rfl)) iG (aO _)) (aJ (aR (iH (bV hr.bF) (ao rA) (bI cQ (ao gY) aq (fun _ _=>rfl)) (aO _)))) bZ)
   (aD (cT (aU (bV hr.bF) (bI cQ (ao gY) aq (fun _ _=>rfl)) iG (aO _)) (aJ (aR (Lp Ga Ga (bI cQ (ao gY) aq (fun _ _=>rfl)) (ao rA) (bI cQ (ao gY) aq (fun _ _=>rfl))))) bZ)
   (aJ (aR (iH (bV hr.bF) (aG jP (aG iI (ao rA) (aG dF aq (ao Ie))) (bI cQ (ao gY) aq (fun _ _=>rfl))) (bI cQ (ao gY) aq (fun _ _=>rfl)) (aO _)))))),?_⟩
  cases it with
  | one a=>
   push_cast [hi]
   exact q
  | rng a b=>
   push_cast [hi]
   rw[show aQ w n (.rng a b)=(decide (a<=n) && decide (n<=b)) from rfl] at q
   split
   ·rename_i c
    rw[decide_eq_true c,Bool.true_and] at q
    exact q
   ·rename_i c
    rw[decide_eq_false c,Bool.false_and] at q
    exact q
  | bits m v=>
   push_cast [hi,Int.one_mul]
   refine ⟨⟨ω,ω,δ⟩,two_pow_pos _,?_⟩
   rw[Ds]
   exact q
theorem Mq (hB:∀ x:Str,x∈BLs->mg x=none) (CZPicks:Cal P w K mg base "_law_picks" 1 ["_law_width", "_law_item_here", "_law_number_here"] Fp) (F:Fun K "_law_label" "_law_label" dz f fd):dO P w K mg base CX0 3 f fd ["_law_choice", "_law_number_here"] zZ:=by
 refine F.okq jX (fun vs H Q E h=>?_) (fun cdv A outer s H vs Q E hr h=>?_)
 ·obtain ⟨x,n,w,s,ok,css,rfl,_⟩:=h
  rfl
 ·obtain ⟨x,n,w,s,ok,css,rfl,h1,h2,t,q⟩:=h
  refine ⟨_,(aD (jN (ao Ik) (gW (n:=3) rfl (aY (cg Ij jX.nd (.inl rfl)) (aY (cg Ii jX.nd (.inl rfl)) (aY (cg rB jX.nd (.inl rfl)) eY rfl) rfl) rfl) rfl rfl) rfl rfl rfl)
   (aD (fH PassesOwn.never rfl (tU qC (hB "enumerate" jf) (ak (ao rB) au rfl) rfl) (gW (n:=2) rfl (aY (cg wU jX.nd (.inl rfl)) (aY (cg wR jX.nd (.inl rfl)) eY rfl) rfl) rfl rfl)
   (aJ (cT (kZ (cG (Jv rfl) Bq (hB "any" W7) PyProof.Rows.Boot.«any» XH (ak (jb (NX:=jK) (kX:=(aj dz).names) ["_law_item_here", "_law_width", "_law_number_here"] [none,some 2,some 1] rfl rfl ⟨rfl,ψ,ψ,ψ,ψ⟩ rfl (fO (ao wR)) (fun _ _ _ _ _=>(eZ 0 (show List.Nodup (["_law_item_here", "_law_width", "_law_number_here"]:List Str) from by decide +kernel) rfl (Or.inl rfl))) (fun _ _ _ _ _=>rm) (fun _ _ _ _ _=>(bD CZPicks (hr.mono δ) rfl O6 (ak (cM 1) (ak (cM 0) (ak (cM 2) au rfl) rfl) rfl) rfl rfl))) au rfl) rfl rfl) (fun _=>rfl)) (aJ (aR (ao wU))) bZ)) (fun _=>rfl))
   (aJ (aR (cG eV Bp (hB "len" jQ) PySem.boot_len jT (ak (ao rB) au rfl) rfl rfl))))),?_⟩
  obtain ⟨p,c,xs,rfl,op,ep,oc,ec,z,ts⟩:=iu t
  have hlen:=ts.length
  rw[List.length_map] at hlen
  refine aM fun k hk=>?_
  push_cast [ep]
  subst hk
  refine aM fun k hk=>?_
  refine iY fun R hR=>?_
  push_cast [xH,ec]
  refine ⟨⟨_,SqL.of ec⟩,?_⟩
  obtain ⟨Pv,hPv⟩:∃ Pv:Nat->L2.St->Hp->Prop,Pv=fun (i:Nat) σ H'=>∃ (o5 o6:Option V),Same H H'/\(∀ (j:Nat) (cs:List It1),j < i->css[j]?=some cs->cs.any (aQ w n)=false)/\σ=[some (.ref p),some (.int n),some (.int w),some (.int s),some (.ref c),o5,o6]:=⟨_,rfl⟩
  refine Oe hR (xs:=xs) Pv (by rw[hPv]; exact ⟨_,_,Same.refl _,fun j cs hj=>absurd hj ω,rfl⟩) (fun i σ H' pv=>?_) ?_ ?_
  ·rw[hPv] at pv
   obtain ⟨_,_,s',_⟩:=pv
   exact s' _ _ ec
  ·intro i x σ H2 p2 hx pv hp
   rw[hPv] at pv
   obtain ⟨o5,o6,s2,hb,rfl⟩:=pv
   obtain ⟨d,hd,td⟩:=(ts.same s2).get hx
   rw[List.getElem?_map] at hd
   obtain ⟨its,hits,rfl⟩:=Option.map_eq_some_iff.mp hd
   have s3:=aA (o:=HO.tup [V.int (i:Int),x]) hp
   have e3:upd H2 p2 (HO.tup [V.int (i:Int),x]) p2=_:=aB
   have s23:=s2.trans s3
   have td3:=td.same s3
   generalize upd H2 p2 (HO.tup [V.int (i:Int),x])=H3 at s3 e3 s23 td3 |-
   obtain ⟨q0,us,rfl,o3,eq,z3,ts3⟩:=jW td3
   push_cast [e3]
   refine iU fun R2 hR2=>?_
   push_cast [eq]
   refine zj (pickD w n) (fun τ=>∃ o1,τ=[o1,some (.int w),some (.int n)]) hR2 ts3 eq z3 ⟨none,rfl⟩ ?_ ?_
   ·rintro x1 d1 τ H4 Qn hd s4 t4 ⟨o1,rfl⟩ qn
    push_cast
    obtain ⟨it,_,rfl⟩:=List.mem_map.mp hd
    obtain ⟨p,rfl,_,hp⟩:=qT t4
    exact ⟨w,n,p,it,rfl,h1,h2,hp,by rw[<- Ao]; exact qn _ _ ⟨_,rfl⟩ (Same.refl _)⟩
   ·intro H4 l s4 hl
    have s5:=s23.trans (s4.trans (aA (o:=HO.lst (((its.map itD).map (pickD w n)).map V.bl)) hl))
    have e5:upd H4 l (HO.lst (((its.map itD).map (pickD w n)).map V.bl)) l=_:=aB
    generalize upd H4 l (HO.lst (((its.map itD).map (pickD w n)).map V.bl))=H5 at s5 e5 |-
    push_cast [e5]
    refine ⟨_,rfl,?_⟩
    rw[Py]
    cases hany:its.any (aQ w n) with
    | true=>
     push_cast
     have:=vd hits hb hany
     rw[<- this]
     exact q _ s5
    | false=>
     push_cast
     rw[hPv]
     refine ⟨_,_,s5,fun j cs hj hc=>?_,rfl⟩
     rcases Nat.lt_or_ge j i with h | h
     ·exact hb j cs h hc
     ·have:j=i:=by omega
      subst this
      rw[hits] at hc
      cases hc
      exact hany
  ·intro σ H2 pv
   rw[hPv] at pv
   obtain ⟨o5,o6,s2,hb,rfl⟩:=pv
   have ec2:=s2 _ _ ec
   show k _ _
   subst hk
   push_cast [ec2]
   have:=xg (w:=w) (n:=n) (css:=css) fun j cs hc=>hb j cs (by have:=(List.getElem?_eq_some_iff.mp hc).1; omega) hc
   rw[hlen,<- this]
   exact q _ s2
abbrev zN:List Str:=["_law_tape_here", "_law_great", "_law_width"]
abbrev jM:Stmt:=top 16
theorem yp:bJ zN ["_law_tape_here"] (aj jM):=⟨rfl,rfl,rfl,ψ,rfl,ψ,ψ⟩
theorem pX:NM_ zN jM 0 "_law_tape_here" := .of ψ
theorem Ba:NM_ zN jM 1 "_law_great" := .of ψ
theorem Az:NM_ zN jM 2 "_law_width" := .of ψ
theorem jg:GI_ jM "_law_take" := by decide +kernel
theorem Uq:Bn "_law_kind" := ⟨ψ,ψ⟩
abbrev zM:List Str:=["_law_width", "_law_sign"]
abbrev jA:Stmt:=top 17
theorem KQ:bJ zM ["_law_width", "_law_sign"] (aj jA):=⟨rfl,rfl,rfl,ψ,rfl,ψ,ψ⟩
theorem Ih:NM_ zM jA 0 "_law_width" := .of ψ
theorem Ig:NM_ zM jA 1 "_law_sign" := .of ψ
theorem vL:Bn "_law_least" := ⟨ψ,ψ⟩
abbrev gP:List Str:=["_law_tape_here", "_law_width", "_law_sign", "_law_other", "_law_least_here", "_law_many", "_law_way", "_law_far"]
abbrev cF:Stmt:=top 20
theorem qX:bJ gP ["_law_tape_here", "_law_width", "_law_sign", "_law_other"] (aj cF):=⟨rfl,rfl,rfl,ψ,rfl,ψ,ψ⟩
theorem oH:NM_ gP cF 0 "_law_tape_here" := .of ψ
theorem uQ:NM_ gP cF 1 "_law_width" := .of ψ
theorem Dv:NM_ gP cF 2 "_law_sign" := .of ψ
theorem uP:NM_ gP cF 3 "_law_other" := .of ψ
theorem jo:NM_ gP cF 4 "_law_least_here" := .of ψ
theorem lz:NM_ gP cF 5 "_law_many" := .of ψ
theorem oG:NM_ gP cF 6 "_law_way" := .of ψ
theorem lu:NM_ gP cF 7 "_law_far" := .of ψ
theorem tG:GI_ cF "_law_least" := by decide +kernel
theorem jt:GI_ cF "_law_take" := by decide +kernel
theorem za:GI_ cF "min" := by decide +kernel
theorem xR:Bn "_law_number" := ⟨ψ,ψ⟩
theorem Sg (hB:∀ x:Str,x∈BLs->mg x=none) (CZTake:Cal P w K mg base "_law_take" 2 ["_law_tape_here", "_law_many"] (fG 2)) (F:Fun K "_law_kind" "_law_kind" jM f fd):dO P w K mg base CX0 3 f fd ["_law_tape_here"] Kq:=by
 refine F.okq yp (fun vs H Q E h=>?_) (fun cdv A outer s H vs Q E hr h=>?_)
 ·obtain ⟨p,B,rfl,_⟩:=h
  rfl
 ·obtain ⟨p,B,rfl,tp,hB0,hB1,q⟩:=h
  refine ⟨_,(aD (bQ Ba yp.nd (iH (bV hr.bF) (bD CZTake (hr.mono δ) jg bY (ak (ao pX) (ak aq au rfl) rfl) rfl rfl) aq (aO _)) rfl (.inl rfl))
   (aD (bQ Az yp.nd (pN (kZ (ao Ba) (fun _=>rfl)) (aG aZ aq (bD CZTake (hr.mono δ) jg bY (ak (ao pX) (ak aq au rfl) rfl) rfl rfl)) (aG aZ aq (bD CZTake (hr.mono δ) jg bY (ak (ao pX) (ak aq au rfl) rfl) rfl rfl))) rfl (.inl rfl))
   (aJ (aR (d8 (ak (ao Az) (ak (bD CZTake (hr.mono δ) jg bY (ak (ao pX) (ak aq au rfl) rfl) rfl rfl) au rfl) rfl)))))),?_⟩
  have fin:∀ (gr:Bool) (w:Int) (H1:Hp),1<=w->w<=40->cN p H H1->bA H1 p (B + 4) ->
    zT (G6 (iW (tV 2) (iW (mG (fG 2) [] E0 (iW (tV 0) (iW (tC (V.int 2)) uq))) uq))) { nx:=fun x H'=>Q V.non H',rt:=Q } [some (.ref p),some (.bl gr),some (.int w)] H1:=by
   intro gr w H1 h1 h2 s1 t1
   push_cast
   refine ⟨p,2,B + 4,rfl,t1,by show B + 4 + 2<=1000100; omega,δ,δ,δ,fun z=>absurd z δ,fun r H2 r0 r1 s2 t2=>?_⟩
   push_cast
   refine ⟨aP δ,fun t ht=>q w r t _ h1 h2 ω ((s1.trans s2).trans (aA ht).x) ((t2.same (aA ht)).le (by show B + 4 + 2<=B + 10; omega)) aB⟩
  refine aM fun k hk=>?_
  push_cast
  refine ⟨p,8,B,rfl,tp,by show B + 2<=1000100; omega,δ,δ,δ,fun z=>absurd z δ,fun r1 H1 r10 r11 s1 t1=>?_⟩
  push_cast
  subst hk
  refine aM fun k hk=>?_
  push_cast
  have u1:bA H1 p (B + 2):=t1
  split
  ·refine ⟨p,33,B + 2,rfl,u1,by show B + 2 + 2<=1000100; omega,δ,δ,δ,fun z=>absurd z δ,fun r2 H2 r20 r21 s2 t2=>?_⟩
   push_cast
   subst hk
   exact fin _ _ _ ω ω (s1.trans s2) (t2.le (by show B + 2 + 2<=B + 4; omega))
  ·refine ⟨p,7,B + 2,rfl,u1,by show B + 2 + 2<=1000100; omega,δ,δ,δ,fun z=>absurd z δ,fun r2 H2 r20 r21 s2 t2=>?_⟩
   push_cast
   subst hk
   exact fin _ _ _ ω ω (s1.trans s2) (t2.le (by show B + 2 + 2<=B + 4; omega))
theorem Mp (F:Fun K "_law_least" "_law_least" jA f fd):dO P w K mg base CX0 1 f fd ["_law_width", "_law_sign"] pC:=by
 refine F.okq KQ (fun vs H Q E h=>?_) (fun cdv A outer s H vs Q E hr h=>?_)
 ·obtain ⟨w,s,rfl,_⟩:=h
  rfl
 ·obtain ⟨w,s,rfl,h1,h2,hs,q⟩:=h
  refine ⟨_,(aJ (aR (aG eE aq (aG fP (aG dF aq (aG eE (ao Ih) aq)) (ao Ig))))),?_⟩
  unfold wl at q
  push_cast
  refine ⟨⟨ω,ω,δ⟩,.inr ω,?_⟩
  rw[Int.one_mul]
  exact q
theorem WD (hB:∀ x:Str,x∈BLs->mg x=none) (CZTake:Cal P w K mg base "_law_take" 2 ["_law_tape_here", "_law_many"] (fG 2)) (CZLeast:Cal P w K mg base "_law_least" 1 ["_law_width", "_law_sign"] pC) (F:Fun K "_law_number" "_law_number" cF f fd):dO P w K mg base CX0 3 f fd ["_law_tape_here", "_law_width", "_law_sign", "_law_other"] U8:=by
 refine F.okq qX (fun vs H Q E h=>?_) (fun cdv A outer s H vs Q E hr h=>?_)
 ·obtain ⟨p,w,s,o,B,rfl,_⟩:=h
  rfl
 ·obtain ⟨p,w,s,o,B,rfl,tp,hB0,hB1,hw1,hw2,hs,q⟩:=h
  refine ⟨_,(aD (Dm (i:=4) (j:=5) rfl qX.nd rfl rfl δ rfl rfl (ak (bD CZLeast (hr.mono δ) tG vL (ak (ao uQ) (ak (ao Dv) au rfl) rfl) rfl rfl) (ak (aG dF aq (ao uQ)) au rfl) rfl) (by rfl))
   (aD (Dm (i:=6) (j:=7) rfl qX.nd rfl rfl δ rfl rfl (ak (bD CZTake (hr.mono δ) jt bY (ak (ao oH) (ak aq au rfl) rfl) rfl rfl) (ak (bD CZTake (hr.mono δ) jt bY (ak (ao oH) (ak (cG (rT rfl) za (hB "min" DQ) boot_min Eu (ak (ao lz) (ak aq au rfl) rfl) rfl rfl) au rfl) rfl) rfl rfl) au rfl) rfl) (by rfl))
   (aD (cT (aU (bV hr.bF) (ao oG) aq (aO _)) (aJ (aR (aG aZ (ao jo) (ao lu)))) bZ)
   (aD (cT (aU (bV hr.bF) (ao oG) aq (aO _)) (aJ (aR (aG eE (aG eE (aG aZ (ao jo) (ao lz)) aq) (ao lu)))) bZ)
   (aD (cT (v9 (uG (aU (bV hr.bF) (ao oG) aq (aO _)) (tR (Lj Ga j4 (ao jo) (aG aZ (ao uP) (ao lu)) (aG aZ (ao jo) (ao lz)))))) (aJ (aR (aG aZ (ao uP) (ao lu)))) bZ)
   (aJ (aR (aG aZ (ao jo) (bD CZTake (hr.mono δ) jt bY (ak (ao oH) (ak (ao lz) au rfl) rfl) rfl rfl))))))))),?_⟩
  have p1:=two_pow_pos w.toNat
  have p2:=gh (k:=w.toNat) ω
  have p3:(2:Int)<=2 ^ w.toNat:=by
   have e:=kh hw1
   have:=two_pow_pos (w - 1).toNat
   omega
  have b1:=jV hw1 hw2 hs
  refine aM fun k hk=>?_
  push_cast
  refine ⟨w,s,rfl,hw1,hw2,hs,?_⟩
  push_cast
  refine ⟨⟨ω,ω,δ⟩,?_⟩
  subst hk
  rw[Int.one_mul]
  refine aM fun k hk=>?_
  push_cast
  refine ⟨p,5,B,rfl,tp,by show B + 2<=1000100; omega,δ,δ,δ,fun z=>absurd z δ,fun r1 H1 r10 r11 s1 t1=>?_⟩
  push_cast
  have m6:(0:Int) < (if (6:Int) < (2:Int) ^ w.toNat then (6:Int) else (2:Int) ^ w.toNat)/\(if (6:Int) < (2:Int) ^ w.toNat then (6:Int) else (2:Int) ^ w.toNat)<=(2:Int) ^ w.toNat:=by
   split <;> omega
  refine ⟨p,(if (6:Int) < (2:Int) ^ w.toNat then (6:Int) else (2:Int) ^ w.toNat),B + 2,rfl,t1,by show B + 2 + 2<=1000100; omega,m6.1,ω,δ,fun _=>by decide,fun r2 H2 r20 r21 s2 t2=>?_⟩
  push_cast
  subst hk
  have s12:=s1.trans s2
  have t12:bA H2 p (B + 10):=t2.le (by show B + 2 + 2<=B + 10; omega)
  have fin:zT (tOp Ak (tV 4) (mG (fG 2) [] E0 (iW (tV 0) (iW (tV 5) uq)))) { nx:=fun x H'=>Q V.non H',rt:=Q } [some (.ref p),some (.int w),some (.int s),some (.int o),some (.int (wl w s)),some (.int (2 ^ w.toNat)),some (.int r1),some (.int r2)] H2:=by
   push_cast
   refine ⟨p,2 ^ w.toNat,B + 2 + 2,rfl,t2,by show B + 2 + 2 + 2<=1000100; omega,p1,ω,δ,fun _=>by decide,fun r3 H3 r30 r31 s3 t3=>?_⟩
   push_cast
   exact q _ _ ω ω (s12.trans s3) (t3.le (by show B + 2 + 2 + 2<=B + 10; omega))
  refine aM fun k hk=>?_
  push_cast
  split
  ·exact q _ _ ω ω s12 t12
  subst hk
  refine aM fun k hk=>?_
  push_cast
  split
  ·exact q _ _ ω ω s12 t12
  subst hk
  refine aM fun k hk=>?_
  push_cast
  split
  ·split
   ·split
    ·exact q _ _ ω ω s12 t12
    ·subst hk
     exact fin
   ·subst hk
    exact fin
  ·subst hk
   exact fin
abbrev oY:List Str:=["_law_tape_here", "_law_width", "_law_way", "_law_top", "_law_mask_here", "_law_turn"]
abbrev gw:Stmt:=top 21
theorem pG:bJ oY ["_law_tape_here", "_law_width"] (aj gw):=⟨rfl,rfl,rfl,ψ,rfl,ψ,ψ⟩
theorem j8:NM_ oY gw 0 "_law_tape_here" := .of ψ
theorem j7:NM_ oY gw 1 "_law_width" := .of ψ
theorem Ay:NM_ oY gw 2 "_law_way" := .of ψ
theorem Ax:NM_ oY gw 3 "_law_top" := .of ψ
theorem mR:NM_ oY gw 4 "_law_mask_here" := .of ψ
theorem Ms:NM_ oY gw 5 "_law_turn" := .of ψ
theorem fC:GI_ gw "_law_take" := by decide +kernel
theorem zb:GI_ gw "range" := by decide +kernel
theorem Uo:Bn "_law_mask" := ⟨ψ,ψ⟩
abbrev jU:List Str:=["_law_tape_here", "_law_width", "_law_sign", "_law_other", "_law_way", "_law_one", "_law_two", "_law_mask_here", "_law_value"]
abbrev dB:Stmt:=top 22
theorem nP:bJ jU ["_law_tape_here", "_law_width", "_law_sign", "_law_other"] (aj dB):=⟨rfl,rfl,rfl,ψ,rfl,ψ,ψ⟩
theorem j9:NM_ jU dB 0 "_law_tape_here" := .of ψ
theorem pY:NM_ jU dB 1 "_law_width" := .of ψ
theorem Bb:NM_ jU dB 2 "_law_sign" := .of ψ
theorem Mt:NM_ jU dB 3 "_law_other" := .of ψ
theorem uV:NM_ jU dB 4 "_law_way" := .of ψ
theorem mU:NM_ jU dB 5 "_law_one" := .of ψ
theorem uU:NM_ jU dB 6 "_law_two" := .of ψ
theorem uT:NM_ jU dB 7 "_law_mask_here" := .of ψ
theorem uR:NM_ jU dB 8 "_law_value" := .of ψ
theorem zc:GI_ dB "_law_mask" := by decide +kernel
theorem m8:GI_ dB "_law_number" := by decide +kernel
theorem lK:GI_ dB "_law_take" := by decide +kernel
theorem Ej:GI_ dB "max" := by decide +kernel
theorem Ei:GI_ dB "min" := by decide +kernel
theorem Ur:Bn "_law_item" := ⟨ψ,ψ⟩
theorem Ge (hB:∀ x:Str,x∈BLs->mg x=none) (CZTake:Cal P w K mg base "_law_take" 2 ["_law_tape_here", "_law_many"] (fG 2)) (F:Fun K "_law_mask" "_law_mask" gw f fd):dO P w K mg base CX0 3 f fd ["_law_tape_here", "_law_width"] Kp:=by
 refine F.okq pG (fun vs H Q E h=>?_) (fun cdv A outer s H vs Q E hr h=>?_)
 ·obtain ⟨p,w,B,rfl,_⟩:=h
  rfl
 ·obtain ⟨p,w,B,rfl,tp,hB0,hB1,hw1,hw2,q⟩:=h
  refine ⟨_,(aD (cT (aU j4 (ao j7) aq (aO _)) (aJ (aR (bD CZTake (hr.mono δ) fC bY (ak (ao j8) (ak (aG dF aq (ao j7)) au rfl) rfl) rfl rfl))) bZ)
   (aD (Dm (i:=2) (j:=3) rfl pG.nd rfl rfl δ rfl rfl (ak (bD CZTake (hr.mono δ) fC bY (ak (ao j8) (ak aq au rfl) rfl) rfl rfl) (ak (aG aZ aq (bD CZTake (hr.mono δ) fC bY (ak (ao j8) (ak aq au rfl) rfl) rfl rfl)) au rfl) rfl) (by rfl))
   (aD (cT (aU (bV hr.bF) (ao Ay) aq (aO _)) (aJ (aR (aG dF (bD CZTake (hr.mono δ) fC bY (ak (ao j8) (ak aq au rfl) rfl) rfl rfl) (aG eE (ao j7) aq)))) bZ)
   (aD (bQ mR pG.nd (pN (aU (bV hr.bF) (ao Ay) aq (aO _)) (aG dF (aG eE (aG dF aq (ao Ax)) aq) (aG eE (ao j7) (ao Ax))) (aG eE (aG dF aq (ao j7)) aq)) rfl (.inl rfl))
   (aD (fH PassesOwn.never rfl (eX zb (hB "range" eU) (ak (bD CZTake (hr.mono δ) fC bY (ak (ao j8) (ak aq au rfl) rfl) rfl rfl) au rfl) rfl) (cg Ms pG.nd (.inl rfl))
   (aJ (bQ mR pG.nd (aG eE (ao mR) (aG jP (ao mR) (aG dF aq (bD CZTake (hr.mono δ) fC bY (ak (ao j8) (ak (ao j7) au rfl) rfl) rfl rfl)))) rfl (.inl rfl))) (fun _=>rfl))
   (aJ (aR (ao mR)))))))),?_⟩
  have p1:=two_pow_pos w.toNat
  have p2:=gh (k:=w.toNat) ω
  refine aM fun k hk=>?_
  push_cast [Int.one_mul]
  split
  ·rename_i c
   refine ⟨⟨ω,ω,δ⟩,p,2 ^ w.toNat,B,rfl,tp,by show B + 2<=1000100; omega,p1,ω,δ,fun _=>by decide,fun r H1 r0 r1 s1 t1=>?_⟩
   obtain ⟨n,rfl⟩:=Int.eq_ofNat_of_zero_le r0
   exact q n H1 (M8 r1) (fun z=>by omega) s1 (t1.le (by show B + 2<=B + 20; omega))
  rename_i c
  subst hk
  refine aM fun k hk=>?_
  push_cast
  refine ⟨p,3,B,rfl,tp,by show B + 2<=1000100; omega,δ,δ,δ,fun z=>absurd z δ,fun r1 H1 r10 r11 s1 t1=>?_⟩
  push_cast
  refine ⟨p,4,B + 2,rfl,t1,by show B + 2 + 2<=1000100; omega,δ,δ,δ,fun z=>absurd z δ,fun r2 H2 r20 r21 s2 t2=>?_⟩
  push_cast
  subst hk
  have s12:=s1.trans s2
  refine aM fun k hk=>?_
  push_cast
  split
  ·refine ⟨p,16,B + 2 + 2,rfl,t2,by show B + 2 + 2 + 2<=1000100; omega,δ,δ,δ,fun z=>absurd z δ,fun r3 H3 r30 r31 s3 t3=>?_⟩
   obtain ⟨n,rfl⟩:=Int.eq_ofNat_of_zero_le r30
   push_cast
   refine ⟨⟨ω,ω,ω⟩,?_⟩
   obtain ⟨m,e,hm⟩:=SQ (W:=w.toNat) (r:=n) ω ω
   rw[show (w - 4).toNat=w.toNat - 4 by omega,e]
   exact q m H3 hm.1 (fun _=>hm.frees) (s12.trans s3) (t3.le (by show B + 2 + 2 + 2<=B + 20; omega))
  subst hk
  have go:∀ (b m:Nat),tL w.toNat b m 0->CT
     (Qp (lZ (iW (mG (fG 2) [] E0 (iW (tV 0) (iW (tC (V.int 4)) uq))) uq)) (ju 5)
      (sW (tOp (rI0 fun i j=>V.int (i - j)) (tV 4)
        (tOp (rI0 fun i j=>V.int (Builtin.bitAnd i j)) (tV 4)
         (tOp (rI U3 fun i j=>V.int (i * 2 ^ j.toNat)) (tC (V.int 1))
          (mG (fG 2) [] E0 (iW (tV 0) (iW (tV 1) uq)))))) (ju 4)))
     (zT (tV 4)) { nx:=fun x H'=>Q V.non H',rt:=Q } [some (V.ref p),some (V.int w),some (V.int r1),some (V.int (5 + r2)),some (V.int m),none] H2:=by
   intro b m hm
   refine aM fun k hk=>?_
   refine iY fun R hR=>?_
   push_cast [lZ]
   refine ⟨p,4,B + 2 + 2,rfl,t2,by show B + 2 + 2 + 2<=1000100; omega,δ,δ,δ,fun z=>absurd z δ,fun r3 H3 r30 r31 s3 t3=>?_⟩
   push_cast
   have u3:bA H3 p (B + 6):=t3.le (by show B + 2 + 2 + 2<=B + 6; omega)
   obtain ⟨Pv,hPv⟩:∃ Pv:Nat->L2.St->Hp->Prop,Pv=fun (i:Nat) σ H'=>∃ (m:Nat) (o5:Option V),cN p H H'/\bA H' p (B + 6 + 2 * (i:Int))/\tL w.toNat b m i/\σ=[some (V.ref p),some (V.int w),some (V.int r1),some (V.int (5 + r2)),some (V.int m),o5]:=⟨_,rfl⟩
   refine ⟨ω,ω,vD hR Pv (by rw[hPv]; exact ⟨m,none,s12.trans s3,by simpa using u3,hm,rfl⟩) ?_ ?_⟩
   ·intro i σ H4 hi pv
    rw[hPv] at pv
    obtain ⟨m4,o5,s4,t4,hm4,rfl⟩:=pv
    push_cast
    refine ⟨p,w,B + 6 + 2 * (i:Int),rfl,t4,by show B + 6 + 2 * (i:Int) + 2<=1000100; omega,ω,ω,δ,fun _=>by decide,fun r5 H5 r50 r51 s5 t5=>?_⟩
    push_cast [Int.one_mul]
    obtain ⟨m5,e5,hm5⟩:=W2 hm4 r5.toNat
    refine ⟨⟨ω,ω,δ⟩,?_⟩
    rw[e5,hPv]
    exact ⟨m5,_,s4.trans s5,t5.le (by show B + 6 + 2 * (i:Int) + 2<=B + 6 + 2 * ((i + 1:Nat):Int); omega),hm5,rfl⟩
   ·intro σ H4 pv
    rw[hPv] at pv
    obtain ⟨m4,o5,s4,t4,hm4,rfl⟩:=pv
    show k _ _
    subst hk
    push_cast
    have hm9:=hm4.le (j:=4) ω
    exact q m4 H4 hm9.1 (fun _=>hm9.frees) s4 (t4.le ω)
  refine aM fun k hk=>?_
  push_cast [Int.one_mul]
  split
  ·refine ⟨⟨ω,ω,δ⟩,⟨ω,ω,?_⟩,?_⟩
   ·have a1:=gh (k:=(5 + r2).toNat) ω
    have a2:=two_pow_pos (5 + r2).toNat
    omega
   obtain ⟨m,e,hm⟩:=W0 (W:=w.toNat) (T:=(5 + r2).toNat) ω
   rw[show (w - (5 + r2)).toNat=w.toNat - (5 + r2).toNat by omega,e]
   subst hk
   exact go _ m hm
  ·refine ⟨⟨ω,ω,δ⟩,?_⟩
   obtain ⟨m,e,hm⟩:=W3 w.toNat
   rw[e]
   subst hk
   exact go _ m hm
theorem Sh (hB:∀ x:Str,x∈BLs->mg x=none) (CZTake:Cal P w K mg base "_law_take" 2 ["_law_tape_here", "_law_many"] (fG 2)) (CZNumber:Cal P w K mg base "_law_number" 3 ["_law_tape_here", "_law_width", "_law_sign", "_law_other"] U8) (CZMask:Cal P w K mg base "_law_mask" 3 ["_law_tape_here", "_law_width"] Kp) (F:Fun K "_law_item" "_law_item" dB f fd):dO P w K mg base CX0 4 f fd ["_law_tape_here", "_law_width", "_law_sign", "_law_other"] Kr:=by
 refine F.okq nP (fun vs H Q E h=>?_) (fun cdv A outer s H vs Q E hr h=>?_)
 ·obtain ⟨p,w,s,o,B,rfl,_⟩:=h
  rfl
 ·obtain ⟨p,w,s,o,B,rfl,tp,hB0,hB1,hw1,hw2,hs,q⟩:=h
  refine ⟨_,(aD (bQ uV nP.nd (bD CZTake (hr.mono δ) lK bY (ak (ao j9) (ak aq au rfl) rfl) rfl rfl) rfl (.inl rfl))
   (aD (bQ mU nP.nd (bD CZNumber (hr.mono δ) m8 xR (ak (ao j9) (ak (ao pY) (ak (ao Bb) (ak (ao Mt) au rfl) rfl) rfl) rfl) rfl rfl) rfl (.inl rfl))
   (aD (cT (aU j4 (ao uV) aq (aO _)) (aJ (aR (d8 (ak iG (ak (ao mU) au rfl) rfl)))) bZ)
   (aD (bQ uU nP.nd (bD CZNumber (hr.mono δ) m8 xR (ak (ao j9) (ak (ao pY) (ak (ao Bb) (ak (ao mU) au rfl) rfl) rfl) rfl) rfl rfl) rfl (.inl rfl))
   (aD (cT (aU j4 (ao uV) aq (aO _)) (aJ (aR (d8 (ak iG (ak (cG (rT rfl) Ei (hB "min" DQ) boot_min Eu (ak (ao mU) (ak (ao uU) au rfl) rfl) rfl rfl) (ak (cG (xP rfl) Ej (hB "max" M6) boot_max O4 (ak (ao mU) (ak (ao uU) au rfl) rfl) rfl rfl) au rfl) rfl) rfl)))) bZ)
   (aD (bQ uT nP.nd (bD CZMask (hr.mono δ) zc Uo (ak (ao j9) (ak (ao pY) au rfl) rfl) rfl rfl) rfl (.inl rfl))
   (aD (bQ uR nP.nd (bD CZTake (hr.mono δ) lK bY (ak (ao j9) (ak (aG dF aq (ao pY)) au rfl) rfl) rfl rfl) rfl (.inl rfl))
   (aJ (aR (d8 (ak iG (ak (ao uT) (ak (pN (aU Gb (bD CZTake (hr.mono δ) lK bY (ak (ao j9) (ak aq au rfl) rfl) rfl rfl) aq (aO _)) (aG jP (ao uR) (ao uT)) (ao uR)) au rfl) rfl) rfl))))))))))),?_⟩
  have p1:=two_pow_pos w.toNat
  have p2:=gh (k:=w.toNat) ω
  refine aM fun k hk=>?_
  push_cast
  refine ⟨p,5,B,rfl,tp,by show B + 2<=1000100; omega,δ,δ,δ,fun z=>absurd z δ,fun r1 H1 r10 r11 s1 t1=>?_⟩
  push_cast
  subst hk
  refine aM fun k hk=>?_
  push_cast
  have u1:bA H1 p (B + 2):=t1
  refine ⟨p,w,s,o,B + 2,rfl,u1,ω,ω,hw1,hw2,hs,fun a H2 a0 a1 s2 t2=>?_⟩
  push_cast
  subst hk
  have s12:=s1.trans s2
  refine aM fun k hk=>?_
  push_cast
  split
  ·refine ⟨aP δ,fun t ht=>q (.one a) t _ ⟨a0,a1⟩ (s12.trans (aA ht).x) ((t2.same (aA ht)).le ω) ⟨aB⟩⟩
  subst hk
  refine aM fun k hk=>?_
  push_cast
  refine ⟨p,w,s,a,B + 2 + 10,rfl,t2,ω,ω,hw1,hw2,hs,fun b H3 b0 b1 s3 t3=>?_⟩
  push_cast
  subst hk
  have s123:=s12.trans s3
  refine aM fun k hk=>?_
  push_cast
  split
  ·refine ⟨aP δ,fun t ht=>q (.rng (if b < a then b else a) (if b > a then b else a)) t _ ⟨?_,?_,?_⟩ (s123.trans (aA ht).x) ((t3.same (aA ht)).le ω) ⟨aB⟩⟩
   ·unfold b7; split <;> omega
   ·unfold b7; split <;> omega
   ·split <;> split <;> omega
  subst hk
  refine aM fun k hk=>?_
  push_cast
  refine ⟨p,w,B + 2 + 10 + 10,rfl,t3,ω,ω,hw1,hw2,fun m H4 hm hf s4 t4=>?_⟩
  push_cast
  subst hk
  refine aM fun k hk=>?_
  push_cast [Int.one_mul]
  refine ⟨⟨ω,ω,δ⟩,p,2 ^ w.toNat,B + 2 + 10 + 10 + 20,rfl,t4,by show B + 2 + 10 + 10 + 20 + 2<=1000100; omega,p1,ω,δ,fun _=>by decide,fun r5 H5 r50 r51 s5 t5=>?_⟩
  obtain ⟨v,rfl⟩:=Int.eq_ofNat_of_zero_le r50
  have hv:=M8 r51
  subst hk
  push_cast
  refine ⟨p,5,B + 2 + 10 + 10 + 20 + 2,rfl,t5,by show B + 2 + 10 + 10 + 20 + 2 + 2<=1000100; omega,δ,δ,δ,fun z=>absurd z δ,fun r6 H6 r60 r61 s6 t6=>?_⟩
  push_cast
  have s456:=((s123.trans s4).trans s5).trans s6
  split
  ·refine ⟨aP δ,fun t ht=>?_⟩
   refine q (.bits m (v &&& m)) t _ ⟨hm,Nat.lt_of_le_of_lt Nat.and_le_right hm,hf⟩ (s456.trans (aA ht).x) ((t6.same (aA ht)).le (by show B + 2 + 10 + 10 + 20 + 2 + 2<=B + 60; omega)) ⟨?_⟩
   rw[aB,fZ]
   rfl
  ·refine ⟨aP δ,fun t ht=>?_⟩
   exact q (.bits m v) t _ ⟨hm,hv,hf⟩ (s456.trans (aA ht).x) ((t6.same (aA ht)).le (by show B + 2 + 10 + 10 + 20 + 2 + 2<=B + 60; omega)) ⟨aB⟩
abbrev bU:List Str:=["_law_tape_here", "_law_width", "_law_sign", "_law_great", "_law_cases", "_law_other", "_law_many", "_law_k", "_law_items", "_law_turn", "_law_item_here"]
abbrev aN:Stmt:=top 23
theorem bR:bJ bU ["_law_tape_here"] (aj aN):=⟨rfl,rfl,rfl,ψ,rfl,ψ,ψ⟩
theorem eH:NM_ bU aN 0 "_law_tape_here" := .of ψ
theorem eG:NM_ bU aN 1 "_law_width" := .of ψ
theorem gG:NM_ bU aN 2 "_law_sign" := .of ψ
theorem jn:NM_ bU aN 3 "_law_great" := .of ψ
theorem mL:NM_ bU aN 4 "_law_cases" := .of ψ
theorem gF:NM_ bU aN 5 "_law_other" := .of ψ
theorem jm:NM_ bU aN 6 "_law_many" := .of ψ
theorem uM:NM_ bU aN 7 "_law_k" := .of ψ
theorem eF:NM_ bU aN 8 "_law_items" := .of ψ
theorem uL:NM_ bU aN 9 "_law_turn" := .of ψ
theorem fQ:NM_ bU aN 10 "_law_item_here" := .of ψ
theorem oM:GI_ aN "_law_item" := by decide +kernel
theorem oK:GI_ aN "_law_kind" := by decide +kernel
theorem nW:GI_ aN "_law_least" := by decide +kernel
theorem fY:GI_ aN "_law_take" := by decide +kernel
theorem rH:GI_ aN "int" := by decide +kernel
theorem jr:GI_ aN "range" := by decide +kernel
theorem wB:Bn "_law_wild_choice" := ⟨ψ,ψ⟩
theorem R8 (hB:∀ x:Str,x∈BLs->mg x=none) (CZTake:Cal P w K mg base "_law_take" 2 ["_law_tape_here", "_law_many"] (fG 2)) (CZKind:Cal P w K mg base "_law_kind" 3 ["_law_tape_here"] Kq) (CZLeast:Cal P w K mg base "_law_least" 1 ["_law_width", "_law_sign"] pC) (CZItem:Cal P w K mg base "_law_item" 4 ["_law_tape_here", "_law_width", "_law_sign", "_law_other"] Kr)
  (F:Fun K "_law_wild_choice" "_law_wild_choice" aN f fd):dO P w K mg base CX0 5 f fd ["_law_tape_here"] Kl:=by
 refine F.okq bR (fun vs H Q E h=>?_) (fun cdv A outer s H vs Q E hr h=>?_)
 ·obtain ⟨p,B,rfl,_⟩:=h
  rfl
 ·obtain ⟨p,B,rfl,tp,hB0,hB1,q⟩:=h
  refine ⟨_,(aD (jN (bD CZKind (hr.mono δ) oK Uq (ak (ao eH) au rfl) rfl rfl) (gW (n:=2) rfl (aY (cg eG bR.nd (.inl rfl)) (aY (cg gG bR.nd (.inl rfl)) eY rfl) rfl) rfl rfl) rfl rfl rfl)
   (aD (bQ jn bR.nd (iH (bV hr.bF) (bD CZTake (hr.mono δ) fY bY (ak (ao eH) (ak aq au rfl) rfl) rfl rfl) aq (aO _)) rfl (.inl rfl))
   (aD (FT (i:=4) (j:=5) (k:=6) rfl bR.nd rfl rfl rfl δ δ δ rfl rfl rfl (ak (cZ au) (ak (bD CZLeast (hr.mono δ) nW vL (ak (ao eG) (ak (ao gG) au rfl) rfl) rfl rfl) (ak aq au rfl) rfl) rfl) (by rfl))
   (aD (fH PassesOwn.never rfl (eX jr (hB "range" eU) (ak (bD CZTake (hr.mono δ) fY bY (ak (ao eH) (ak (pN (kZ (ao jn) (fun _=>rfl)) aq aq) au rfl) rfl) rfl rfl) au rfl) rfl) (cg uM bR.nd (.inl rfl))
   (aD (bQ eF bR.nd (cZ au) rfl (.inl rfl))
   (aD (fH PassesOwn.never rfl (eX jr (hB "range" eU) (ak (bD CZTake (hr.mono δ) fY bY (ak (ao eH) (ak (pN (kZ (ao jn) (fun _=>rfl)) aq aq) au rfl) rfl) rfl rfl) au rfl) rfl) (cg uL bR.nd (.inl rfl))
   (aD (bQ fQ bR.nd (bD CZItem (hr.mono δ) oM Ur (ak (ao eH) (ak (ao eG) (ak (ao gG) (ak (ao gF) au rfl) rfl) rfl) rfl) rfl rfl) rfl (.inl rfl))
   (aD (bQ jm bR.nd (aG aZ (ao jm) (FW oU rH (hB "int" yR) boot_int zp (ak (iH (bV hr.bF) (bI cQ (ao fQ) aq (fun _ _=>rfl)) iG (aO _)) au rfl) rfl rfl)) rfl (.inl rfl))
   (aD (jC (lg (ao eF) (pN (v9 (uF (aU j4 (ao eG) aq (aO _)) (uF (aU j4 (ao jm) aq (aO _)) (qZ (aU (lq hr.bF) (bI cQ (ao fQ) aq (fun _ _=>rfl)) iG (aO _)))))) (ao fQ) (d8 (ak iG (ak (ao gF) au rfl) rfl))) rfl rfl rfl rfl rfl) rfl)
   (aJ (bQ gF bR.nd (pN (aU (lq hr.bF) (bI cQ (bI cQ (ao eF) (pK kO aq) (fun _ _=>rfl)) aq (fun _ _=>rfl)) iG (aO _)) (bI cQ (bI cQ (ao eF) (pK kO aq) (fun _ _=>rfl)) aq (fun _ _=>rfl)) (ao gF)) rfl (.inl rfl)))))) (fun _=>rfl))
   (aJ (jC (lg (ao mL) (ao eF) rfl rfl rfl rfl rfl) rfl)))) (fun _=>rfl))
   (aJ (aR (d8 (ak (ao eG) (ak (ao gG) (ak (ao mL) au rfl) rfl) rfl)))))))),?_⟩
  refine aM fun k hk=>?_
  push_cast
  refine ⟨p,B,rfl,tp,ω,ω,fun w s t H1 hw1 hw2 hs s1 tp1 ht=>?_⟩
  push_cast [ht]
  subst hk
  refine aM fun k hk=>?_
  push_cast
  refine ⟨p,8,B + 10,rfl,tp1,by show B + 10 + 2<=1000100; omega,δ,δ,δ,fun z=>absurd z δ,fun r1 H2 r10 r11 s2 tp2=>?_⟩
  push_cast
  subst hk
  generalize decide (r1=0)=great
  refine aM fun k hk=>?_
  push_cast
  refine ⟨aP δ,fun c hc=>?_⟩
  refine ⟨w,s,rfl,hw1,hw2,hs,?_⟩
  push_cast
  subst hk
  obtain ⟨cp,Hc⟩:=vB (s1.trans s2) tp2 hc
  have s3:=jY (o:=HO.lst []) (s1.trans s2) Hc
  have tp3:bA _ p (B + 12):=(tp2.same (aA (o:=HO.lst []) hc)).le (by show B + 10 + 2<=B + 12; omega)
  have hc3:upd H2 c (HO.lst []) c=some (HO.lst []):=aB
  generalize upd H2 c (HO.lst [])=H3 at s3 tp3 hc3 |-
  refine aM fun k hk=>?_
  refine iY fun R hR=>?_
  push_cast [lZ]
  have g13:∀ (x y:Int),(0 < x/\x<=13)->(0 < y/\y<=13)->(if great=true then x else y)<=13/\0 < (if great=true then x else y):=fun x y hx hy=>by cases great <;> simp <;> omega
  obtain ⟨OC,hOC⟩:∃ OC:Addr->Prop,OC=fun a=>a≠p/\a≠c:=⟨_,rfl⟩
  have body:∀ m:Int,0 < m->m<=13->fG 2 [V.ref p,V.int m] H3 (fun x H1=>∃ j,x=V.int j/\-(2 ^ 62)<=j/\j < 2 ^ 62/\R (Itr 0 j.toNat) H1) E0:=by
   intro m hm0 hm1
   refine ⟨p,m,B + 12,rfl,tp3,by show B + 12 + 2<=1000100; omega,hm0,ω,δ,fun z=>absurd z ω,fun r2 H4 r20 r21 s4 tp4=>?_⟩
   refine ⟨r2,rfl,ω,ω,?_⟩
   obtain ⟨Pv,hPv⟩:∃ Pv:Nat->L2.St->Hp->Prop,Pv=fun (i:Nat) σ H'=>∃ (css:List (List It1)) (vs:List V) (ot mn:Int) (o7 o8 o9 o10:Option V),cN p H H'/\bA H' p (B + 20 + 400 * (i:Int))/\H' c=some (HO.lst vs)/\aK OC H' vs (css.map jJ) /\
    css.length=i/\(∀ its∈css,its.length<=6/\∀ it∈its,it.Ok w s)/\b7 w s ot /\
    σ=[some (V.ref p),some (V.int w),some (V.int s),some (V.bl great),some (V.ref c),some (V.int ot),some (V.int mn),o7,o8,o9,o10]:=⟨_,rfl⟩
   have hc4:=s4 _ _ cp hc3
   refine vD hR Pv (by rw[hPv]; exact ⟨[],[],_,_,_,_,_,_,s3.trans s4,tp4.le (by show B + 12 + 2<=B + 20 + 400 * ((0:Nat):Int); omega),hc4,.nil,rfl,by simp,yW,rfl⟩) ?_ ?_
   ·intro i σ H5 hi pv
    rw[hPv] at pv
    obtain ⟨css,vs,ot,mn,o7,o8,o9,o10,s5,tp5,hc5,ts5,hcl,hok,hot,rfl⟩:=pv
    refine aM fun k2 hk2=>?_
    push_cast
    refine ⟨aP δ,fun q0 hq0=>?_⟩
    obtain ⟨qp,Hq⟩:=vB s5 tp5 hq0
    have qc:q0≠c:=(aF hc5 hq0).symm
    obtain ⟨OQ,hOQ⟩:∃ OQ:Addr->Prop,OQ=fun a=>(a≠p/\a≠c)/\a≠q0:=⟨_,rfl⟩
    have ts6:aK OQ (upd H5 q0 (HO.lst [])) vs (css.map jJ):=ts5.keep fun a o h e=>by
     rw[hOC] at h
     rw[hOQ]
     exact ⟨⟨h,aF e hq0⟩,aA hq0 _ _ e⟩
    have s6:=jY (o:=HO.lst []) s5 Hq
    have tp6:=tp5.same (aA (o:=HO.lst []) hq0)
    have hc6:=aA (o:=HO.lst []) hq0 _ _ hc5
    have hq6:upd H5 q0 (HO.lst []) q0=some (HO.lst []):=aB
    generalize upd H5 q0 (HO.lst [])=H6 at s6 tp6 hc6 hq6 ts6 |-
    subst hk2
    refine aM fun k2 hk2=>?_
    refine iY fun R2 hR2=>?_
    push_cast [lZ]
    have body2:∀ m:Int,0 < m->m<=7->fG 2 [V.ref p,V.int m] H6 (fun x H1=>∃ j,x=V.int j/\-(2 ^ 62)<=j/\j < 2 ^ 62/\R2 (Itr 0 j.toNat) H1) E0:=by
     intro m hm0 hm1
     refine ⟨p,m,B + 20 + 400 * (i:Int),rfl,tp6,by show B + 20 + 400 * (i:Int) + 2<=1000100; omega,hm0,ω,δ,fun z=>absurd z ω,fun r3 H7 r30 r31 s7 tp7=>?_⟩
     refine ⟨r3,rfl,ω,ω,?_⟩
     obtain ⟨Pv2,hPv2⟩:∃ Pv:Nat->L2.St->Hp->Prop,Pv=fun (j:Nat) σ H'=>∃ (its:List It1) (us:List V) (ot mn:Int) (o9 o10:Option V),cN p H H'/\bA H' p (B + 20 + 400 * (i:Int) + 2 + 60 * (j:Int))/\H' c=some (HO.lst vs)/\H' q0=some (HO.lst us)/\aK OQ H' vs (css.map jJ) /\
      aK OQ H' us (its.map itD)/\its.length=j/\(∀ it∈its,it.Ok w s)/\b7 w s ot /\
      σ=[some (V.ref p),some (V.int w),some (V.int s),some (V.bl great),some (V.ref c),some (V.int ot),some (V.int mn),some (V.int (0 + (i:Int))),some (V.ref q0),o9,o10]:=⟨_,rfl⟩
     have kq:∀ {H H':Hp},cN p H H'->∀ a o,OQ a->H a=some o->OQ a/\H' a=some o:=fun {H H'} sx a o h e=>by
      refine ⟨h,sx a o ?_ e⟩
      rw[hOQ] at h
      exact h.1.1
     refine vD hR2 Pv2 (by rw[hPv2]; exact ⟨[],[],ot,mn,_,_,s6.trans s7,tp7.le (by show B + 20 + 400 * (i:Int) + 2<=B + 20 + 400 * (i:Int) + 2 + 60 * ((0:Nat):Int); omega),s7 _ _ cp hc6,s7 _ _ qp hq6,ts6.keep (kq s7),.nil,rfl,by simp,hot,rfl⟩) ?_ ?_
     ·intro j σ H8 hj pv
      rw[hPv2] at pv
      obtain ⟨its,us,ot8,mn8,o9',o10',s8,tp8,hc8,hq8,tv8,tu8,hil,hio,hot8,rfl⟩:=pv
      have hul:=tu8.length
      rw[List.length_map] at hul
      refine aM fun k3 hk3=>?_
      push_cast
      refine ⟨p,w,s,ot8,B + 20 + 400 * (i:Int) + 2 + 60 * (j:Int),rfl,tp8,ω,ω,hw1,hw2,hs,fun it t9 H9 ok9 s9 tp9 at9=>?_⟩
      push_cast
      subst hk3
      have hc9:=s9 _ _ cp hc8
      have hq9:=s9 _ _ qp hq8
      have tv9:=tv8.keep (kq s9)
      have tu9:=tu8.keep (kq s9)
      have s89:=s8.trans s9
      -- the item that goes in
      have put:∀ (it2:It1) (t2:Addr) (H10:Hp) (mn2:Int) (k4:L2.St->Hp->Prop),k4=sW (tIf (su (tOp Dk (tOp Dl (tOp Dl (tV 8) (tUn (rU fun i=>V.int (-i)) (tC (V.int 1)))) (tC (V.int 0))) (tC (V.str "bits"))))
        (tOp Dl (tOp Dl (tV 8) (tUn (rU fun i=>V.int (-i)) (tC (V.int 1)))) (tC (V.int 1))) (tV 5)) (ju 5) { nx:=Pv2 (j + 1),ct:=Pv2 (j + 1),bk:=k2,rt:=Q } ->
        it2.Ok w s->Same H9 H10->nM H10 t2 it2 ->
        apq (H10 q0) q0 (V.ref t2) H10 (fun _ H1=>k4 [some (V.ref p),some (V.int w),some (V.int s),some (V.bl great),some (V.ref c),some (V.int ot8),some (V.int mn2),some (V.int (0 + (i:Int))),some (V.ref q0),some (V.int (0 + (j:Int))),some (V.ref t9)] H1):=by
       intro it2 t2 H10 mn2 k4 hk4 ok2 s10 at2
       rw[s10 _ _ hq9,qP]
       have hlt:us.length < sizeLine:=Nat.lt_of_lt_of_le ω (aP (Nat.le_refl 1000000))
       refine ⟨hlt,?_⟩
       have tq:t2≠q0:=fun z=>by have:=at2.h; rw[z,s10 _ _ hq9] at this; cases this
       have tc:t2≠c:=fun z=>by have:=at2.h; rw[z,s10 _ _ hc9] at this; cases this
       have tpn:t2≠p:=(tp9.same s10).net at2.h
       have kk:∀ a o,OQ a->H10 a=some o->OQ a/\upd H10 q0 (HO.lst (us ++ [V.ref t2])) a=some o:=fun a o h e=>by
        refine ⟨h,?_⟩
        rw[hOQ] at h
        rw[aH h.2]
        exact e
       have at3:nM (upd H10 q0 (HO.lst (us ++ [V.ref t2]))) t2 it2:=⟨by rw[aH tq]; exact at2.h⟩
       have s11:=jY (o:=HO.lst (us ++ [V.ref t2])) (s89.trans s10.x) Hq
       have tp11:=(tp9.same s10).upd (o:=HO.lst (us ++ [V.ref t2])) qp
       have hc11:upd H10 q0 (HO.lst (us ++ [V.ref t2])) c=some (HO.lst vs):=by rw[aH (Ne.symm qc)]; exact s10 _ _ hc9
       have hq11:upd H10 q0 (HO.lst (us ++ [V.ref t2])) q0=some (HO.lst (us ++ [V.ref t2])):=aB
       have tv11:=(tv9.same s10).keep kk
       have tu11:aK OQ (upd H10 q0 (HO.lst (us ++ [V.ref t2]))) (us ++ [V.ref t2]) ((its ++ [it2]).map itD):=by
        rw[List.map_append]
        exact ((tu9.same s10).keep kk).append (.cons (at3.tree (by rw[hOQ]; exact ⟨⟨tpn,tc⟩,tq⟩)) .nil)
       generalize upd H10 q0 (HO.lst (us ++ [V.ref t2]))=H11 at at3 s11 tp11 hc11 hq11 tv11 tu11
       have fin:∀ ot2,b7 w s ot2->Pv2 (j + 1) [some (V.ref p),some (V.int w),some (V.int s),some (V.bl great),some (V.ref c),some (V.int ot2),some (V.int mn2),some (V.int (0 + (i:Int))),some (V.ref q0),some (V.int (0 + (j:Int))),some (V.ref t9)] H11:=fun ot2 ho2=>by
        rw[hPv2]
        refine ⟨its ++ [it2],us ++ [V.ref t2],ot2,mn2,_,_,s11,tp11.le ω,hc11,hq11,tv11,tu11,by rw[List.length_append,List.length_singleton]; omega,?_,ho2,rfl⟩
        intro x hx
        rcases List.mem_append.mp hx with z | z
        ·exact hio x z
        ·rw[List.mem_singleton.mp z]
         exact ok2
       subst hk4
       cases it2 with
       | one x=>
        push_cast [hq11,vN,at3.h]
        exact fin _ ok2
       | rng x y=>
        push_cast [hq11,vN,at3.h]
        exact fin _ ok2.1
       | bits x y=>
        push_cast [hq11,vN,at3.h]
        exact fin _ hot8
      refine aM fun k3 hk3=>?_
      have put2:∀ mn2:Int,k3 [some (V.ref p),some (V.int w),some (V.int s),some (V.bl great),some (V.ref c),some (V.int ot8),some (V.int mn2),some (V.int (0 + (i:Int))),some (V.ref q0),some (V.int (0 + (j:Int))),some (V.ref t9)] H9:=by
       intro mn2
       subst hk3
       refine aM fun k4 hk4=>?_
       have direct:=put it t9 H9 mn2 k4 hk4 ok9 (Same.refl _) at9
       rw[hq9,qP] at direct
       cases it with
       | one x=>
        push_cast [hq9,at9.h]
        split
        ·exact direct
        ·split
         ·exact direct
         ·exact direct
       | rng x y=>
        push_cast [hq9,at9.h]
        split
        ·exact direct
        ·split
         ·exact direct
         ·exact direct
       | bits x y=>
        push_cast [hq9,at9.h]
        split
        ·exact direct
        ·split
         ·exact direct
         ·exact ⟨aP δ,fun t2 ht2=>put (.one ot8) t2 _ mn2 k4 hk4 hot8 (aA ht2) ⟨aB⟩⟩
      cases it with
      | one x=>push_cast [at9.h]; exact put2 _
      | rng x y=>push_cast [at9.h]; exact put2 _
      | bits x y=>push_cast [at9.h]; exact put2 _
     ·intro σ H8 pv
      rw[hPv2] at pv
      obtain ⟨its,us,ot8,mn8,o9',o10',s8,tp8,hc8,hq8,tv8,tu8,hil,hio,hot8,rfl⟩:=pv
      have hvl:=tv8.length
      rw[List.length_map] at hvl
      have hul:=tu8.length
      rw[List.length_map] at hul
      show k2 _ _
      subst hk2
      push_cast [hc8]
      refine ⟨Nat.lt_of_lt_of_le ω (aP (Nat.le_refl 1000000)),?_⟩
      rw[hPv]
      have kk:∀ a o,OQ a->H8 a=some o->OC a/\upd H8 c (HO.lst (vs ++ [V.ref q0])) a=some o:=fun a o h e=>by
       rw[hOQ] at h
       rw[hOC]
       exact ⟨h.1,by rw[aH h.1.2]; exact e⟩
      refine ⟨css ++ [its],vs ++ [V.ref q0],ot8,mn8,_,_,_,_,jY s8 Hc,(tp8.upd cp).le ω,aB,?_,by rw[List.length_append,List.length_singleton]; omega,?_,hot8,rfl⟩
      ·rw[List.map_append]
       refine (tv8.keep kk).append (.cons (.lst ?_ (by rw[aH qc]; exact hq8) ω (tu8.keep kk)) .nil)
       rw[hOC]
       exact ⟨qp,qc⟩
      ·intro x hx
       rcases List.mem_append.mp hx with z | z
       ·exact hok x z
       ·rw[List.mem_singleton.mp z]
        exact ⟨ω,hio⟩
    cases great with
    | true=>exact body2 7 δ δ
    | false=>exact body2 5 δ δ
   ·intro σ H5 pv
    rw[hPv] at pv
    obtain ⟨css,vs,ot,mn,o7,o8,o9,o10,s5,tp5,hc5,ts5,hcl,hok,hot,rfl⟩:=pv
    have hvl:=ts5.length
    rw[List.length_map] at hvl
    show k _ _
    subst hk
    push_cast
    refine ⟨aP δ,fun t ht=>?_⟩
    obtain ⟨tpn,Ht⟩:=vB s5 tp5 ht
    have sx:=aA (o:=HO.tup [V.int w,V.int s,V.ref c]) ht
    refine q w s t css _ hw1 hw2 hs (s5.trans sx.x) ((tp5.same sx).le ω) ?_ hok ω
    exact .tup tpn aB (by show 3<=1000000; decide) (.cons (.int w) (.cons (.int s) (.cons (.lst cp (sx _ _ hc5) ω (ts5.keep fun a o h e=>by
     rw[hOC] at h
     exact ⟨h.1,sx _ _ e⟩)) .nil)))
  cases great with
  | true=>exact body 13 δ δ
  | false=>exact body 6 δ δ
abbrev vP:List Str:=["_law_width", "_law_mask_here", "_law_places"]
abbrev jl:Stmt:=top 24
theorem Fz:bJ vP ["_law_width", "_law_mask_here"] (aj jl):=⟨rfl,rfl,rfl,ψ,rfl,ψ,ψ⟩
theorem Bc:NM_ vP jl 0 "_law_width" := .of ψ
theorem Mu:NM_ vP jl 2 "_law_places" := .of ψ
theorem qF:GI_ jl "range" := by decide +kernel
theorem Us:Bn "_law_free" := ⟨ψ,ψ⟩
abbrev bO:List Str:=["_law_width", "_law_sign", "_law_mask_here", "_law_value", "_law_low", "_law_free_here", "_law_found", "_law_number_here", "_law_pattern", "_law_begin"]
abbrev aL:Stmt:=top 25
theorem cW:bJ bO ["_law_width", "_law_sign", "_law_mask_here", "_law_value"] (aj aL):=⟨rfl,rfl,rfl,ψ,rfl,ψ,ψ⟩
theorem iR:NM_ bO aL 0 "_law_width" := .of ψ
theorem sZ:NM_ bO aL 1 "_law_sign" := .of ψ
theorem fV:NM_ bO aL 2 "_law_mask_here" := .of ψ
theorem iQ:NM_ bO aL 3 "_law_value" := .of ψ
theorem fU:NM_ bO aL 4 "_law_low" := .of ψ
theorem lY:NM_ bO aL 5 "_law_free_here" := .of ψ
theorem iM:NM_ bO aL 6 "_law_found" := .of ψ
theorem sY:NM_ bO aL 7 "_law_number_here" := .of ψ
theorem iK:NM_ bO aL 8 "_law_pattern" := .of ψ
theorem iJ:NM_ bO aL 9 "_law_begin" := .of ψ
theorem nZ:GI_ aL "_law_free" := by decide +kernel
theorem kj:GI_ aL "enumerate" := by decide +kernel
theorem qI:GI_ aL "int" := by decide +kernel
theorem qH:GI_ aL "len" := by decide +kernel
theorem nY:GI_ aL "range" := by decide +kernel
theorem qG:GI_ aL "sum" := by decide +kernel
theorem vM:Bn "_law_bits_borders" := ⟨ψ,ψ⟩
theorem Sq (hB:∀ x:Str,x∈BLs->mg x=none) (F:Fun K "_law_free" "_law_free" jl f fd):dO P w K mg base CX0 1 f fd ["_law_width", "_law_mask_here"] Ks:=by
 refine F.okq Fz (fun vs H Q E h=>?_) (fun cdv A outer s H vs Q E hr h=>?_)
 ·obtain ⟨w,m,rfl,_⟩:=h
  rfl
 ·obtain ⟨w,m,rfl,hw1,hw2,hm,q⟩:=h
  refine ⟨_,(aD (bQ Mu Fz.nd (jb (NX:=vP) (kX:=(aj jl).names) ["_law_k", "_law_mask_here"] [none,some 1] rfl rfl ⟨rfl,ψ,ψ,ψ,ψ⟩ rfl (eX qF (hB "range" eU) (ak (ao Bc) au rfl) rfl) (fun _ _ _ _ _=>(eZ 0 (show List.Nodup (["_law_k", "_law_mask_here"]:List Str) from by decide +kernel) rfl (Or.inl rfl))) (fun _ _ _ _ _=>(uJ (aU (bV hr.bF) (aG jP (aG yG (cM 1) (cM 0)) aq) aq (aO _)))) (fun _ _ _ _ _=>(cM 0))) rfl (.inl rfl))
   (aJ (aR (jb (NX:=vP) (kX:=(aj jl).names) ["_law_k", "_law_places"] [none,some 2] rfl rfl ⟨rfl,ψ,ψ,ψ,ψ⟩ rfl (eX qF (hB "range" eU) (ak (ao Bc) au rfl) rfl) (fun _ _ _ _ _=>(eZ 0 (show List.Nodup (["_law_k", "_law_places"]:List Str) from by decide +kernel) rfl (Or.inl rfl))) (fun _ _ _ _ _=>(uJ (v9 (uG (aU (lq hr.bF) (cM 1) (cZ au) (aO _)) (uG (aU Gb (cM 0) (bI cQ (cM 1) aq (fun _ _=>rfl)) (aO _)) (tR (aU HX (cM 0) (cM 1) (by with_unfolding_all rfl)))))))) (fun _ _ _ _ _=>(cM 0)))))),?_⟩
  refine aM fun k hk=>?_
  push_cast
  refine iU fun R hR=>?_
  push_cast [lZ]
  refine ⟨ω,ω,?_⟩
  obtain ⟨Pv,hPv⟩:∃ Pv:Nat->List V->L2.St->Hp->Prop,Pv=fun (i:Nat) acc τ H'=>∃ (o1:Option V),H'=H/\acc=cI (places i m)/\τ=[o1,some (V.int m)]:=⟨_,rfl⟩
  refine Eo hR (aP ω) Pv (by rw[hPv]; exact ⟨none,rfl,rfl,rfl⟩) ?_ ?_ ?_
  ·intro i acc τ H1 pv
   rw[hPv] at pv
   obtain ⟨o1,rfl,rfl,rfl⟩:=pv
   rw[cH]
   exact kE _ _
  ·intro i acc τ H1 hi pv
   rw[hPv] at pv
   obtain ⟨o1,rfl,rfl,rfl⟩:=pv
   push_cast [Int.zero_add]
   refine ⟨ω,?_⟩
   rw[Int.toNat_natCast,yo]
   have e:places (i + 1) m=places i m ++ if m.testBit i then [i] else []:=jF _ _
   cases hb:m.testBit i with
   | true=>
    rw[hb,if_pos rfl] at e
    simp only[if_true]
    rw[hPv]
    exact ⟨_,rfl,by rw[e,wO],rfl⟩
   | false=>
    rw[hb,if_neg δ,List.append_nil] at e
    simp only[Bool.false_eq_true,if_false]
    rw[hPv]
    exact ⟨_,rfl,by rw[e],rfl⟩
  ·intro acc τ H1 d pv hd
   rw[hPv] at pv
   obtain ⟨o1,rfl,rfl,rfl⟩:=pv
   subst hk
   push_cast
   refine iU fun R2 hR2=>?_
   push_cast [lZ]
   refine ⟨ω,ω,?_⟩
   have h0:upd H1 d (HO.lst (cI (places w.toNat m))) d=_:=aB
   have s0:Same H1 _:=aA (o:=HO.lst (cI (places w.toNat m))) hd
   generalize upd H1 d (HO.lst (cI (places w.toNat m)))=H2 at h0 s0
   obtain ⟨Pv2,hPv2⟩:∃ Pv:Nat->List V->L2.St->Hp->Prop,Pv=fun (i:Nat) acc τ H'=>∃ (o1:Option V),Same H2 H'/\acc=cI (frees i m)/\τ=[o1,some (V.ref d)]:=⟨_,rfl⟩
   refine Eo hR2 (aP ω) Pv2 (by rw[hPv2]; exact ⟨none,Same.refl _,rfl,rfl⟩) ?_ ?_ ?_
   ·intro i acc τ H3 pv
    rw[hPv2] at pv
    obtain ⟨o1,_,rfl,rfl⟩:=pv
    rw[cH]
    exact kE _ _
   ·intro i acc τ H3 hi pv
    rw[hPv2] at pv
    obtain ⟨o1,s3,rfl,rfl⟩:=pv
    have h3:=s3 _ _ h0
    have e:frees (i + 1) m=frees i m ++ if isFree m i then [i] else []:=jF _ _
    push_cast [Int.zero_add]
    refine ⟨aP δ,fun t ht=>?_⟩
    have n1:d≠t:=aF h3 ht
    have s4:Same H2 (upd H3 t (HO.lst [])):=s3.trans (aA ht)
    cases hp:places w.toNat m with
    | nil=>
     have hf:=Jh hp hi
     rw[hf,if_neg δ,List.append_nil] at e
     rw[hp] at h3
     push_cast [aH n1,h3]
     refine ⟨rfl,rfl,?_⟩
     show Pv2 _ _ _ _
     rw[hPv2]
     exact ⟨_,s4,by rw[e],rfl⟩
    | cons a r=>
     have hf:=Jg hp hi
     have h4:H3 d=some (HO.lst (V.int a :: cI r)):=by rw[h3,hp]; rfl
     push_cast [aH n1,h4]
     refine ⟨wQ (a :: r),rfl,?_⟩
     rw[Xx]
     push_cast [aH n1,h4,Vf]
     by_cases hak:a < i
     ·rw[decide_eq_true hak,Bool.true_and] at hf
      rw[if_pos (show (a:Int) < (i:Int) by omega)]
      refine ⟨rfl,wQ (a :: r),?_⟩
      rw[show inV (V.int (i:Nat)) (V.int a :: cI r)=(a :: r).contains i from TV i (a :: r)]
      cases hc:(a :: r).contains i with
      | true=>
       rw[hc] at hf
       rw[hf] at e
       simp only[Bool.not_true,Bool.false_eq_true,if_false,if_true,List.append_nil] at e |-
       rw[hPv2]
       exact ⟨_,s4,by rw[e],rfl⟩
      | false=>
       rw[hc] at hf
       rw[hf] at e
       simp only[Bool.not_false,if_true] at e |-
       rw[hPv2]
       exact ⟨_,s4,by rw[e,wO],rfl⟩
     ·rw[decide_eq_false hak,Bool.false_and] at hf
      rw[if_neg (show ¬ (a:Int) < (i:Int) by omega)]
      rw[hf,if_neg δ,List.append_nil] at e
      rw[hPv2]
      exact ⟨_,s4,by rw[e],rfl⟩
   ·intro acc τ H3 d2 pv hd2
    rw[hPv2] at pv
    obtain ⟨o1,s3,rfl,rfl⟩:=pv
    exact q d2 _ aB (s0.trans (s3.trans (aA hd2)))
theorem Yz (hB:∀ x:Str,x∈BLs->mg x=none) (CZFree:Cal P w K mg base "_law_free" 1 ["_law_width", "_law_mask_here"] Ks) (F:Fun K "_law_bits_borders" "_law_bits_borders" aL f fd):dO P w K mg base CX0 2 f fd ["_law_width", "_law_sign", "_law_mask_here", "_law_value"] Vc:=by
 refine F.okq cW (fun vs H Q E h=>?_) (fun cdv A outer s H vs Q E hr h=>?_)
 ·obtain ⟨w,s,m,v,rfl,_⟩:=h
  rfl
 ·obtain ⟨w,s,m,v,rfl,hw1,hw2,hs,hm,hv,hf,q⟩:=h
  refine ⟨_,(aD (cT (v9 (uF (aU (bV hr.bF) (ao fV) aq (aO _)) (qZ (aU (lq hr.bF) (aG jP (ao iQ) (ao fV)) (ao iQ) (aO _))))) (aJ (aR (cZ au))) bZ)
   (aD (FT (i:=4) (j:=5) (k:=6) rfl cW.nd rfl rfl rfl δ δ δ rfl rfl rfl (ak aq (ak (bD CZFree (hr.mono δ) nZ Us (ak (ao iR) (ak (ao fV) au rfl) rfl) rfl rfl) (ak (cZ au) au rfl) rfl) rfl) (by rfl))
   (aD (Al PassesOwn.never (aU (bV hr.bF) (aG jP (aG yG (ao fV) (ao fU)) aq) aq (aO _)) (aJ (bQ fU cW.nd (aG aZ (ao fU) aq) rfl (.inl rfl))))
   (aD (fH PassesOwn.never rfl (eX nY (hB "range" eU) (ak (aG dF aq (cG eV qH (hB "len" jQ) PySem.boot_len jT (ak (ao lY) au rfl) rfl rfl)) au rfl) rfl) (cg sY cW.nd (.inl rfl))
   (aD (bQ iK cW.nd (aG aZ (ao iQ) (cG (Jm rfl) qG (hB "sum" W5) boot_sum XF (ak (jb (NX:=bO) (kX:=(aj aL).names) ["_law_k", "_law_place", "_law_number_here"] [none,none,some 7] rfl rfl ⟨rfl,ψ,ψ,ψ,ψ⟩ rfl (tU kj (hB "enumerate" jf) (ak (ao lY) au rfl) rfl) (fun _ _ _ _ _=>(gW (n:=2) rfl (aY (eZ 0 (show List.Nodup (["_law_k", "_law_place", "_law_number_here"]:List Str) from by decide +kernel) rfl (Or.inl rfl)) (aY (eZ 1 (show List.Nodup (["_law_k", "_law_place", "_law_number_here"]:List Str) from by decide +kernel) rfl (Or.inl rfl)) eY rfl) rfl) rfl rfl)) (fun _ _ _ _ _=>(uJ (aU (bV hr.bF) (aG jP (aG yG (cM 2) (cM 0)) aq) aq (aO _)))) (fun _ _ _ _ _=>(aG dF aq (cM 1)))) au rfl) rfl rfl)) rfl (.inl rfl))
   (aD (bQ iJ cW.nd (aG eE (ao iK) (aG fP (aG dF aq (ao iR)) (FW oU qI (hB "int" yR) boot_int zp (ak (uI (iH (bV hr.bF) (ao sZ) aq (aO _)) (yD (iH (bV hr.bF) (aG yG (ao iK) (aG eE (ao iR) aq)) aq (aO _)))) au rfl) rfl rfl))) rfl (.inl rfl))
   (aJ (bQ iM cW.nd (aG aZ (ao iM) (cZ (ak (ao iJ) (ak (aG aZ (ao iJ) (aG dF aq (ao fU))) au rfl) rfl))) rfl (.inl rfl))))) (fun _=>rfl))
   (aJ (aR (ao iM))))))),?_⟩
  have p1:=two_pow_pos w.toNat
  have p2:=gh (k:=w.toNat) ω
  have ret:(m=0\/v &&& m≠v)->0<=sizeLine/\∀ (p:Addr),H p=none->Q (V.ref p) (upd H p (HO.lst [])):=fun z=>⟨Nat.zero_le _,fun p hp=>q p _ [] aB (Nat.zero_le _) (fun b=>Uy z) (aA hp)⟩
  refine aM fun k hk=>?_
  push_cast [fZ]
  split
  ·rename_i hm0
   exact ret (.inl ω)
  rename_i hm0
  by_cases hvm:v &&& m=v
  case neg=>
   push_cast [Int.ofNat_inj,decide_eq_false hvm,Bool.not_false]
   exact ret (.inr hvm)
  push_cast [hvm,Bool.not_true,decide_true]
  subst hk
  refine aM fun k hk=>?_
  push_cast
  refine ⟨w,m,rfl,ω,ω,hm,fun fr H1 hfr s1=>?_⟩
  push_cast
  refine ⟨aP δ,fun fo hfo=>?_⟩
  have s2:Same H (upd H1 fo (HO.lst [])):=s1.trans (aA hfo)
  have hfr2:upd H1 fo (HO.lst []) fr=some (HO.lst (cI (frees w.toNat m))):=aA hfo _ _ hfr
  have hfo2:upd H1 fo (HO.lst []) fo=some (HO.lst []):=aB
  generalize upd H1 fo (HO.lst [])=H2 at s2 hfr2 hfo2
  subst hk
  -- the lowest place
  refine aM fun k hk=>?_
  obtain ⟨L,hL⟩:∃ L,m.testBit L=true:=Nat.exists_testBit_of_ne_zero ω
  have hLw:L < w.toNat:=by
   rcases Nat.lt_or_ge L w.toNat with z | z
   ·exact z
   ·rw[Nat.testBit_lt_two_pow (Nat.lt_of_lt_of_le hm (Nat.pow_le_pow_right δ z))] at hL
    cases hL
  obtain ⟨Wv,hWv⟩:∃ Wv:Nat->L2.St->Hp->Prop,Wv=fun (i:Nat) σ H'=>∃ (lo:Nat),H'=H2/\lo + i=L/\(∀ i',i' < lo->m.testBit i'=false)/\σ=[some (V.int w),some (V.int s),some (V.int m),some (V.int v),some (V.int (lo:Nat)),some (V.ref fr),some (V.ref fo),none,none,none]:=⟨_,rfl⟩
  refine Qe Wv L (by rw[hWv]; exact ⟨0,rfl,ω,fun i hi=>absurd hi ω,rfl⟩) ?_
  intro i σ H3 wv
  rw[hWv] at wv
  obtain ⟨lo,rfl,hlo,hlow,rfl⟩:=wv
  push_cast
  refine ⟨ω,?_⟩
  rw[Int.toNat_natCast,yo]
  by_cases hb:m.testBit lo=true
  ·rw[if_pos hb,if_neg δ]
   subst hk
   clear hWv
   -- the numbers of free places
   refine aM fun k hk=>?_
   refine iY fun R hR=>?_
   push_cast [lZ,hfr2,Int.one_mul]
   have hl4:(cI (frees w.toNat m)).length<=4:=by rw[cH]; exact hf
   refine ⟨⟨ω,ω,δ⟩,?_⟩
   have l16:(2:Int) ^ (((cI (frees w.toNat m)).length:Nat):Int).toNat<=16:=by
    rw[Int.toNat_natCast,jx]
    have:2 ^ (cI (frees w.toNat m)).length<=2 ^ 4:=Nat.pow_le_pow_right δ hl4
    omega
   have l0:=two_pow_pos (((cI (frees w.toNat m)).length:Nat):Int).toNat
   have lN:((2:Int) ^ (((cI (frees w.toNat m)).length:Nat):Int).toNat)=((2 ^ (frees w.toNat m).length:Nat):Int):=by rw[Int.toNat_natCast,cH,jx]
   generalize (2:Int) ^ (((cI (frees w.toNat m)).length:Nat):Int).toNat=N at l16 l0 lN |-
   refine ⟨ω,ω,?_⟩
   obtain ⟨Pv,hPv⟩:∃ Pv:Nat->L2.St->Hp->Prop,Pv=fun (i:Nat) σ H'=>∃ (ns:List Int) (fo:Addr) (o7 o8 o9:Option V),Same H3 H'/\H' fo=some (HO.lst (ns.map V.int))/\ns.length=2 * i/\(∀ b,b∈ns ↔ ∃ j,j < i/\(b=nOf w.toNat s (v + jk (frees w.toNat m) j)\/b=nOf w.toNat s (v + jk (frees w.toNat m) j) + 2 ^ lo)) /\
    σ=[some (V.int w),some (V.int s),some (V.int m),some (V.int v),some (V.int (lo:Nat)),some (V.ref fr),some (V.ref fo),o7,o8,o9]:=⟨_,rfl⟩
   refine vD hR Pv (by rw[hPv]; exact ⟨[],fo,none,none,none,Same.refl _,hfo2,rfl,fun b=>⟨fun z=>(by cases z),fun ⟨j,hj,_⟩=>absurd hj ω⟩,rfl⟩) ?_ ?_
   ·intro j σ H4 hj pv
    rw[hPv] at pv
    obtain ⟨ns,fo4,o7,o8,o9,s4,hfo4,hns,hmm,rfl⟩:=pv
    have hfr4:=s4 _ _ hfr2
    push_cast
    refine iU fun R2 hR2=>?_
    push_cast [xH,hfr4]
    refine ⟨⟨_,SqL.of hfr4⟩,?_⟩
    obtain ⟨Pc,hPc⟩:∃ Pv:Nat->List V->L2.St->Hp->Prop,Pv=fun (i:Nat) acc τ H'=>∃ (ns:List Int) (o1 o2:Option V),Same H4 H'/\acc=ns.map V.int/\(ns.length<=i/\ns.sum=((jk ((frees w.toNat m).take i) j:Nat):Int))/\τ=[o1,o2,some (V.int (0 + (j:Int)))]:=⟨_,rfl⟩
    refine XD hR2 (xs:=cI (frees w.toNat m)) (aP ω) Pc (by rw[hPc]; exact ⟨[],none,none,Same.refl _,rfl,⟨Nat.le_refl _,rfl⟩,rfl⟩) ?_ ?_ ?_ ?_
    ·intro i acc τ H5 pc
     rw[hPc] at pc
     obtain ⟨ns5,o1,o2,s5,rfl,⟨h5,h6⟩,rfl⟩:=pc
     rw[List.length_map]
     exact h5
    ·intro i acc τ H5 pc
     rw[hPc] at pc
     obtain ⟨ns5,o1,o2,s5,rfl,⟨h5,h6⟩,rfl⟩:=pc
     exact SqL.of (s5 _ _ hfr4)
    ·intro i x acc τ H5 t hx pc ht
     rw[hPc] at pc
     obtain ⟨ns5,o1,o2,s5,rfl,⟨h5,h6⟩,rfl⟩:=pc
     obtain ⟨pl,hpl,hpi,rfl⟩:∃ pl:Nat,pl < w.toNat/\(frees w.toNat m)[i]?=some pl/\x=V.int (pl:Nat):=by
      unfold cI at hx
      rw[List.getElem?_map] at hx
      obtain ⟨pl,hp,rfl⟩:=Option.map_eq_some_iff.mp hx
      exact ⟨pl,N8 (List.mem_of_getElem? hp),hp,rfl⟩
     have hst:=G8 (j:=j) hpi
     push_cast [Int.zero_add]
     refine ⟨ω,?_⟩
     have s6:=s5.trans (aA (o:=HO.tup [V.int (i:Nat),V.int (pl:Nat)]) ht)
     rw[Int.toNat_natCast,yo]
     cases hbi:j.testBit i with
     | true=>
      rw[hbi,if_pos rfl] at hst
      rw[if_pos rfl,if_pos rfl]
      refine ⟨⟨ω,ω,δ⟩,?_⟩
      rw[hPc]
      exact ⟨ns5 ++ [1 * 2 ^ (pl:Int).toNat],_,_,s6,by simp,⟨by simp; omega,by
       rw[List.sum_append,List.sum_singleton,h6,hst,Int.toNat_natCast,Int.one_mul,Int.natCast_add,Int.natCast_pow]; rfl⟩,by rw[Int.zero_add]⟩
     | false=>
      rw[hbi,if_neg δ] at hst
      rw[if_neg δ]
      rw[hPc]
      exact ⟨ns5,_,_,s6,rfl,⟨ω,by rw[h6,hst]; rfl⟩,by rw[Int.zero_add]⟩
    ·intro acc τ H5 d pc hd
     rw[hPc] at pc
     obtain ⟨ns5,o1,o2,s5,rfl,⟨h5,h6⟩,rfl⟩:=pc
     push_cast
     refine ⟨ns5,rfl,?_⟩
     push_cast [Int.one_mul]
     have s6:=s5.trans (aA (o:=HO.lst (ns5.map V.int)) hd)
     generalize upd H5 d (HO.lst (ns5.map V.int))=H6 at s6
     have hfo6:=s6 _ _ hfo4
     rw[cH,List.take_length] at h6
     have hj':j < 2 ^ (frees w.toNat m).length:=by omega
     have hin:=Cr hm hvm hb hlow hj'
     have hlt:=(kW hvm hm hb hlow hin).1
     have epat:(v:Int) + ns5.sum=((v + jk (frees w.toNat m) j:Nat):Int):=by rw[h6,Int.natCast_add]
     rw[epat]
     generalize hpat:v + jk (frees w.toNat m) j=pat at hlt |-
     have fin:∀ a b:Int,a=nOf w.toNat s pat->b=nOf w.toNat s pat + 2 ^ lo->2<=sizeLine/\∀ (p:Addr),H6 p=none->adq (upd H6 p (HO.lst [V.int a,V.int b]) fo4) (some (HO.lst [V.int a,V.int b])) (upd H6 p (HO.lst [V.int a,V.int b])) fun x H1=>
       Pv (j + 1) [some (V.int w),some (V.int s),some (V.int m),some (V.int v),some (V.int (lo:Nat)),some (V.ref fr),some x,some (V.int (0 + (j:Int))),some (V.int pat),some (V.int a)] H1:=by
      intro a b ha hb2
      refine ⟨aP δ,fun p hp=>?_⟩
      rw[aH (aF hfo6 hp),hfo6,zF]
      refine ⟨aP (by simp only[List.length_map,List.length_cons,List.length_nil]; omega),fun p2 hp2=>?_⟩
      rw[hPv]
      exact ⟨ns ++ [a,b],p2,_,_,_,s4.trans (s6.trans ((aA hp).trans (aA hp2))),by rw[aB]; simp,by simp only[List.length_append,List.length_cons,List.length_nil]; omega,Ux (A:=fun j=>nOf w.toNat s (v + jk (frees w.toNat m) j)) (B:=fun j=>nOf w.toNat s (v + jk (frees w.toNat m) j) + 2 ^ lo) hmm (by rw[ha,<- hpat]) (by rw[hb2,<- hpat]),rfl⟩
     refine ⟨⟨ω,ω,δ⟩,?_⟩
     split
     ·rename_i hs1
      have l1:=SN (w:=w) ω hs1 hlt
      exact ⟨ω,.inl ⟨ω,ω⟩,⟨ω,ω,δ⟩,fin _ _ l1 (by rw[l1,Int.toNat_natCast])⟩
     ·rename_i hs1
      have l1:=Mv (w:=w) (p:=pat) (show s=0 by omega)
      exact ⟨.inl ⟨ω,ω⟩,⟨ω,ω,δ⟩,fin _ _ l1 (by rw[l1,Int.toNat_natCast])⟩
   ·intro σ H4 pv
    rw[hPv] at pv
    obtain ⟨ns,fo4,o7,o8,o9,s4,hfo4,hns,hmm,rfl⟩:=pv
    show k _ _
    subst hk
    push_cast
    exact q _ _ ns hfo4 ω (XS hm hvm hb hlow (by rw[show N.toNat=2 ^ (frees w.toNat m).length by omega] at hmm; exact hmm)) (s2.trans s4)
  ·rw[if_neg hb,if_pos rfl]
   have hne:lo≠L:=fun z=>hb (by rw[z]; exact hL)
   refine ⟨Wv (i - 1),fun σ' H' z=>⟨i - 1,ω,z⟩,?_⟩
   rw[hWv]
   exact ⟨lo + 1,rfl,ω,fun i hi=>by
    rcases Nat.lt_or_ge i lo with c | c
    ·exact hlow i c
    ·rw[show i=lo by omega]
     exact Bool.eq_false_iff.mpr hb,by rw[Int.natCast_add]; rfl⟩
end
abbrev dH:List Str:=["_law_choice", "_law_width", "_law_sign", "_law_cases", "_law_least_here", "_law_many", "_law_found", "_law_items", "_law_item_here"]
abbrev bG:Stmt:=top 26
theorem cV:bJ dH ["_law_choice"] (aj bG):=⟨rfl,rfl,rfl,ψ,rfl,ψ,ψ⟩
theorem Bf:NM_ dH bG 0 "_law_choice" := .of ψ
theorem iB:NM_ dH bG 1 "_law_width" := .of ψ
theorem mV:NM_ dH bG 2 "_law_sign" := .of ψ
theorem sI:NM_ dH bG 3 "_law_cases" := .of ψ
theorem jD:NM_ dH bG 4 "_law_least_here" := .of ψ
theorem sH:NM_ dH bG 5 "_law_many" := .of ψ
theorem gm:NM_ dH bG 6 "_law_found" := .of ψ
theorem sG:NM_ dH bG 7 "_law_items" := .of ψ
theorem gj:NM_ dH bG 8 "_law_item_here" := .of ψ
theorem lM:GI_ bG "_law_bits_borders" := by decide +kernel
theorem rK:GI_ bG "_law_least" := by decide +kernel
theorem vq:GI_ bG "list" := by decide +kernel
theorem tH:GI_ bG "range" := by decide +kernel
theorem wu:GI_ bG "set" := by decide +kernel
theorem rJ:GI_ bG "sorted" := by decide +kernel
theorem Ew:Bn "_law_borders" := ⟨ψ,ψ⟩
theorem Kg {css:List (List It1)}{i:Nat}{its:List It1} (h:css[i]?=some its):((css.take (i + 1)).map List.length).sum=((css.take i).map List.length).sum + its.length:=by
 rw[List.take_add_one,h]
 simp
theorem uw:∀ (css:List (List It1)) (i:Nat),((css.take i).map List.length).sum<=(css.map List.length).sum
 | [],i=>by simp
 | c :: css,0=>by simp
 | c :: css,i + 1=>by
  have:=uw css i
  simp only[List.take_succ_cons,List.map_cons,List.sum_cons]
  omega
theorem Am {w:Nat}(h:w<=8):(2:Int) ^ w<=256:=by
 have:2 ^ w<=2 ^ 8:=Nat.pow_le_pow_right δ h
 have e:(2:Int) ^ w=((2 ^ w:Nat):Int):=by rw[Int.natCast_pow]; rfl
 omega
section
variable {P:Program}{w:World}{K:PySem.W.Frag}{mg:Str->Option Value}{base:Heap}{f:Addr}{fd:FuncData}{bs:List Str}
theorem Du (hB:∀ x:Str,x∈BLs->mg x=none) (CZLeast:Cal P w K mg base "_law_least" 1 ["_law_width", "_law_sign"] pC) (CZBitsBorders:Cal P w K mg base "_law_bits_borders" 2 ["_law_width", "_law_sign", "_law_mask_here", "_law_value"] Vc) (F:Fun K "_law_borders" "_law_borders" bG f fd):dO P w K mg base CX0 3 f fd ["_law_choice"] Fv:=by
 refine F.okq cV (fun vs H Q E h=>?_) (fun cdv A outer s H vs Q E hr h=>?_)
 ·obtain ⟨x,w,s,ok,css,rfl,_⟩:=h
  rfl
 ·obtain ⟨x,w,s,ok,css,rfl,h1,h2,hs,t,hok,hsum,q⟩:=h
  refine ⟨_,(aD (jN (ao Bf) (gW (n:=3) rfl (aY (cg iB cV.nd (.inl rfl)) (aY (cg mV cV.nd (.inl rfl)) (aY (cg sI cV.nd (.inl rfl)) eY rfl) rfl) rfl) rfl rfl) rfl rfl rfl)
   (aD (jN (d8 (ak (bD CZLeast (hr.mono δ) rK vL (ak (ao iB) (ak (ao mV) au rfl) rfl) rfl rfl) (ak (aG dF aq (ao iB)) au rfl) rfl)) (gW (n:=2) rfl (aY (cg jD cV.nd (.inl rfl)) (aY (cg sH cV.nd (.inl rfl)) eY rfl) rfl) rfl rfl) rfl rfl rfl)
   (aD (cT (aU j4 (ao iB) aq (aO _)) (aJ (aR (Rg rfl vq (hB "list" qx) tH (hB "range" eU) (ak (ao jD) (ak (aG aZ (ao jD) (ao sH)) au rfl) rfl)))) bZ)
   (aD (bQ gm cV.nd (cZ (ak (ao jD) au rfl)) rfl (.inl rfl))
   (aD (fH PassesOwn.never rfl (fO (ao sI)) (cg sG cV.nd (.inl rfl))
   (aJ (fH PassesOwn.never rfl (fO (ao sG)) (cg gj cV.nd (.inl rfl))
   (aJ (cT (aU (bV hr.bF) (bI cQ (ao gj) aq (fun _ _=>rfl)) iG (aO _)) (aJ (bQ gm cV.nd (aG aZ (ao gm) (bD CZBitsBorders (hr.mono δ) lM vM (ak (ao iB) (ak (ao mV) (ak (bI cQ (ao gj) aq (fun _ _=>rfl)) (ak (bI cQ (ao gj) aq (fun _ _=>rfl)) au rfl) rfl) rfl) rfl) rfl rfl)) rfl (.inl rfl))) (aJ (bQ gm cV.nd (aG aZ (ao gm) (cZ (ak (bI cQ (ao gj) aq (fun _ _=>rfl)) (ak (aG aZ (bI cQ (ao gj) (pK kO aq) (fun _ _=>rfl)) aq) au rfl) rfl))) rfl (.inl rfl))))) (fun _=>rfl))) (fun _=>rfl))
   (aJ (aR (Lk rfl rJ (hB "sorted" wZ) wu (hB "set" W6) (ak (jb (NX:=dH) (kX:=(aj bG).names) ["_law_border", "_law_least_here", "_law_many"] [none,some 4,some 5] rfl rfl ⟨rfl,ψ,ψ,ψ,ψ⟩ rfl (fO (ao gm)) (fun _ _ _ _ _=>(eZ 0 (show List.Nodup (["_law_border", "_law_least_here", "_law_many"]:List Str) from by decide +kernel) rfl (Or.inl rfl))) (fun _ _ _ _ _=>(uJ (aU j4 (cM 0) (aG aZ (cM 1) (cM 2)) (aO _)))) (fun _ _ _ _ _=>(cM 0))) au rfl))))))))),?_⟩
  obtain ⟨p,c,xs,rfl,op,ep,oc,ec,z,ts⟩:=iu t
  have hlen:=ts.length
  rw[List.length_map] at hlen
  have b1:=jV h1 h2 hs
  have p1:=two_pow_pos w.toNat
  have p2:=gh (k:=w.toNat) ω
  refine aM fun k hk=>?_
  push_cast [ep]
  subst hk
  refine aM fun k hk=>?_
  push_cast
  refine ⟨w,s,rfl,h1,h2,hs,?_⟩
  push_cast
  refine ⟨⟨ω,ω,δ⟩,?_⟩
  rw[Int.one_mul]
  refine ⟨aP δ,fun t2 ht2=>?_⟩
  have s2:=aA (o:=HO.tup [V.int (wl w s),V.int (2 ^ w.toNat)]) ht2
  have e2:upd H t2 (HO.tup [V.int (wl w s),V.int (2 ^ w.toNat)]) t2=_:=aB
  generalize upd H t2 (HO.tup [V.int (wl w s),V.int (2 ^ w.toNat)])=H2 at s2 e2 |-
  subst hk
  refine aM fun k hk=>?_
  push_cast
  split
  ·rename_i h9
   refine ⟨⟨ω,ω,ω,ω⟩,?_,fun p3 hp3=>?_⟩
   ·exact aP (by have:=Am (w:=w.toNat) ω; omega)
   ·refine q p3 _ ((List.range (wl w s + 2 ^ w.toNat - wl w s).toNat).map fun k=>wl w s + ((k:Nat):Int)) (s2.trans (aA hp3)) (by rw[aB,List.map_map]; rfl) ?_ Vy (QJ h9)
    rw[List.length_map,List.length_range]
    have:=Am (w:=w.toNat) ω
    omega
  rename_i h9
  subst hk
  refine aM fun k hk=>?_
  push_cast
  refine ⟨aP δ,fun fo hfo=>?_⟩
  have s3:=s2.trans (aA (o:=HO.lst [V.int (wl w s)]) hfo)
  have e3:upd H2 fo (HO.lst [V.int (wl w s)]) fo=some (.lst ([wl w s].map V.int)):=aB
  generalize upd H2 fo (HO.lst [V.int (wl w s)])=H3 at s3 e3 |-
  subst hk
  refine aM fun k hk=>?_
  refine iY fun R hR=>?_
  have ec3:=s3 _ _ ec
  push_cast [ec3]
  obtain ⟨Pv,hPv⟩:∃ Pv:Nat->L2.St->Hp->Prop,Pv=fun (i:Nat) σ H'=>∃ (ns:List Int) (fo:Addr) (o7 o8:Option V),Same H H'/\H' fo=some (.lst (ns.map V.int))/\ns.length<=1 + 32 * ((css.take i).map List.length).sum/\(∀ b,b∈ns ↔ BIn w s (css.take i) b)/\σ=[some (.ref p),some (.int w),some (.int s),some (.ref c),some (.int (wl w s)),some (.int (2 ^ w.toNat)),some (.ref fo),o7,o8]:=⟨_,rfl⟩
  refine Bu hR (xs:=xs) Pv (by rw[hPv]; exact ⟨_,_,_,_,s3,e3,by simp,JF,rfl⟩) (fun i σ H' _ pv=>?_) ?_ ?_
  ·rw[hPv] at pv
   obtain ⟨_,_,_,_,s',_⟩:=pv
   exact SqL.of (s' _ _ ec)
  ·intro i x σ H4 hx pv
   rw[hPv] at pv
   obtain ⟨ns,fo4,o7,o8,s4,e4,hn4,hb4,rfl⟩:=pv
   obtain ⟨d,hd,td⟩:=(ts.same s4).get hx
   rw[List.getElem?_map] at hd
   obtain ⟨its,hits,rfl⟩:=Option.map_eq_some_iff.mp hd
   obtain ⟨q0,us,rfl,o5,eq4,z4,ts4⟩:=jW td
   have hul:=ts4.length
   rw[List.length_map] at hul
   have hstep:=Kg hits
   have hmem:=List.mem_of_getElem? hits
   have hall:((css.take (i + 1)).map List.length).sum<=110:=Nat.le_trans (uw css (i + 1)) hsum
   push_cast
   refine iY fun R2 hR2=>?_
   push_cast [eq4]
   obtain ⟨Pw,hPw⟩:∃ Pv:Nat->L2.St->Hp->Prop,Pv=fun (j:Nat) σ H'=>∃ (ns:List Int) (fo:Addr) (o8:Option V),Same H4 H'/\H' fo=some (.lst (ns.map V.int))/\ns.length<=1 + 32 * ((css.take i).map List.length).sum + 32 * j/\(∀ b,b∈ns ↔ BIn w s (css.take i) b\/∃ it,it∈its.take j/\bdr w s b it)/\σ=[some (.ref p),some (.int w),some (.int s),some (.ref c),some (.int (wl w s)),some (.int (2 ^ w.toNat)),some (.ref fo),some (.ref q0),o8]:=⟨_,rfl⟩
   refine Bu hR2 (xs:=us) Pw (by rw[hPw]; exact ⟨_,_,_,Same.refl _,e4,ω,O9 hb4,rfl⟩) (fun i σ H' _ pv=>?_) ?_ ?_
   ·rw[hPw] at pv
    obtain ⟨_,_,_,s',_⟩:=pv
    exact SqL.of (s' _ _ eq4)
   ·intro j x σ H5 hx5 pv
    rw[hPw] at pv
    obtain ⟨ns5,fo5,o8,s5,e5,hn5,hb5,rfl⟩:=pv
    obtain ⟨d5,hd5,td5⟩:=(ts4.same s5).get hx5
    rw[List.getElem?_map] at hd5
    obtain ⟨it,hit,rfl⟩:=Option.map_eq_some_iff.mp hd5
    obtain ⟨q5,rfl,o6,⟨hi⟩⟩:=qT td5
    have hj:j < us.length:=(List.getElem?_eq_some_iff.mp hx5).1
    have hoki:=hok its hmem it (List.mem_of_getElem? hit)
    have fin:∀ (a b:Int),(∀ n,n∈[a,b] ↔ bdr w s n it)->2<=sizeLine/\∀ (pp:Addr),H5 pp=none->adq (upd H5 pp (HO.lst [V.int a,V.int b]) fo5) (some (HO.lst [V.int a,V.int b])) (upd H5 pp (HO.lst [V.int a,V.int b])) fun x H1=>
      Pw (j + 1) [some (.ref p),some (.int w),some (.int s),some (.ref c),some (.int (wl w s)),some (.int (2 ^ w.toNat)),some x,some (.ref q0),some (.ref q5)] H1:=by
     intro a b hab
     refine ⟨aP δ,fun p6 hp6=>?_⟩
     rw[aH (aF e5 hp6),e5,zF]
     refine ⟨aP (by simp only[List.length_map,List.length_cons,List.length_nil]; omega),fun p7 hp7=>?_⟩
     rw[hPw]
     exact ⟨ns5 ++ [a,b],p7,_,s5.trans ((aA hp6).trans (aA hp7)),by rw[aB]; simp,by simp only[List.length_append,List.length_cons,List.length_nil]; omega,Ck hb5 hit hab,rfl⟩
    cases it with
    | one a=>
     push_cast [hi]
     exact fin _ _ fun n=>Fi
    | rng a b=>
     push_cast [hi]
     exact fin _ _ fun n=>Fi
    | bits m v=>
     obtain ⟨k1,k2,k3⟩:=hoki
     push_cast [hi]
     refine ⟨w,s,m,v,rfl,ω,h2,hs,k1,k2,k3 ω,fun pB H6 nB eB lB bB sB=>?_⟩
     have e6:=sB _ _ e5
     push_cast [e6,eB]
     refine ⟨aP (by simp only[List.length_map]; omega),fun p7 hp7=>?_⟩
     rw[hPw]
     exact ⟨ns5 ++ nB,p7,_,s5.trans (sB.trans (aA hp7)),by rw[aB,List.map_append],by rw[List.length_append]; omega,Ck hb5 hit bB,rfl⟩
   ·intro σ H5 pv
    rw[hPw] at pv
    obtain ⟨ns5,fo5,o8,s5,e5,hn5,hb5,rfl⟩:=pv
    show Pv _ _ _
    rw[hPv]
    exact ⟨_,_,_,_,s4.trans s5,e5,ω,Pa hb5 hits hul,rfl⟩
  ·intro σ H4 pv
   rw[hPv] at pv
   obtain ⟨ns,fo4,o7,o8,s4,e4,hn4,hb4,rfl⟩:=pv
   show k _ _
   subst hk
   have hss:((css.take xs.length).map List.length).sum<=110:=Nat.le_trans (uw css _) hsum
   push_cast [Vq]
   refine iU fun R2 hR2=>?_
   push_cast [e4]
   obtain ⟨Pc,hPc⟩:∃ Pv:Nat->List V->L2.St->Hp->Prop,Pv=fun (i:Nat) acc τ H'=>∃ (us:List Int) (o1:Option V),Same H4 H'/\acc=us.map V.int/\us=(ns.take i).filter (fun b=>decide (b < wl w s + 2 ^ w.toNat))/\τ=[o1,some (.int (wl w s)),some (.int (2 ^ w.toNat))]:=⟨_,rfl⟩
   refine rR hR2 (xs:=ns.map V.int) (aP (by rw[List.length_map]; omega)) Pc (by rw[hPc]; exact ⟨[],none,Same.refl _,rfl,rfl,rfl⟩) ?_ ?_ ?_ ?_
   ·intro i9 acc τ H10 pc
    rw[hPc] at pc
    obtain ⟨us,o1,_,rfl,hus,rfl⟩:=pc
    rw[List.length_map,hus]
    exact Nat.le_trans (List.length_filter_le _ _) (List.length_take_le _ _)
   ·intro i9 acc τ H10 pc
    rw[hPc] at pc
    obtain ⟨us,o1,s10,rfl,hus,rfl⟩:=pc
    exact SqL.of (s10 _ _ e4)
   ·intro i9 x acc τ H10 hx pc
    rw[hPc] at pc
    obtain ⟨us,o1,s10,rfl,hus,rfl⟩:=pc
    rw[List.getElem?_map] at hx
    obtain ⟨n,hn,rfl⟩:=Option.map_eq_some_iff.mp hx
    have hst:(ns.take (i9 + 1)).filter (fun b=>decide (b < wl w s + 2 ^ w.toNat))=us ++ if n < wl w s + 2 ^ w.toNat then [n] else []:=by
     rw[List.take_add_one,hn,List.filter_append,<- hus]
     congr 1
     by_cases c:n < wl w s + 2 ^ w.toNat <;> simp [c]
    push_cast
    split
    ·rename_i c
     rw[if_pos c] at hst
     rw[hPc]
     exact ⟨us ++ [n],_,s10,by simp,hst.symm,rfl⟩
    ·rename_i c
     rw[if_neg c,List.append_nil] at hst
     rw[hPc]
     exact ⟨us,_,s10,rfl,hst.symm,rfl⟩
   ·intro acc τ H10 d pc hd
    rw[hPc] at pc
    obtain ⟨us,o1,s10,rfl,hus,rfl⟩:=pc
    rw[List.length_map,List.take_length] at hus
    have hul:us.length<=ns.length:=by rw[hus]; exact List.length_filter_le _ _
    rw[hlen,List.take_length] at hb4
    push_cast
    refine ⟨us,SqL.of aB,ω,fun pR ys hpR hperm hup=>?_⟩
    refine q pR _ ys (s4.trans (s10.trans ((aA hd).trans (aA hpR)))) aB ?_ hup (O3 h1 h9 hs hok hb4 (by rw[<- hus]; exact hperm))
    have:=hperm.length_eq
    have:=SRT.Gs us
    omega
abbrev dN:List Str:=["_law_tape_here", "_law_choice", "_law_width", "_law_sign", "_law_cases", "_law_made", "_law_k", "_law_items"]
abbrev bK:Stmt:=top 28
theorem dZ:bJ dN ["_law_tape_here", "_law_choice"] (aj bK):=⟨rfl,rfl,rfl,ψ,rfl,ψ,ψ⟩
theorem jc:NM_ dN bK 0 "_law_tape_here" := .of ψ
theorem yJ:NM_ dN bK 1 "_law_choice" := .of ψ
theorem pW:NM_ dN bK 2 "_law_width" := .of ψ
theorem pU:NM_ dN bK 3 "_law_sign" := .of ψ
theorem pQ:NM_ dN bK 4 "_law_cases" := .of ψ
theorem fj:NM_ dN bK 5 "_law_made" := .of ψ
theorem yI:NM_ dN bK 6 "_law_k" := .of ψ
theorem pP:NM_ dN bK 7 "_law_items" := .of ψ
theorem fB:GI_ bK "_law_take" := by decide +kernel
theorem mX:GI_ bK "enumerate" := by decide +kernel
theorem vo:GI_ bK "len" := by decide +kernel
theorem tE:GI_ bK "list" := by decide +kernel
theorem BV:Bn "_law_shadowed" := ⟨ψ,ψ⟩
theorem Sd (hB:∀ x:Str,x∈BLs->mg x=none) (CZTake:Cal P w K mg base "_law_take" 2 ["_law_tape_here", "_law_many"] (fG 2)) (F:Fun K "_law_shadowed" "_law_shadowed" bK f fd):dO P w K mg base CX0 3 f fd ["_law_tape_here", "_law_choice"] Ko:=by
 refine F.okq dZ (fun vs H Q E h=>?_) (fun cdv A outer s H vs Q E hr h=>?_)
 ·obtain ⟨p,t,B,w,s,css,rfl,_⟩:=h
  rfl
 ·obtain ⟨p,t,B,w,s,css,rfl,tp,hB0,hB1,tr,hok,hl,q⟩:=h
  refine ⟨_,(aD (jN (ao yJ) (gW (n:=3) rfl (aY (cg pW dZ.nd (.inl rfl)) (aY (cg pU dZ.nd (.inl rfl)) (aY (cg pQ dZ.nd (.inl rfl)) eY rfl) rfl) rfl) rfl rfl) rfl rfl rfl)
   (aD (bQ fj dZ.nd (cZ au) rfl (.inl rfl))
   (aD (fH PassesOwn.never rfl (tU mX (hB "enumerate" jf) (ak (ao pQ) au rfl) rfl) (gW (n:=2) rfl (aY (cg yI dZ.nd (.inl rfl)) (aY (cg pP dZ.nd (.inl rfl)) eY rfl) rfl) rfl rfl)
   (aD (jC (lg (ao fj) (FW zm tE (hB "list" qx) boot_list tZ (ak (ao pP) au rfl) rfl rfl) rfl rfl rfl rfl rfl) rfl)
   (aJ (cT (aU (bV hr.bF) (bD CZTake (hr.mono δ) fB bY (ak (ao jc) (ak aq au rfl) rfl) rfl rfl) aq (aO _)) (aJ (jC (lg (ao fj) (Ln Y9 (bI cQ (ao fj) (bD CZTake (hr.mono δ) fB bY (ak (ao jc) (ak (cG eV vo (hB "len" jQ) PySem.boot_len jT (ak (ao fj) au rfl) rfl rfl) au rfl) rfl) rfl rfl) (fun _ _=>rfl)) Rb (Ra (aG aZ aq (bD CZTake (hr.mono δ) fB bY (ak (ao jc) (ak aq au rfl) rfl) rfl rfl)))) rfl rfl rfl rfl rfl) rfl)) bZ))) (fun _=>rfl))
   (aJ (aR (d8 (ak (ao pW) (ak (ao pU) (ak (aG aZ (ao fj) (aG fP (cZ (ak (cZ au) au rfl)) (bD CZTake (hr.mono δ) fB bY (ak (ao jc) (ak aq au rfl) rfl) rfl rfl))) au rfl) rfl) rfl))))))),?_⟩
  obtain ⟨t',c,xs,e,op,ep,oc,ec,z,ts⟩:=iu tr
  cases e
  have hlen:=ts.length
  rw[List.length_map] at hlen
  refine aM fun k hk=>?_
  push_cast [ep]
  subst hk
  refine aM fun k hk=>?_
  push_cast
  refine ⟨aP δ,fun m5 hm5=>?_⟩
  have s0:=aA (o:=HO.lst []) hm5
  have e0:upd H m5 (HO.lst []) m5=some (.lst []):=aB
  have nmp:=tp.ne hm5
  have tp0:=tp.same s0
  generalize upd H m5 (HO.lst [])=H0 at s0 e0 tp0 |-
  subst hk
  refine aM fun k hk=>?_
  refine iY fun R hR=>?_
  have ec0:=s0 _ _ ec
  push_cast [xH,ec0]
  refine ⟨⟨_,SqL.of ec0⟩,?_⟩
  obtain ⟨OC,hOC⟩:∃ OC:Addr->Prop,OC=fun a=>a≠p/\a≠m5:=⟨_,rfl⟩
  obtain ⟨Pv,hPv⟩:∃ Pv:Nat->L2.St->Hp->Prop,Pv=fun (i:Nat) σ H'=>∃ (css':List (List It1)) (us:List V) (o6 o7:Option V),cN p H H'/\bA H' p (B + 6 * (i:Int))/\H' m5=some (.lst us)/\aK OC H' us (css'.map jJ)/\css'.length<=2 * i/\i<=css'.length /\
   (∀ its,its∈css'->its.length<=6/\∀ it,it∈its->It1.Ok w s it)/\(css'.map List.length).sum<=8 * i /\
   σ=[some (.ref p),some (.ref t),some (.int w),some (.int s),some (.ref c),some (.ref m5),o6,o7]:=⟨_,rfl⟩
  have add:∀ {H3:Hp} {us vs':List V} {css':List (List It1)} {its':List It1} {a:Addr} {B':Int},cN p H H3->bA H3 p B'->H3 m5=some (.lst us)->aK OC H3 us (css'.map jJ)->H3 a=some (.lst vs')->OC a->aK OC H3 vs' (its'.map itD)->vs'.length<=1000 ->
    cN p H (upd H3 m5 (.lst (us ++ [V.ref a])))/\bA (upd H3 m5 (.lst (us ++ [V.ref a]))) p B'/\upd H3 m5 (.lst (us ++ [V.ref a])) m5=some (.lst (us ++ [V.ref a]))/\aK OC (upd H3 m5 (.lst (us ++ [V.ref a]))) (us ++ [V.ref a]) ((css' ++ [its']).map jJ):=by
   intro H3 us vs' css' its' a B' sx tp' em tu ea oa tv lv
   have kk:∀ b u,OC b->H3 b=some u->OC b/\upd H3 m5 (.lst (us ++ [V.ref a])) b=some u:=fun b u hb e=>by
    refine ⟨hb,?_⟩
    rw[hOC] at hb
    rw[aH hb.2]
    exact e
   refine ⟨jY sx hm5,tp'.upd nmp,aB,?_⟩
   rw[List.map_append]
   exact (tu.keep kk).append (.cons (.lst oa (kk a _ oa ea).2 ω (tv.keep kk)) .nil)
  refine Oe hR (xs:=xs) Pv (by rw[hPv]; exact ⟨[],[],_,_,s0.x,tp0.le ω,e0,.nil,Nat.le_refl _,Nat.le_refl _,(fun its h=>by cases h),Nat.le_refl _,rfl⟩) (fun i σ H' pv=>?_) ?_ ?_
  ·rw[hPv] at pv
   obtain ⟨_,_,_,_,s',_⟩:=pv
   exact s' _ _ oc ec
  ·intro i x σ H1 p1 hx pv hp1
   rw[hPv] at pv
   obtain ⟨css',us,o6,o7,s1,tp1,em1,tu1,hl1,hl1',hok1,hsum1,rfl⟩:=pv
   obtain ⟨d,hd,td⟩:=ts.get hx
   rw[List.getElem?_map] at hd
   obtain ⟨its,hits,rfl⟩:=Option.map_eq_some_iff.mp hd
   obtain ⟨q0,vs,rfl,oq,eq,zq,tsq⟩:=jW td
   have hvl:=tsq.length
   rw[List.length_map] at hvl
   have hmem:=List.mem_of_getElem? hits
   have hi6:=hok its hmem
   have hix:i < xs.length:=(List.getElem?_eq_some_iff.mp hx).1
   have hul:=tu1.length
   rw[List.length_map] at hul
   have s2:=aA (o:=HO.tup [V.int (i:Int),V.ref q0]) hp1
   have e2:upd H1 p1 (HO.tup [V.int (i:Int),V.ref q0]) p1=_:=aB
   have s12:=s1.trans s2.x
   have tp2:=tp1.same s2
   have em2:=s2 _ _ em1
   have tu2:=tu1.same s2
   generalize upd H1 p1 (HO.tup [V.int (i:Int),V.ref q0])=H2 at e2 s12 tp2 em2 tu2 |-
   push_cast [e2,em2,nT]
   have eq2:=s12 _ _ oq eq
   refine ⟨vs,.inl (SqL.of eq2),fun a3 ha3=>?_⟩
   have s3:=aA (o:=HO.lst vs) ha3
   have e3:upd H2 a3 (HO.lst vs) a3=_:=aB
   have sx3:=s12.trans s3.x
   have tp3:=tp2.same s3
   have em3:=s3 _ _ em2
   have tu3:=tu2.same s3
   have oa3:OC a3:=by
    rw[hOC]
    exact ⟨tp2.ne ha3,(aF em2 ha3).symm⟩
   have tv3:aK OC (upd H2 a3 (HO.lst vs)) vs (its.map itD):=tsq.keep fun b u hb e=>by
    rw[hOC]
    exact ⟨⟨hb,fun z=>by rw[z,hm5] at e; cases e⟩,sx3 _ _ hb e⟩
   generalize upd H2 a3 (HO.lst vs)=H3 at e3 sx3 tp3 em3 tu3 tv3 |-
   rw[em3,qP]
   refine ⟨Nat.lt_of_lt_of_le ω (aP (Nat.le_refl 1000000)),?_⟩
   obtain ⟨sx4,tp4,em4,tu4⟩:=add sx3 tp3 em3 tu3 e3 oa3 tv3 ω
   generalize upd H3 m5 (HO.lst (us ++ [V.ref a3]))=H4 at sx4 tp4 em4 tu4 |-
   refine ⟨p,3,_,rfl,tp4,by show B + 6 * (i:Int) + 2<=1000100; omega,δ,δ,δ,fun z=>absurd z δ,fun r1 H5 r10 r11 s5 tp5=>?_⟩
   have sx5:=sx4.trans s5
   have em5:=s5 _ _ nmp em4
   have ko:∀ {H H':Hp},cN p H H'->∀ b u,OC b->H b=some u->OC b/\H' b=some u:=fun {H H'} sx b u hb e=>by
    refine ⟨hb,?_⟩
    rw[hOC] at hb
    exact sx _ _ hb.1 e
   have tu5:=tu4.keep (ko s5)
   have hok5:∀ its',its'∈css' ++ [its]->its'.length<=6/\∀ it,it∈its'->It1.Ok w s it:=fun its' hi=>by
    rcases List.mem_append.mp hi with m | m
    ·exact hok1 its' m
    ·rw[List.mem_singleton.mp m]; exact hi6
   have hsum5:((css' ++ [its]).map List.length).sum<=8 * i + 6:=by
    rw[List.map_append,List.sum_append]
    simp only[List.map_cons,List.map_nil,List.sum_cons,List.sum_nil]
    have:=hi6.1
    omega
   have hcl5:(css' ++ [its]).length=css'.length + 1:=by rw[List.length_append,List.length_singleton]
   generalize css' ++ [its]=css5 at tu5 hok5 hsum5 hcl5
   have hul5:=tu5.length
   rw[List.length_map] at hul5
   generalize us ++ [V.ref a3]=us5 at em5 tu5 hul5
   push_cast [em5,nT]
   by_cases hr1:r1=0
   ·rw[if_pos hr1]
    refine ⟨p,_,_,rfl,tp5,by show B + 6 * (i:Int) + 2 + 2<=1000100; omega,ω,ω,δ,fun z=>by omega,fun r2 H6 r20 r21 s6 tp6=>?_⟩
    have em6:=s6 _ _ nmp em5
    have tu6:=tu5.keep (ko s6)
    have hx6:us5[r2.toNat]?=some us5[r2.toNat]:=List.getElem?_eq_getElem ω
    obtain ⟨d6,hd6,td6⟩:=tu6.get hx6
    rw[List.getElem?_map] at hd6
    obtain ⟨its6,hits6,rfl⟩:=Option.map_eq_some_iff.mp hd6
    obtain ⟨q6,vs6,eq6,oq6,ev6,zv6,tv6⟩:=jW td6
    rw[eq6] at hx6
    have hat6:atI us5 r2=some (V.ref q6):=atV r20 hx6
    push_cast [em6,hat6]
    refine ⟨p,2,_,rfl,tp6,by show B + 6 * (i:Int) + 2 + 2 + 2<=1000100; omega,δ,δ,δ,fun z=>absurd z δ,fun r3 H7 r30 r31 s7 tp7=>?_⟩
    have sx7:=(sx5.trans s6).trans s7
    have em7:=s7 _ _ nmp em6
    have tu7:=tu6.keep (ko s7)
    have ev7:=(ko s7 _ _ oq6 ev6).2
    have tv7:=tv6.keep (ko s7)
    push_cast [ev7]
    intro a8 ha8
    rw[Oz vs6 ω]
    have hi6':=hok5 its6 (List.mem_of_getElem? hits6)
    have s8:=aA (o:=HO.lst (vs6.take (1 + r3).toNat)) ha8
    have e8:upd H7 a8 (HO.lst (vs6.take (1 + r3).toNat)) a8=_:=aB
    have sx8:=sx7.trans s8.x
    have tp8:=tp7.same s8
    have em8:=s8 _ _ em7
    have tu8:=tu7.same s8
    have oa8:OC a8:=by
     rw[hOC]
     exact ⟨tp7.ne ha8,(aF em7 ha8).symm⟩
    have tv8:aK OC (upd H7 a8 (HO.lst (vs6.take (1 + r3).toNat))) (vs6.take (1 + r3).toNat) ((its6.take (1 + r3).toNat).map itD):=by
     rw[List.map_take]
     exact (tv7.take _).same s8
    generalize upd H7 a8 (HO.lst (vs6.take (1 + r3).toNat))=H8 at e8 sx8 tp8 em8 tu8 tv8 |-
    rw[em8,qP]
    refine ⟨Nat.lt_of_lt_of_le ω (aP (Nat.le_refl 1000000)),?_⟩
    obtain ⟨sx9,tp9,em9,tu9⟩:=add sx8 tp8 em8 tu8 e8 oa8 tv8 (by rw[List.length_take]; omega)
    rw[hPv]
    refine ⟨css5 ++ [its6.take (1 + r3).toNat],_,_,_,sx9,tp9.le ω,em9,tu9,by rw[List.length_append,List.length_singleton]; omega,by rw[List.length_append,List.length_singleton]; omega,fun its' hi=>?_,?_,rfl⟩
    ·rcases List.mem_append.mp hi with m | m
     ·exact hok5 its' m
     ·rw[List.mem_singleton.mp m]
      exact ⟨by rw[List.length_take]; omega,fun it m=>hi6'.2 it (List.mem_of_mem_take m)⟩
    ·rw[List.map_append,List.sum_append]
     simp only[List.map_cons,List.map_nil,List.sum_cons,List.sum_nil,List.length_take]
     omega
   ·rw[if_neg hr1]
    rw[hPv]
    exact ⟨css5,us5,_,_,sx5,tp5.le ω,em5,tu5,ω,ω,hok5,ω,rfl⟩
  ·intro σ H1 pv
   rw[hPv] at pv
   obtain ⟨css',us,o6,o7,s1,tp1,em1,tu1,hl1,hl1',hok1,hsum1,rfl⟩:=pv
   show k _ _
   subst hk
   push_cast
   have hul:=tu1.length
   rw[List.length_map] at hul
   refine ⟨Nat.zero_le _,fun e2 he2=>⟨aP δ,fun e3 he3=>?_⟩⟩
   have s2:=aA (o:=HO.lst []) he2
   have s3:=s2.trans (aA (o:=HO.lst [V.ref e2]) he3)
   have ee3:upd (upd H1 e2 (HO.lst [])) e3 (HO.lst [V.ref e2]) e3=_:=aB
   have ee2:upd (upd H1 e2 (HO.lst [])) e3 (HO.lst [V.ref e2]) e2=some (.lst []):=aA he3 _ _ aB
   have np2:=tp1.ne he2
   have np3:=(tp1.same s2).ne he3
   generalize upd (upd H1 e2 (HO.lst [])) e3 (HO.lst [V.ref e2])=H3 at s3 ee3 ee2 |-
   refine ⟨p,2,_,rfl,tp1.same s3,ω,δ,δ,δ,fun z=>absurd z δ,fun r1 H4 r10 r11 s4 tp4=>?_⟩
   have ee4:=s4 _ _ np3 ee3
   have ee42:=s4 _ _ np2 ee2
   have em4:=s4 _ _ nmp (s3 _ _ em1)
   push_cast [ee4,FJ]
   have hrep:∀ n:Nat,(List.replicate n [V.ref e2]).flatten=List.replicate n (V.ref e2):=fun n=>by
    induction n with
    | zero=>rfl
    | succ n ih=>rw[List.replicate_succ,List.flatten_cons,ih]; rfl
   refine ⟨ω,ω,aP ω,fun a5 ha5=>?_⟩
   rw[hrep]
   have s5:=aA (o:=HO.lst (List.replicate r1.toNat (V.ref e2))) ha5
   have e5:upd H4 a5 (HO.lst (List.replicate r1.toNat (V.ref e2))) a5=_:=aB
   have em5:=s5 _ _ em4
   have ee5:=s5 _ _ ee42
   have tp5:=tp4.same s5
   generalize upd H4 a5 (HO.lst (List.replicate r1.toNat (V.ref e2)))=H5 at s5 e5 em5 ee5 tp5 |-
   push_cast [em5,e5]
   refine ⟨aP (by rw[List.length_replicate]; omega),fun a6 ha6=>⟨aP δ,fun t7 ht7=>?_⟩⟩
   have s6:=aA (o:=HO.lst (us ++ List.replicate r1.toNat (V.ref e2))) ha6
   have s7:=s6.trans (aA (o:=HO.tup [V.int w,V.int s,V.ref a6]) ht7)
   have e6:upd (upd H5 a6 (HO.lst (us ++ List.replicate r1.toNat (V.ref e2)))) t7 (HO.tup [V.int w,V.int s,V.ref a6]) a6=some (.lst (us ++ List.replicate r1.toNat (V.ref e2))):=aA ht7 _ _ aB
   have e7:upd (upd H5 a6 (HO.lst (us ++ List.replicate r1.toNat (V.ref e2)))) t7 (HO.tup [V.int w,V.int s,V.ref a6]) t7=_:=aB
   have np6:=tp5.ne ha6
   have np7:=(tp5.same s6).ne ht7
   generalize upd (upd H5 a6 (HO.lst (us ++ List.replicate r1.toNat (V.ref e2)))) t7 (HO.tup [V.int w,V.int s,V.ref a6])=H7 at s7 e6 e7 |-
   have sx:cN p H1 H7:=((s3.x (p:=p)).trans s4).trans (s5.trans s7).x
   have tu7:aK (·≠p) H7 us (css'.map jJ):=tu1.keep fun b u hb e=>by
    rw[hOC] at hb
    exact ⟨hb.1,sx _ _ hb.1 e⟩
   have te:∀ n:Nat,aK (·≠p) H7 (List.replicate n (V.ref e2)) ((List.replicate n ([]:List It1)).map jJ):=fun n=>by
    induction n with
    | zero=>exact .nil
    | succ n ih=>
     rw[List.replicate_succ,List.replicate_succ,List.map_cons]
     exact .cons (.lst np2 (s7 _ _ ee5) (Nat.zero_le _) .nil) ih
   refine q t7 (css' ++ List.replicate r1.toNat []) H7 (s1.trans sx) ((tp5.same s7).le ω) (.tup np7 e7 (by show 3<=1000000; decide) (.cons (.int _) (.cons (.int _) (.cons (.lst np6 e6 (by rw[List.length_append,List.length_replicate]; omega) ?_) .nil)))) (fun its' hi=>?_) (by rw[List.length_append,List.length_replicate]; omega) ?_
   ·rw[List.map_append]
    exact tu7.append (te _)
   ·rcases List.mem_append.mp hi with m | m
    ·exact hok1 its' m
    ·rw[List.eq_of_mem_replicate m]
     exact ⟨Nat.zero_le _,fun it m=>by cases m⟩
   ·rw[List.map_append,List.sum_append,List.map_replicate]
    simp
    omega
abbrev rY:List Str:=["_law_script", "_law_k", "_law_tape_here", "_law_wild", "_law_choice", "_law_kept", "_law_alive", "_law_due", "_law_turn", "_law_found"]
abbrev fK:Stmt:=top 29
theorem n8:bJ rY ["_law_script"] (aj fK):=⟨rfl,rfl,rfl,ψ,rfl,ψ,ψ⟩
theorem MJ:NM_ rY fK 0 "_law_script" := .of ψ
theorem MF:NM_ rY fK 1 "_law_k" := .of ψ
theorem DK:NM_ rY fK 2 "_law_tape_here" := .of ψ
theorem DG:NM_ rY fK 3 "_law_wild" := .of ψ
theorem rC:NM_ rY fK 4 "_law_choice" := .of ψ
theorem Mz:NM_ rY fK 5 "_law_kept" := .of ψ
theorem WX:NM_ rY fK 6 "_law_alive" := .of ψ
theorem Mx:NM_ rY fK 7 "_law_due" := .of ψ
theorem WW:NM_ rY fK 8 "_law_turn" := .of ψ
theorem Dz:NM_ rY fK 9 "_law_found" := .of ψ
theorem wz:GI_ fK "_law_borders" := by decide +kernel
theorem El:GI_ fK "_law_same" := by decide +kernel
theorem vy:GI_ fK "_law_shadowed" := by decide +kernel
theorem Ek:GI_ fK "_law_tape" := by decide +kernel
theorem rN:GI_ fK "_law_wild_choice" := by decide +kernel
theorem vz:GI_ fK "dead_cases" := by decide +kernel
theorem Jf:GI_ fK "dict" := by decide +kernel
theorem Br:GI_ fK "len" := by decide +kernel
theorem N5:GI_ fK "min" := by decide +kernel
theorem oO:GI_ fK "range" := by decide +kernel
theorem xJ:GI_ fK "repr" := by decide +kernel
def Ft (K:PySem.W.Frag):Sp:=fun vs H Q _=>∃ (a:Addr) (ns:List Int),vs=[.ref a]/\SqL K H a (ns.map V.int)/\ns.length<=63/\∀ H',Q (.bl true) H'
theorem Dc {w s:Int}{css:List (List It1)}(h1:1<=w) (h2:w<=40) (hs:s=0\/s=1) (hok:∀ its∈css,its.length<=6/\∀ it∈its,it.Ok w s) (hl:css.length<=25):Shw (ig w s css):=by
 have b:Bd (1 + 25 * (1 + 6 * 4)) 3 (.list (css.map jJ)):=GJ (fun d hd=>by
  obtain ⟨its,hi,rfl⟩:=List.mem_map.mp hd
  exact Uw h1 h2 hs (hok its hi).2 (hok its hi).1) (by rw[List.length_map]; exact hl)
 exact ((Ph h1 h2 hs b δ).tell δ δ).shw
theorem Vu {css:List (List It1)}{m:Nat}(h:∀ its∈css,its.length<=m):(css.map List.length).sum<=css.length * m:=by
 induction css with
 | nil=>simp
 | cons c css ih=>
  have h1:=h c (List.mem_cons_self ..)
  have h2:=ih fun its hi=>h its (List.mem_cons_of_mem _ hi)
  simp only[List.map_cons,List.sum_cons,List.length_cons]
  rw[Nat.succ_mul]
  omega
theorem rF {H:Hp}:∀ (ds:List Nat),aK (fun _=>True) H (cI ds) (ds.map fun k:Nat=>PyData.int (k:Int))
 | []=>.nil
 | d :: ds=>.cons (.int _) (rF ds)
theorem Eb (ds:List Nat):(PyData.list (ds.map fun k:Nat=>PyData.int (k:Int))).depth < 4:=by
 have:∀ ds:List Nat,PyData.depthAll (ds.map fun k:Nat=>PyData.int (k:Int))<=1:=fun ds=>by
  induction ds with
  | nil=>simp [PyData.depthAll]
  | cons d ds ih=>simp [PyData.depthAll,PyData.depth] at ih |-; omega
 have:=this ds
 simp [PyData.depth]
 omega
theorem WL (hB:∀ x:Str,x∈BLs->mg x=none) (CDeadCases:Cal P w K mg base "dead_cases" 6 ["choice"] Ku) (CZTape:Cal P w K mg base "_law_tape" 2 ["_law_script", "_law_k"] (Km K))
  (CZWildChoice:Cal P w K mg base "_law_wild_choice" 5 ["_law_tape_here"] Kl) (CZShadowed:Cal P w K mg base "_law_shadowed" 3 ["_law_tape_here", "_law_choice"] Ko) (CZBorders:Cal P w K mg base "_law_borders" 3 ["_law_choice"] Fv) (CZLabel:Cal P w K mg base "_law_label" 3 ["_law_choice", "_law_number_here"] zZ) (CZSame:Cal P w K mg base "_law_same" 4 ["_law_found", "_law_due"] (pA 4))
  (F:Fun K "law" "law" fK f fd):dO P w K mg base CX0 63 f fd ["_law_script"] (Ft K):=by
 refine F.okq n8 (fun vs H Q E h=>?_) (fun cdv A outer s H vs Q E hr h=>?_)
 ·obtain ⟨a,ns,rfl,_⟩:=h
  rfl
 ·obtain ⟨a,ns,rfl,hS,h63,q⟩:=h
  refine ⟨_,(aD (fH PassesOwn.never rfl (eX oO (hB "range" eU) (ak (aG aZ aq (cG (rT rfl) N5 (hB "min" DQ) boot_min Eu (ak aq (ak (cG jj Br (hB "len" jQ) PySem.boot_len jT (ak (ao MJ) au rfl) rfl rfl) au rfl) rfl) rfl rfl)) au rfl) rfl) (cg MF n8.nd (.inl rfl))
   (aD (bQ DK n8.nd (bD CZTape (hr.mono δ) Ek Um (ak (ao MJ) (ak (ao MF) au rfl) rfl) rfl rfl) rfl (.inl rfl))
   (aD (bQ DG n8.nd (bD CZWildChoice (hr.mono δ) rN wB (ak (ao DK) au rfl) rfl rfl) rfl (.inl rfl))
   (aJ (fH PassesOwn.never rfl (fO (d8 (ak (ao DG) (ak (bD CZShadowed (hr.mono δ) vy BV (ak (ao DK) (ak (ao DG) au rfl) rfl) rfl rfl) au rfl) rfl))) (cg rC n8.nd (.inl rfl))
   (aD (bQ Mz n8.nd (cG (vJ hr.gd hr.U4) xJ (hB "repr" Gg) boot_repr GC (ak (ao rC) au rfl) rfl rfl) rfl (.inl rfl))
   (aD (bQ WX n8.nd (Ri rfl Jf (hB "dict" SX) (ak (jb (NX:=rY) (kX:=(aj fK).names) ["_law_border", "_law_choice"] [none,some 4] rfl rfl ⟨rfl,ψ,ψ,ψ,ψ⟩ rfl (fO (bD CZBorders (hr.mono δ) wz Ew (ak (ao rC) au rfl) rfl rfl)) (fun _ _ _ _ _=>(eZ 0 (show List.Nodup (["_law_border", "_law_choice"]:List Str) from by decide +kernel) rfl (Or.inl rfl))) (fun _ _ _ _ _=>rm) (fun _ _ _ _ _=>(d8 (ak (bD CZLabel (hr.mono δ) rfl O7 (ak (cM 1) (ak (cM 0) au rfl) rfl) rfl rfl) (ak uH au rfl) rfl)))) au rfl)) rfl (.inl rfl))
   (aD (FQ (NX:=rY) (kX:=(aj fK).names) ["_law_case", "_law_alive"] [none,some 6] Mx n8.nd rfl rfl ⟨rfl,ψ,ψ,ψ,ψ⟩ rfl (eX oO (hB "range" eU) (ak (cG eV Br (hB "len" jQ) PySem.boot_len jT (ak (bI cQ (ao rC) aq (fun _ _=>rfl)) au rfl) rfl rfl) au rfl) rfl) (fun _ _ _ _ _=>(eZ 0 (show List.Nodup (["_law_case", "_law_alive"]:List Str) from by decide +kernel) rfl (Or.inl rfl))) (fun _ _ _ _ _=>(uJ (aU (HW hr.Vk) (cM 0) (cM 1) (by with_unfolding_all rfl)))) (fun _ _ _ _ _=>(cM 0)))
   (aJ (fH PassesOwn.never rfl (eX oO (hB "range" eU) (ak aq au rfl) rfl) (cg WW n8.nd (.inl rfl))
   (aD (bQ Dz n8.nd (bD CDeadCases (hr.mono δ) vz Cd (ak (ao rC) au rfl) rfl rfl) rfl (.inl rfl))
   (aD (cT (v9 (uF (VR (kZ (bD CZSame (hr.mono δ) El GD (ak (ao Dz) (ak (ao Mx) au rfl) rfl) rfl rfl) (fun _=>rfl))) (qZ (aU (lq hr.bF) (cG (vJ hr.gd hr.U4) xJ (hB "repr" Gg) boot_repr GC (ak (ao rC) au rfl) rfl rfl) (ao Mz) (aO _))))) (aJ (aR uH)) bZ)
   (aJ (jC (lg (ao Dz) aq rfl rfl rfl rfl rfl) rfl)))) (fun _=>rfl)))))) (fun _=>rfl))))) (fun _=>rfl))
   (aJ (aR uH))),?_⟩
  refine aM fun k hk=>?_
  refine iY fun R hR=>?_
  push_cast [lZ]
  refine ⟨_,.inl hS,?_⟩
  rw[List.length_map]
  have m6:(0:Int)<=1 + (if (ns.length:Int) < 2 then (ns.length:Int) else 2)/\1 + (if (ns.length:Int) < 2 then (ns.length:Int) else 2)<=7:=by
   split <;> omega
  refine ⟨ω,ω,?_⟩
  obtain ⟨Pv,hPv⟩:∃ Pv:Nat->L2.St->Hp->Prop,Pv=fun (i:Nat) σ H'=>Same H H'/\∃ o1 o2 o3 o4 o5 o6 o7 o8 o9,σ=[some (.ref a),o1,o2,o3,o4,o5,o6,o7,o8,o9]:=⟨_,rfl⟩
  refine vD hR Pv (by rw[hPv]; exact ⟨Same.refl _,none,none,none,none,none,none,none,none,none,rfl⟩) ?_ ?_
  ·intro i σ H1 hi pv
   rw[hPv] at pv
   obtain ⟨s1,o1,o2,o3,o4,o5,o6,o7,o8,o9,rfl⟩:=pv
   refine aM fun k2 hk2=>?_
   push_cast
   refine ⟨a,ns,(0:Int) + (i:Int),rfl,s1.seq hS,ω,ω,fun p H2 hp s2 tp=>?_⟩
   push_cast
   subst hk2
   have hp0:H p=none:=none_of s1 hp
   refine aM fun k2 hk2=>?_
   push_cast
   refine ⟨p,0,rfl,tp,δ,δ,fun w s t1 css1 H3 h1 h2 hs s3 tp3 tr3 hok3 hl3=>?_⟩
   push_cast
   subst hk2
   refine iY fun R2 hR2=>?_
   push_cast
   refine ⟨p,t1,0 + 6000,w,s,css1,rfl,tp3,δ,δ,tr3,hok3,hl3,fun t3 css3 H5 s5 tp5 tr5 hok5 hl5 hsum5=>?_⟩
   have sx5:cN p H H5:=(((s1.trans s2).x (p:=p)).trans s3).trans s5
   refine ⟨aP δ,fun pT hpT=>?_⟩
   have all:∀ x,x∈[V.ref t1,V.ref t3]->∃ css,aX (·≠p) H5 x (ig w s css)/\(∀ its,its∈css->its.length<=6/\∀ it,it∈its->It1.Ok w s it)/\css.length<=25/\(css.map List.length).sum<=110:=by
    intro x hx
    simp only[List.mem_cons,List.not_mem_nil,or_false] at hx
    rcases hx with rfl | rfl
    ·refine ⟨css1,tr3.Yd s5,hok3,ω,?_⟩
     have:=Vu fun its hi=>(hok3 its hi).1
     omega
    ·exact ⟨css3,tr5,hok5,hl5,hsum5⟩
   have sT:=aA (o:=HO.tup [V.ref t1,V.ref t3]) hpT
   have eT:upd H5 pT (HO.tup [V.ref t1,V.ref t3]) pT=_:=aB
   generalize upd H5 pT (HO.tup [V.ref t1,V.ref t3])=H6 at sT eT |-
   obtain ⟨Pw,hPw⟩:∃ Pv:Nat->L2.St->Hp->Prop,Pv=fun (j:Nat) σ H'=>∃ o4 o5 o6 o7 o8 o9,Same H6 H'/\σ=[some (.ref a),some (.int (0 + (i:Int))),some (.ref p),some (.ref t1),o4,o5,o6,o7,o8,o9]:=⟨_,rfl⟩
   refine YQ hR2 (xs:=[V.ref t1,V.ref t3]) Pw (by rw[hPw]; exact ⟨_,_,_,_,_,_,Same.refl _,rfl⟩) (fun j σ H' pv=>?_) ?_ ?_
   ·rw[hPw] at pv
    obtain ⟨_,_,_,_,_,_,s',_⟩:=pv
    exact s' _ _ eT
   ·intro j x σ H7 hx pv
    rw[hPw] at pv
    obtain ⟨o4',o5',o6',o7',o8',o9',s7,rfl⟩:=pv
    obtain ⟨css,tr,hok,hl,hsum⟩:=all x (List.mem_of_getElem? hx)
    have shw:=Dc h1 h2 hs hok hl
    have hoks:∀ its,its∈css->∀ it,it∈its->It1.Ok w s it:=fun its hi=>(hok its hi).2
    have tr7:=tr.same (sT.trans s7)
    refine aM fun k3 hk3=>?_
    push_cast
    refine ⟨_,_,_,rfl,tr7,shw,?_⟩
    subst hk3
    refine aM fun k3 hk3=>?_
    push_cast [J9]
    refine iU fun R3 hR3=>?_
    push_cast
    refine ⟨_,w,s,_,css,rfl,h1,h2,hs,tr7,hoks,hsum,fun pB H8 bs s8 eB lB hup hbs=>?_⟩
    push_cast [eB]
    have tr8:=tr7.same s8
    obtain ⟨Pe,hPe⟩:∃ Pv:Nat->List V->L2.St->Hp->Prop,Pv=fun (l:Nat) acc τ H'=>∃ (ads:List Addr) (o1:Option V),Same H8 H'/\acc=ads.map V.ref/\ads.length=l/\(∀ (j:Nat) a b,ads[j]?=some a->bs[j]?=some b->H' a=some (.tup [.int ((jq w b css:Nat):Int),.bl true]))/\τ=[o1,some x]:=⟨_,rfl⟩
    refine rR hR3 (xs:=bs.map V.int) (aP (by rw[List.length_map]; omega)) Pe (by rw[hPe]; exact ⟨[],none,Same.refl _,rfl,rfl,(fun j a b h=>by cases h),rfl⟩) ?_ ?_ ?_ ?_
    ·intro l acc τ H9 pc
     rw[hPe] at pc
     obtain ⟨ads,o1,s9,rfl,hla,hads,rfl⟩:=pc
     rw[List.length_map,hla]
     exact Nat.le_refl _
    ·intro l acc τ H9 pc
     rw[hPe] at pc
     obtain ⟨ads,o1,s9,rfl,hla,hads,rfl⟩:=pc
     exact SqL.of (s9 _ _ eB)
    ·intro l y acc τ H9 hy pc
     rw[hPe] at pc
     obtain ⟨ads,o1,s9,rfl,hla,hads,rfl⟩:=pc
     rw[List.getElem?_map] at hy
     obtain ⟨n,hn,rfl⟩:=Option.map_eq_some_iff.mp hy
     push_cast
     refine ⟨_,n,w,s,_,css,rfl,h1,h2,tr8.same s9,fun H10 s10=>?_⟩
     refine ⟨aP δ,fun a6 ha6=>?_⟩
     rw[hPe]
     refine ⟨ads ++ [a6],_,s9.trans (s10.trans (aA ha6)),by simp,by rw[List.length_append,List.length_singleton,hla],fun j a b hj hb=>?_,rfl⟩
     rcases Nat.lt_or_ge j ads.length with c | c
     ·rw[List.getElem?_append_left c] at hj
      exact aA ha6 _ _ (s10 _ _ (hads j a b hj hb))
     ·have hj':=(List.getElem?_eq_some_iff.mp hj).1
      rw[List.length_append,List.length_singleton] at hj'
      have ej:j=ads.length:=by omega
      subst ej
      rw[List.getElem?_append_right (Nat.le_refl _),Nat.sub_self] at hj
      cases hj
      rw[hla,hn] at hb
      cases hb
      exact aB
    ·intro acc τ H9 d9 pc hd9
     rw[hPe] at pc
     obtain ⟨ads,o1,s9,rfl,hla,hads,rfl⟩:=pc
     rw[List.length_map] at hla
     have s10:=s8.trans (s9.trans (aA (o:=HO.lst (ads.map V.ref)) hd9))
     have e10:upd H9 d9 (HO.lst (ads.map V.ref)) d9=_:=aB
     have hads10:∀ (j:Nat) a b,ads[j]?=some a->bs[j]?=some b->upd H9 d9 (HO.lst (ads.map V.ref)) a=some (.tup [.int ((jq w b css:Nat):Int),.bl true]):=fun j a b h1 h2=>aA hd9 _ _ (hads j a b h1 h2)
     generalize upd H9 d9 (HO.lst (ads.map V.ref))=H10 at s10 e10 hads10 |-
     refine ⟨d9,rfl,(bs.map fun b=>((jq w b css:Nat):Int)).map fun b=>((Sum.inl b:Key),V.bl true),ads,e10,by rw[List.length_map,List.length_map,hla],fun j a kv hj hkv=>?_,by rw[List.length_map,List.length_map]; exact aP ω,fun pd hpd=>?_⟩
     ·rw[List.getElem?_map,List.getElem?_map] at hkv
      obtain ⟨b',hb',rfl⟩:=Option.map_eq_some_iff.mp hkv
      obtain ⟨b,hb,rfl⟩:=Option.map_eq_some_iff.mp hb'
      exact hads10 j a b hj hb
     have s11:=s10.trans (aA (o:=HO.dK (DY w css bs)) hpd)
     have ed:upd H10 pd (HO.dK (DY w css bs)) pd=some (.dK (DY w css bs)):=aB
     show k3 _ (upd H10 pd (HO.dK (DY w css bs)))
     generalize upd H10 pd (HO.dK (DY w css bs))=H11 at s11 ed |-
     have tr11:=tr7.same s11
     obtain ⟨t',c,xs,e,op,ep,oc,ec,z,ts⟩:=iu tr11
     have hlen:=ts.length
     rw[List.length_map] at hlen
     subst hk3
     subst e
     refine aM fun k3 hk3=>?_
     push_cast
     refine iU fun R4 hR4=>?_
     push_cast [lZ,ep,ec]
     refine ⟨ω,ω,?_⟩
     obtain ⟨Pc,hPc⟩:∃ Pv:Nat->List V->L2.St->Hp->Prop,Pv=fun (l:Nat) acc τ H'=>∃ (o1:Option V),H'=H11/\acc=cI (deadL w s css l)/\τ=[o1,some (.ref pd)]:=⟨_,rfl⟩
     refine Eo hR4 (aP ω) Pc (by rw[hPc]; exact ⟨none,rfl,rfl,rfl⟩) ?_ ?_ ?_
     ·intro l acc τ H12 pc
      rw[hPc] at pc
      obtain ⟨o1,rfl,rfl,rfl⟩:=pc
      rw[cH]
      exact rP
     ·intro l acc τ H12 hl12 pc
      rw[hPc] at pc
      obtain ⟨o1,rfl,rfl,rfl⟩:=pc
      rw[Int.zero_add]
      push_cast [FN]
      refine ⟨_,Qa.k (k:=(Sum.inl (l:Int):Key)) ed,?_⟩
      rw[IV h1 hs hoks hbs]
      have hst:=vH (w:=w) (s:=s) (css:=css) (i:=l)
      cases hdb:deadB w s css l with
      | true=>
       rw[hdb,if_pos rfl] at hst
       push_cast
       rw[hPc]
       exact ⟨_,rfl,by rw[hst]; simp [cI],rfl⟩
      | false=>
       rw[hdb,if_neg δ,List.append_nil] at hst
       push_cast
       rw[hPc]
       exact ⟨_,rfl,by rw[hst],rfl⟩
     ·intro acc τ H12 du pc hdu
      rw[hPc] at pc
      obtain ⟨o1,rfl,rfl,rfl⟩:=pc
      rw[Int.toNat_natCast,hlen]
      have s13:=aA (o:=HO.lst (cI (deadL w s css css.length))) hdu
      have e13:upd H12 du (HO.lst (cI (deadL w s css css.length))) du=_:=aB
      have tr13:=tr11.same s13
      have s713:=s11.trans s13
      generalize upd H12 du (HO.lst (cI (deadL w s css css.length)))=H13 at e13 tr13 s713 |-
      have ld:=rP (w:=w) (s:=s) (css:=css) (i:=css.length)
      subst hk3
      refine iY fun R5 hR5=>?_
      push_cast [lZ]
      refine ⟨δ,δ,?_⟩
      obtain ⟨Px,hPx⟩:∃ Pv:Nat->L2.St->Hp->Prop,Pv=fun (j:Nat) σ H'=>∃ o8 o9,Same H13 H'/\σ=[some (.ref a),some (.int (0 + (i:Int))),some (.ref p),some (.ref t1),some (.ref t'),some (V.str (ig w s css).shown),some (.ref pd),some (.ref du),o8,o9]:=⟨_,rfl⟩
      refine vD hR5 Px (by rw[hPx]; exact ⟨_,_,Same.refl _,rfl⟩) ?_ ?_
      ·intro l σ H14 hl14 pv
       rw[hPx] at pv
       obtain ⟨o8'',o9'',s14,rfl⟩:=pv
       have tr14:=tr13.same s14
       refine aM fun k4 hk4=>?_
       push_cast
       refine ⟨_,w,s,_,css,rfl,h1,h2,hs,tr14,hoks,hsum,fun r H15 s15 hr15 e15=>?_⟩
       push_cast
       subst hk4
       have e13':=s15 _ _ (s14 _ _ e13)
       refine aM fun k4 hk4=>?_
       push_cast
       refine ⟨_,_,fun _=>True,.list ((deadL w s css css.length).map fun k:Nat=>PyData.int (k:Int)),rfl,.lst trivial e15 (by rw[cH]; omega) (rF _),.lst trivial e13' (by rw[cH]; omega) (rF _),Eb _,fun H16 s16=>?_⟩
       push_cast
       refine ⟨_,_,_,rfl,tr14.same (s15.trans s16),shw,?_⟩
       push_cast
       subst hk4
       have e16:=s16 _ _ e15
       push_cast [e16,nT]
       refine ⟨Nat.lt_of_lt_of_le (show (cI (deadL w s css css.length)).length < 1000000 by rw[cH]; omega) (aP (Nat.le_refl 1000000)),?_⟩
       rw[hPx]
       refine ⟨_,_,fun b u hb=>?_,rfl⟩
       rw[aH (fun z=>by rw[z,none_of s14 hr15] at hb; cases hb)]
       exact (s14.trans (s15.trans s16)) _ _ hb
      ·intro σ H14 pv
       rw[hPx] at pv
       obtain ⟨o8'',o9'',s14,rfl⟩:=pv
       show Pw _ _ _
       rw[hPw]
       exact ⟨_,_,_,_,_,_,s7.trans (s713.trans s14),rfl⟩
   ·intro σ H7 pv
    rw[hPw] at pv
    obtain ⟨o4',o5',o6',o7',o8',o9',s7,rfl⟩:=pv
    show Pv _ _ _
    rw[hPv]
    exact ⟨QD (sx5.trans (sT.trans s7).x) hp0,_,_,_,_,_,_,_,_,_,rfl⟩
  ·intro σ H1 pv
   rw[hPv] at pv
   obtain ⟨s1,o1,o2,o3,o4,o5,o6,o7,o8,o9,rfl⟩:=pv
   show k _ _
   subst hk
   exact q _
end
theorem all_mk {l:PySem.W.OpenLaw}{w:World}{K:PySem.W.Frag}{h:Heap}{mg:Str->Option Value}{fa:Addr}{f1:Addr}{od1 an1:Option Addr}{sl1:Array (Option Value)}{oc1 kV1 dc1 pm1 cd1 ct1:Value}{f2:Addr}{od2 an2:Option Addr}{sl2:Array (Option Value)}{oc2 kV2 dc2 pm2 cd2 ct2:Value}{f3:Addr}{od3 an3:Option Addr}{sl3:Array (Option Value)}{oc3 kV3 dc3 pm3 cd3 ct3:Value}{f4:Addr}{od4 an4:Option Addr}{sl4:Array (Option Value)}{oc4 kV4 dc4 pm4 cd4 ct4:Value}{f5:Addr}{od5 an5:Option Addr}{sl5:Array (Option Value)}{oc5 kV5 dc5 pm5 cd5 ct5:Value}{f6:Addr}{od6 an6:Option Addr}{sl6:Array (Option Value)}{oc6 kV6 dc6 pm6 cd6 ct6:Value}{f7:Addr}{od7 an7:Option Addr}{sl7:Array (Option Value)}{oc7 kV7 dc7 pm7 cd7 ct7:Value}{f8:Addr}{od8 an8:Option Addr}{sl8:Array (Option Value)}{oc8 kV8 dc8 pm8 cd8 ct8:Value}{f9:Addr}{od9 an9:Option Addr}{sl9:Array (Option Value)}{oc9 kV9 dc9 pm9 cd9 ct9:Value}{f10:Addr}{od10 an10:Option Addr}{sl10:Array (Option Value)}{oc10 kV10 dc10 pm10 cd10 ct10:Value}{f11:Addr}{od11 an11:Option Addr}{sl11:Array (Option Value)}{oc11 kV11 dc11 pm11 cd11 ct11:Value}{f12:Addr}{od12 an12:Option Addr}{sl12:Array (Option Value)}{oc12 kV12 dc12 pm12 cd12 ct12:Value}{f13:Addr}{od13 an13:Option Addr}{sl13:Array (Option Value)}{oc13 kV13 dc13 pm13 cd13 ct13:Value}{f14:Addr}{od14 an14:Option Addr}{sl14:Array (Option Value)}{oc14 kV14 dc14 pm14 cd14 ct14:Value}{f15:Addr}{od15 an15:Option Addr}{sl15:Array (Option Value)}{oc15 kV15 dc15 pm15 cd15 ct15:Value}{f16:Addr}{od16 an16:Option Addr}{sl16:Array (Option Value)}{oc16 kV16 dc16 pm16 cd16 ct16:Value}{f17:Addr}{od17 an17:Option Addr}{sl17:Array (Option Value)}{oc17 kV17 dc17 pm17 cd17 ct17:Value}{f18:Addr}{od18 an18:Option Addr}{sl18:Array (Option Value)}{oc18 kV18 dc18 pm18 cd18 ct18:Value}{f19:Addr}{od19 an19:Option Addr}{sl19:Array (Option Value)}{oc19 kV19 dc19 pm19 cd19 ct19:Value}{f20:Addr}{od20 an20:Option Addr}{sl20:Array (Option Value)}{oc20 kV20 dc20 pm20 cd20 ct20:Value}{f21:Addr}{od21 an21:Option Addr}{sl21:Array (Option Value)}{oc21 kV21 dc21 pm21 cd21 ct21:Value}{f22:Addr}{od22 an22:Option Addr}{sl22:Array (Option Value)}{oc22 kV22 dc22 pm22 cd22 ct22:Value}{f23:Addr}{od23 an23:Option Addr}{sl23:Array (Option Value)}{oc23 kV23 dc23 pm23 cd23 ct23:Value}{f24:Addr}{od24 an24:Option Addr}{sl24:Array (Option Value)}{oc24 kV24 dc24 pm24 cd24 ct24:Value}{f25:Addr}{od25 an25:Option Addr}{sl25:Array (Option Value)}{oc25 kV25 dc25 pm25 cd25 ct25:Value}{f26:Addr}{od26 an26:Option Addr}{sl26:Array (Option Value)}{oc26 kV26 dc26 pm26 cd26 ct26:Value}(X:K.In h) (G:h.Ns mainGlobals mg) (hfa:mg "law" = some (.ref fa))
  (a1:PySem.W.nsIn K mainGlobals "least_of" = some (some (.ref f1))) (l1:K.lookup f1=some ⟨oc1,od1,.func (PySem.W.fnOf "least_of" "least_of" (bw iz) (bf iz) (aj iz) .none kV1 dc1 pm1 an1 cd1 ct1),sl1⟩) (c1:PySem.W.codeIn K cd1 "least_of" = true) (k1:PySem.W.keepIn K (.ref f1)=true)
  (a2:PySem.W.nsIn K mainGlobals "most_of" = some (some (.ref f2))) (l2:K.lookup f2=some ⟨oc2,od2,.func (PySem.W.fnOf "most_of" "most_of" (bw jB) (bf jB) (aj jB) .none kV2 dc2 pm2 an2 cd2 ct2),sl2⟩) (c2:PySem.W.codeIn K cd2 "most_of" = true) (k2:PySem.W.keepIn K (.ref f2)=true)
  (a3:PySem.W.nsIn K mainGlobals "number_of" = some (some (.ref f3))) (l3:K.lookup f3=some ⟨oc3,od3,.func (PySem.W.fnOf "number_of" "number_of" (bw dU) (bf dU) (aj dU) .none kV3 dc3 pm3 an3 cd3 ct3),sl3⟩) (c3:PySem.W.codeIn K cd3 "number_of" = true) (k3:PySem.W.keepIn K (.ref f3)=true)
  (a4:PySem.W.nsIn K mainGlobals "joined" = some (some (.ref f4))) (l4:K.lookup f4=some ⟨oc4,od4,.func (PySem.W.fnOf "joined" "joined" (bw fM) (bf fM) (aj fM) .none kV4 dc4 pm4 an4 cd4 ct4),sl4⟩) (c4:PySem.W.codeIn K cd4 "joined" = true) (k4:PySem.W.keepIn K (.ref f4)=true)
  (a5:PySem.W.nsIn K mainGlobals "bits_spans" = some (some (.ref f5))) (l5:K.lookup f5=some ⟨oc5,od5,.func (PySem.W.fnOf "bits_spans" "bits_spans" (bw bh) (bf bh) (aj bh) .none kV5 dc5 pm5 an5 cd5 ct5),sl5⟩) (c5:PySem.W.codeIn K cd5 "bits_spans" = true) (k5:PySem.W.keepIn K (.ref f5)=true)
  (a6:PySem.W.nsIn K mainGlobals "item_spans" = some (some (.ref f6))) (l6:K.lookup f6=some ⟨oc6,od6,.func (PySem.W.fnOf "item_spans" "item_spans" (bw dm) (bf dm) (aj dm) .none kV6 dc6 pm6 an6 cd6 ct6),sl6⟩) (c6:PySem.W.codeIn K cd6 "item_spans" = true) (k6:PySem.W.keepIn K (.ref f6)=true)
  (a7:PySem.W.nsIn K mainGlobals "case_spans" = some (some (.ref f7))) (l7:K.lookup f7=some ⟨oc7,od7,.func (PySem.W.fnOf "case_spans" "case_spans" (bw cB) (bf cB) (aj cB) .none kV7 dc7 pm7 an7 cd7 ct7),sl7⟩) (c7:PySem.W.codeIn K cd7 "case_spans" = true) (k7:PySem.W.keepIn K (.ref f7)=true)
  (a8:PySem.W.nsIn K mainGlobals "lie_within" = some (some (.ref f8))) (l8:K.lookup f8=some ⟨oc8,od8,.func (PySem.W.fnOf "lie_within" "lie_within" (bw cP) (bf cP) (aj cP) .none kV8 dc8 pm8 an8 cd8 ct8),sl8⟩) (c8:PySem.W.codeIn K cd8 "lie_within" = true) (k8:PySem.W.keepIn K (.ref f8)=true)
  (a9:PySem.W.nsIn K mainGlobals "dead_cases" = some (some (.ref f9))) (l9:K.lookup f9=some ⟨oc9,od9,.func (PySem.W.fnOf "dead_cases" "dead_cases" (bw bH) (bf bH) (aj bH) .none kV9 dc9 pm9 an9 cd9 ct9),sl9⟩) (c9:PySem.W.codeIn K cd9 "dead_cases" = true) (k9:PySem.W.keepIn K (.ref f9)=true)
  (a10:PySem.W.nsIn K mainGlobals "_law_cell_at" = some (some (.ref f10))) (l10:K.lookup f10=some ⟨oc10,od10,.func (PySem.W.fnOf "_law_cell_at" "_law_cell_at" (bw gC) (bf gC) (aj gC) .none kV10 dc10 pm10 an10 cd10 ct10),sl10⟩) (c10:PySem.W.codeIn K cd10 "_law_cell_at" = true) (k10:PySem.W.keepIn K (.ref f10)=true)
  (a11:PySem.W.nsIn K mainGlobals "_law_tape" = some (some (.ref f11))) (l11:K.lookup f11=some ⟨oc11,od11,.func (PySem.W.fnOf "_law_tape" "_law_tape" (bw iC) (bf iC) (aj iC) .none kV11 dc11 pm11 an11 cd11 ct11),sl11⟩) (c11:PySem.W.codeIn K cd11 "_law_tape" = true) (k11:PySem.W.keepIn K (.ref f11)=true)
  (a12:PySem.W.nsIn K mainGlobals "_law_take" = some (some (.ref f12))) (l12:K.lookup f12=some ⟨oc12,od12,.func (PySem.W.fnOf "_law_take" "_law_take" (bw iD) (bf iD) (aj iD) .none kV12 dc12 pm12 an12 cd12 ct12),sl12⟩) (c12:PySem.W.codeIn K cd12 "_law_take" = true) (k12:PySem.W.keepIn K (.ref f12)=true)
  (a13:PySem.W.nsIn K mainGlobals "_law_kind" = some (some (.ref f13))) (l13:K.lookup f13=some ⟨oc13,od13,.func (PySem.W.fnOf "_law_kind" "_law_kind" (bw jM) (bf jM) (aj jM) .none kV13 dc13 pm13 an13 cd13 ct13),sl13⟩) (c13:PySem.W.codeIn K cd13 "_law_kind" = true) (k13:PySem.W.keepIn K (.ref f13)=true)
  (a14:PySem.W.nsIn K mainGlobals "_law_least" = some (some (.ref f14))) (l14:K.lookup f14=some ⟨oc14,od14,.func (PySem.W.fnOf "_law_least" "_law_least" (bw jA) (bf jA) (aj jA) .none kV14 dc14 pm14 an14 cd14 ct14),sl14⟩) (c14:PySem.W.codeIn K cd14 "_law_least" = true) (k14:PySem.W.keepIn K (.ref f14)=true)
  (a15:PySem.W.nsIn K mainGlobals "_law_picks" = some (some (.ref f15))) (l15:K.lookup f15=some ⟨oc15,od15,.func (PySem.W.fnOf "_law_picks" "_law_picks" (bw iZ) (bf iZ) (aj iZ) .none kV15 dc15 pm15 an15 cd15 ct15),sl15⟩) (c15:PySem.W.codeIn K cd15 "_law_picks" = true) (k15:PySem.W.keepIn K (.ref f15)=true)
  (a16:PySem.W.nsIn K mainGlobals "_law_label" = some (some (.ref f16))) (l16:K.lookup f16=some ⟨oc16,od16,.func (PySem.W.fnOf "_law_label" "_law_label" (bw dz) (bf dz) (aj dz) .none kV16 dc16 pm16 an16 cd16 ct16),sl16⟩) (c16:PySem.W.codeIn K cd16 "_law_label" = true) (k16:PySem.W.keepIn K (.ref f16)=true)
  (a17:PySem.W.nsIn K mainGlobals "_law_number" = some (some (.ref f17))) (l17:K.lookup f17=some ⟨oc17,od17,.func (PySem.W.fnOf "_law_number" "_law_number" (bw cF) (bf cF) (aj cF) .none kV17 dc17 pm17 an17 cd17 ct17),sl17⟩) (c17:PySem.W.codeIn K cd17 "_law_number" = true) (k17:PySem.W.keepIn K (.ref f17)=true)
  (a18:PySem.W.nsIn K mainGlobals "_law_mask" = some (some (.ref f18))) (l18:K.lookup f18=some ⟨oc18,od18,.func (PySem.W.fnOf "_law_mask" "_law_mask" (bw gw) (bf gw) (aj gw) .none kV18 dc18 pm18 an18 cd18 ct18),sl18⟩) (c18:PySem.W.codeIn K cd18 "_law_mask" = true) (k18:PySem.W.keepIn K (.ref f18)=true)
  (a19:PySem.W.nsIn K mainGlobals "_law_item" = some (some (.ref f19))) (l19:K.lookup f19=some ⟨oc19,od19,.func (PySem.W.fnOf "_law_item" "_law_item" (bw dB) (bf dB) (aj dB) .none kV19 dc19 pm19 an19 cd19 ct19),sl19⟩) (c19:PySem.W.codeIn K cd19 "_law_item" = true) (k19:PySem.W.keepIn K (.ref f19)=true)
  (a20:PySem.W.nsIn K mainGlobals "_law_wild_choice" = some (some (.ref f20))) (l20:K.lookup f20=some ⟨oc20,od20,.func (PySem.W.fnOf "_law_wild_choice" "_law_wild_choice" (bw aN) (bf aN) (aj aN) .none kV20 dc20 pm20 an20 cd20 ct20),sl20⟩) (c20:PySem.W.codeIn K cd20 "_law_wild_choice" = true) (k20:PySem.W.keepIn K (.ref f20)=true)
  (a21:PySem.W.nsIn K mainGlobals "_law_free" = some (some (.ref f21))) (l21:K.lookup f21=some ⟨oc21,od21,.func (PySem.W.fnOf "_law_free" "_law_free" (bw jl) (bf jl) (aj jl) .none kV21 dc21 pm21 an21 cd21 ct21),sl21⟩) (c21:PySem.W.codeIn K cd21 "_law_free" = true) (k21:PySem.W.keepIn K (.ref f21)=true)
  (a22:PySem.W.nsIn K mainGlobals "_law_bits_borders" = some (some (.ref f22))) (l22:K.lookup f22=some ⟨oc22,od22,.func (PySem.W.fnOf "_law_bits_borders" "_law_bits_borders" (bw aL) (bf aL) (aj aL) .none kV22 dc22 pm22 an22 cd22 ct22),sl22⟩) (c22:PySem.W.codeIn K cd22 "_law_bits_borders" = true) (k22:PySem.W.keepIn K (.ref f22)=true)
  (a23:PySem.W.nsIn K mainGlobals "_law_borders" = some (some (.ref f23))) (l23:K.lookup f23=some ⟨oc23,od23,.func (PySem.W.fnOf "_law_borders" "_law_borders" (bw bG) (bf bG) (aj bG) .none kV23 dc23 pm23 an23 cd23 ct23),sl23⟩) (c23:PySem.W.codeIn K cd23 "_law_borders" = true) (k23:PySem.W.keepIn K (.ref f23)=true)
  (a24:PySem.W.nsIn K mainGlobals "_law_same" = some (some (.ref f24))) (l24:K.lookup f24=some ⟨oc24,od24,.func (PySem.W.fnOf "_law_same" "_law_same" (bw dW) (bf dW) (aj dW) .none kV24 dc24 pm24 an24 cd24 ct24),sl24⟩) (c24:PySem.W.codeIn K cd24 "_law_same" = true) (k24:PySem.W.keepIn K (.ref f24)=true)
  (a25:PySem.W.nsIn K mainGlobals "_law_shadowed" = some (some (.ref f25))) (l25:K.lookup f25=some ⟨oc25,od25,.func (PySem.W.fnOf "_law_shadowed" "_law_shadowed" (bw bK) (bf bK) (aj bK) .none kV25 dc25 pm25 an25 cd25 ct25),sl25⟩) (c25:PySem.W.codeIn K cd25 "_law_shadowed" = true) (k25:PySem.W.keepIn K (.ref f25)=true)
  (a26:PySem.W.nsIn K mainGlobals "law" = some (some (.ref f26))) (l26:K.lookup f26=some ⟨oc26,od26,.func (PySem.W.fnOf "law" "law" (bw fK) (bf fK) (aj fK) .none kV26 dc26 pm26 an26 cd26 ct26),sl26⟩) (c26:PySem.W.codeIn K cd26 "law" = true) (k26:PySem.W.keepIn K (.ref f26)=true)
  (z1:PySem.W.nsIn K mainGlobals "abs" = some none)
  (z2:PySem.W.nsIn K mainGlobals "all" = some none)
  (z3:PySem.W.nsIn K mainGlobals "any" = some none)
  (z4:PySem.W.nsIn K mainGlobals "bool" = some none)
  (z5:PySem.W.nsIn K mainGlobals "dict" = some none)
  (z6:PySem.W.nsIn K mainGlobals "enumerate" = some none)
  (z7:PySem.W.nsIn K mainGlobals "int" = some none)
  (z8:PySem.W.nsIn K mainGlobals "isinstance" = some none)
  (z9:PySem.W.nsIn K mainGlobals "len" = some none)
  (z10:PySem.W.nsIn K mainGlobals "list" = some none)
  (z11:PySem.W.nsIn K mainGlobals "max" = some none)
  (z12:PySem.W.nsIn K mainGlobals "min" = some none)
  (z13:PySem.W.nsIn K mainGlobals "range" = some none)
  (z14:PySem.W.nsIn K mainGlobals "repr" = some none)
  (z15:PySem.W.nsIn K mainGlobals "set" = some none)
  (z16:PySem.W.nsIn K mainGlobals "sorted" = some none)
  (z17:PySem.W.nsIn K mainGlobals "str" = some none)
  (z18:PySem.W.nsIn K mainGlobals "sum" = some none)
  (z19:PySem.W.nsIn K mainGlobals "tuple" = some none)
  (z20:PySem.W.nsIn K mainGlobals "zip" = some none) :
  ∃ fd:FuncData,(∀ (s:Shared) (v:Value),BindsTo s fd ⟨[v],[]⟩ [("_law_script",v)])/\∀ base:Heap,K.In base->base.Ns mainGlobals mg->dO l.prog w K mg base CX0 63 fa fd ["_law_script"] (Ft K):=by
 have e:=hfa.symm.trans (PySem.W.mg_of X G a26)
 cases e
 have DLeastOf:=cJ (st:=iz) (ps:=["width", "sign"]) X G a1 l1 c1 k1 fun _ _ _ _ _ _ us hl=>by obtain ⟨z0,z1,rfl⟩:=ln2 hl; rfl
 have DMostOf:=cJ (st:=jB) (ps:=["width", "sign"]) X G a2 l2 c2 k2 fun _ _ _ _ _ _ us hl=>by obtain ⟨z0,z1,rfl⟩:=ln2 hl; rfl
 have DNumberOf:=cJ (st:=dU) (ps:=["pattern", "width", "sign"]) X G a3 l3 c3 k3 fun _ _ _ _ _ _ us hl=>by obtain ⟨z0,z1,z2,rfl⟩:=ln3 hl; rfl
 have DJoined:=cJ (st:=fM) (ps:=["spans"]) X G a4 l4 c4 k4 fun _ _ _ _ _ _ us hl=>by obtain ⟨z0,rfl⟩:=ln1 hl; rfl
 have DBitsSpans:=cJ (st:=bh) (ps:=["width", "sign", "mask", "value"]) X G a5 l5 c5 k5 fun _ _ _ _ _ _ us hl=>by obtain ⟨z0,z1,z2,z3,rfl⟩:=ln4 hl; rfl
 have DItemSpans:=cJ (st:=dm) (ps:=["width", "sign", "item"]) X G a6 l6 c6 k6 fun _ _ _ _ _ _ us hl=>by obtain ⟨z0,z1,z2,rfl⟩:=ln3 hl; rfl
 have DCaseSpans:=cJ (st:=cB) (ps:=["width", "sign", "items"]) X G a7 l7 c7 k7 fun _ _ _ _ _ _ us hl=>by obtain ⟨z0,z1,z2,rfl⟩:=ln3 hl; rfl
 have DLieWithin:=cJ (st:=cP) (ps:=["spans", "others"]) X G a8 l8 c8 k8 fun _ _ _ _ _ _ us hl=>by obtain ⟨z0,z1,rfl⟩:=ln2 hl; rfl
 have DDeadCases:=cJ (st:=bH) (ps:=["choice"]) X G a9 l9 c9 k9 fun _ _ _ _ _ _ us hl=>by obtain ⟨z0,rfl⟩:=ln1 hl; rfl
 have DZCellAt:=cJ (st:=gC) (ps:=["_law_script", "_law_k"]) X G a10 l10 c10 k10 fun _ _ _ _ _ _ us hl=>by obtain ⟨z0,z1,rfl⟩:=ln2 hl; rfl
 have DZTape:=cJ (st:=iC) (ps:=["_law_script", "_law_k"]) X G a11 l11 c11 k11 fun _ _ _ _ _ _ us hl=>by obtain ⟨z0,z1,rfl⟩:=ln2 hl; rfl
 have DZTake:=cJ (st:=iD) (ps:=["_law_tape_here", "_law_many"]) X G a12 l12 c12 k12 fun _ _ _ _ _ _ us hl=>by obtain ⟨z0,z1,rfl⟩:=ln2 hl; rfl
 have DZKind:=cJ (st:=jM) (ps:=["_law_tape_here"]) X G a13 l13 c13 k13 fun _ _ _ _ _ _ us hl=>by obtain ⟨z0,rfl⟩:=ln1 hl; rfl
 have DZLeast:=cJ (st:=jA) (ps:=["_law_width", "_law_sign"]) X G a14 l14 c14 k14 fun _ _ _ _ _ _ us hl=>by obtain ⟨z0,z1,rfl⟩:=ln2 hl; rfl
 have DZPicks:=cJ (st:=iZ) (ps:=["_law_width", "_law_item_here", "_law_number_here"]) X G a15 l15 c15 k15 fun _ _ _ _ _ _ us hl=>by obtain ⟨z0,z1,z2,rfl⟩:=ln3 hl; rfl
 have DZLabel:=cJ (st:=dz) (ps:=["_law_choice", "_law_number_here"]) X G a16 l16 c16 k16 fun _ _ _ _ _ _ us hl=>by obtain ⟨z0,z1,rfl⟩:=ln2 hl; rfl
 have DZNumber:=cJ (st:=cF) (ps:=["_law_tape_here", "_law_width", "_law_sign", "_law_other"]) X G a17 l17 c17 k17 fun _ _ _ _ _ _ us hl=>by obtain ⟨z0,z1,z2,z3,rfl⟩:=ln4 hl; rfl
 have DZMask:=cJ (st:=gw) (ps:=["_law_tape_here", "_law_width"]) X G a18 l18 c18 k18 fun _ _ _ _ _ _ us hl=>by obtain ⟨z0,z1,rfl⟩:=ln2 hl; rfl
 have DZItem:=cJ (st:=dB) (ps:=["_law_tape_here", "_law_width", "_law_sign", "_law_other"]) X G a19 l19 c19 k19 fun _ _ _ _ _ _ us hl=>by obtain ⟨z0,z1,z2,z3,rfl⟩:=ln4 hl; rfl
 have DZWildChoice:=cJ (st:=aN) (ps:=["_law_tape_here"]) X G a20 l20 c20 k20 fun _ _ _ _ _ _ us hl=>by obtain ⟨z0,rfl⟩:=ln1 hl; rfl
 have DZFree:=cJ (st:=jl) (ps:=["_law_width", "_law_mask_here"]) X G a21 l21 c21 k21 fun _ _ _ _ _ _ us hl=>by obtain ⟨z0,z1,rfl⟩:=ln2 hl; rfl
 have DZBitsBorders:=cJ (st:=aL) (ps:=["_law_width", "_law_sign", "_law_mask_here", "_law_value"]) X G a22 l22 c22 k22 fun _ _ _ _ _ _ us hl=>by obtain ⟨z0,z1,z2,z3,rfl⟩:=ln4 hl; rfl
 have DZBorders:=cJ (st:=bG) (ps:=["_law_choice"]) X G a23 l23 c23 k23 fun _ _ _ _ _ _ us hl=>by obtain ⟨z0,rfl⟩:=ln1 hl; rfl
 have DZSame:=cJ (st:=dW) (ps:=["_law_found", "_law_due"]) X G a24 l24 c24 k24 fun _ _ _ _ _ _ us hl=>by obtain ⟨z0,z1,rfl⟩:=ln2 hl; rfl
 have DZShadowed:=cJ (st:=bK) (ps:=["_law_tape_here", "_law_choice"]) X G a25 l25 c25 k25 fun _ _ _ _ _ _ us hl=>by obtain ⟨z0,z1,rfl⟩:=ln2 hl; rfl
 have DLaw:=cJ (st:=fK) (ps:=["_law_script"]) X G a26 l26 c26 k26 fun _ _ _ _ _ _ us hl=>by obtain ⟨z0,rfl⟩:=ln1 hl; rfl
 have hB:∀ x:Str,x∈BLs->mg x=none:=by
  intro x hx
  replace hx:x∈(["abs", "all", "any", "bool", "dict", "enumerate", "int", "isinstance", "len", "list", "max", "min", "range", "repr", "set", "sorted", "str", "sum", "tuple", "zip"]:List Str):=hx
  simp only[List.mem_cons,List.not_mem_nil,or_false] at hx
  rcases hx with rfl | rfl | rfl | rfl | rfl | rfl | rfl | rfl | rfl | rfl | rfl | rfl | rfl | rfl | rfl | rfl | rfl | rfl | rfl | rfl
  ·exact PySem.W.mg_none_of X G z1
  ·exact PySem.W.mg_none_of X G z2
  ·exact PySem.W.mg_none_of X G z3
  ·exact PySem.W.mg_none_of X G z4
  ·exact PySem.W.mg_none_of X G z5
  ·exact PySem.W.mg_none_of X G z6
  ·exact PySem.W.mg_none_of X G z7
  ·exact PySem.W.mg_none_of X G z8
  ·exact PySem.W.mg_none_of X G z9
  ·exact PySem.W.mg_none_of X G z10
  ·exact PySem.W.mg_none_of X G z11
  ·exact PySem.W.mg_none_of X G z12
  ·exact PySem.W.mg_none_of X G z13
  ·exact PySem.W.mg_none_of X G z14
  ·exact PySem.W.mg_none_of X G z15
  ·exact PySem.W.mg_none_of X G z16
  ·exact PySem.W.mg_none_of X G z17
  ·exact PySem.W.mg_none_of X G z18
  ·exact PySem.W.mg_none_of X G z19
  ·exact PySem.W.mg_none_of X G z20
 refine ⟨PySem.W.fnOf "law" "law" (bw fK) (bf fK) (aj fK) .none kV26 dc26 pm26 an26 cd26 ct26,fun s v=>.of_eq rfl,fun base kb nb=>?_⟩
 have CCell:=DZCellAt.cal (Sv (P:=l.prog) (w:=w) (base:=base) hB DZCellAt.fn)
 have CTape:=DZTape.cal (R9 hB CCell DZTape.fn)
 have CTake0:=DZTake.cal (G5 (P:=l.prog) (w:=w) (mg:=mg) (base:=base))
 have CTake1:=DZTake.cal (Gd (n:=0) hB δ CTake0 DZTake.fn)
 have CTake2:=DZTake.cal (Gd (n:=1) hB δ CTake1 DZTake.fn)
 have CSame0:=DZSame.cal (same_none (P:=l.prog) (w:=w) (mg:=mg) (base:=base))
 have CSame1:=DZSame.cal (tX (n:=0) hB CSame0 DZSame.fn)
 have CSame2:=DZSame.cal (tX (n:=1) hB CSame1 DZSame.fn)
 have CSame3:=DZSame.cal (tX (n:=2) hB CSame2 DZSame.fn)
 have CSame:=DZSame.cal (tX (n:=3) hB CSame3 DZSame.fn)
 have CKind:=DZKind.cal (Sg hB CTake2 DZKind.fn)
 have CLeast:=DZLeast.cal (Mp (P:=l.prog) (w:=w) (mg:=mg) (base:=base) DZLeast.fn)
 have CNum:=DZNumber.cal (WD hB CTake2 CLeast DZNumber.fn)
 have CMask:=DZMask.cal (Ge hB CTake2 DZMask.fn)
 have CItem:=DZItem.cal (Sh hB CTake2 CNum CMask DZItem.fn)
 have CWild:=DZWildChoice.cal (R8 hB CTake2 CKind CLeast CItem DZWildChoice.fn)
 have CFree:=DZFree.cal (Sq (P:=l.prog) (w:=w) (base:=base) hB DZFree.fn)
 have CBB:=DZBitsBorders.cal (Yz hB CFree DZBitsBorders.fn)
 have CLP:=DZPicks.cal (HY (P:=l.prog) (w:=w) (base:=base) hB DZPicks.fn)
 have CLab:=DZLabel.cal (Mq hB CLP DZLabel.fn)
 have CBord:=DZBorders.cal (Du hB CLeast CBB DZBorders.fn)
 have CLow:=DLeastOf.cal (Ia (P:=l.prog) (w:=w) (mg:=mg) (base:=base) DLeastOf.fn)
 have CMost:=DMostOf.cal (Ml (P:=l.prog) (w:=w) (mg:=mg) (base:=base) DMostOf.fn)
 have CNumOf:=DNumberOf.cal (Mj hB CMost DNumberOf.fn)
 have CJoin:=DJoined.cal (Ib (P:=l.prog) (w:=w) (base:=base) hB DJoined.fn)
 have CBSp:=DBitsSpans.cal (WQ hB CLow CMost CNumOf DBitsSpans.fn)
 have CISp:=DItemSpans.cal (WM hB CBSp DItemSpans.fn)
 have CCSp:=DCaseSpans.cal (WN hB CISp CJoin DCaseSpans.fn)
 have CLie:=DLieWithin.cal (WK (P:=l.prog) (w:=w) (base:=base) hB DLieWithin.fn)
 have CDead:=DDeadCases.cal (Ss hB CLie CCSp CJoin DDeadCases.fn)
 have CShad:=DZShadowed.cal (Sd hB CTake2 DZShadowed.fn)
 exact WL hB CDead CTape CWild CShad CBord CLab CSame DLaw.fn
theorem walk {l:PySem.W.OpenLaw}{q:Program}{loose:List Str}{XP:(Str->Option Value)->Heap->Prop}{YP:World->Heap->Prop}{d:DefRec}{K:Params->PySem.W.Frag}(hn:l.most=some 63) (hdf:d.params.defaults=[])
  (hY:∀ (w:World) (h:Heap),YP w h->(K w.params).In h)
  (F:∀ (w:World) (mg:Str->Option Value) (fa:Addr) (h:Heap),(K w.params).In h->h.Ns mainGlobals mg->mg d.name=some (.ref fa) ->
   ∃ fd:FuncData,(∀ (s:Shared) (u:Value),BindsTo s fd ⟨[u],[]⟩ [("_law_script",u)])/\∀ base:Heap,(K w.params).In base->base.Ns mainGlobals mg->dO l.prog w (K w.params) mg base CX0 63 fa fd ["_law_script"] (Ft (K w.params))) :
  PySem.W.WalkO q loose XP YP l.row.toRowW d [] (fun f vs=>PySem.call f vs):=
 L2.Qg (n:=63) (k:=63) (x := "_law_script") (CX:=fun _=>CX0) (sp:=fun w=>Ft (K w.params)) hn δ hdf ⟨rfl,δ,δ,rfl⟩ hY F (fun _ _ a ns hl _ hS=>⟨a,ns,rfl,hS,hl,fun _=>rfl⟩) fun _ _ _ _ _ z=>z
end K07
namespace PySem.W.Fast
theorem tw11312449276824415062:True:=⟨⟩
theorem tw11570501381488057167:True:=⟨⟩
theorem tw12613329395226055543:True:=⟨⟩
theorem tw13007448296167852786:True:=⟨⟩
theorem tw13464928148091055934:True:=⟨⟩
theorem tw13518498890817335283:True:=⟨⟩
theorem tw14110859159417932325:True:=⟨⟩
theorem tw14577579518198901049:True:=⟨⟩
theorem tw16670510978133266091:True:=⟨⟩
theorem tw16741172730343701609:True:=⟨⟩
theorem tw17186851263990762389:True:=⟨⟩
theorem tw17959442309704850909:True:=⟨⟩
theorem tw1857178544530676556:True:=⟨⟩
theorem tw2193341436329512651:True:=⟨⟩
theorem tw4327238032447327472:True:=⟨⟩
theorem tw5071125783712160839:True:=⟨⟩
theorem tw5365649245579442011:True:=⟨⟩
theorem tw5885835863432556622:True:=⟨⟩
theorem tw6637485191551670733:True:=⟨⟩
theorem tw7285689545644132977:True:=⟨⟩
theorem tw763022816047315271:True:=⟨⟩
theorem tw7674907086299407014:True:=⟨⟩
theorem tw7762421511138901591:True:=⟨⟩
theorem tw8301388810812048847:True:=⟨⟩
theorem tw861648142141627098:True:=⟨⟩
theorem tw8909336201924482381:True:=⟨⟩
theorem tw9266308949383499280:True:=⟨⟩
theorem tw9319558954296540003:True:=⟨⟩
theorem tw9485782313518336985:True:=⟨⟩
theorem tw9762170646475339640:True:=⟨⟩
end PySem.W.Fast
open PySem PySem.W PyProof.Rows
set_option maxRecDepth 100000 in
set_option maxHeartbeats 0 in
theorem PySem.Challenge.cw_caseways_k07_dead_cases_told_holds : PySem.Challenge.rw_caseways_k07_dead_cases_told.Holds := by
 w_on; o_law; k_head; (case hw=>w_witness2)
 k_fill
 refine K07.walk (l:=PySem.Challenge.rw_caseways_k07_dead_cases_told) rfl rfl (fun w h Y=>PySem.W.kIn_of Y) ?F
 case F=>
  intro w mg fa h KX G hmg
  refine' K07.all_mk KX G hmg ?a1 ?l1 ?c1 ?k1 ?a2 ?l2 ?c2 ?k2 ?a3 ?l3 ?c3 ?k3 ?a4 ?l4 ?c4 ?k4 ?a5 ?l5 ?c5 ?k5 ?a6 ?l6 ?c6 ?k6 ?a7 ?l7 ?c7 ?k7 ?a8 ?l8 ?c8 ?k8 ?a9 ?l9 ?c9 ?k9 ?a10 ?l10 ?c10 ?k10 ?a11 ?l11 ?c11 ?k11 ?a12 ?l12 ?c12 ?k12 ?a13 ?l13 ?c13 ?k13 ?a14 ?l14 ?c14 ?k14 ?a15 ?l15 ?c15 ?k15 ?a16 ?l16 ?c16 ?k16 ?a17 ?l17 ?c17 ?k17 ?a18 ?l18 ?c18 ?k18 ?a19 ?l19 ?c19 ?k19 ?a20 ?l20 ?c20 ?k20 ?a21 ?l21 ?c21 ?k21 ?a22 ?l22 ?c22 ?k22 ?a23 ?l23 ?c23 ?k23 ?a24 ?l24 ?c24 ?k24 ?a25 ?l25 ?c25 ?k25 ?a26 ?l26 ?c26 ?k26 ?z1 ?z2 ?z3 ?z4 ?z5 ?z6 ?z7 ?z8 ?z9 ?z10 ?z11 ?z12 ?z13 ?z14 ?z15 ?z16 ?z17 ?z18 ?z19 ?z20
  case a1|l1|c1|k1|a2|l2|c2|k2|a3|l3|c3|k3|a4|l4|c4|k4|a5|l5|c5|k5|a6|l6|c6|k6|a7|l7|c7|k7|a8|l8|c8|k8|a9|l9|c9|k9|a10|l10|c10|k10|a11|l11|c11|k11|a12|l12|c12|k12|a13|l13|c13|k13|a14|l14|c14|k14|a15|l15|c15|k15|a16|l16|c16|k16|a17|l17|c17|k17|a18|l18|c18|k18|a19|l19|c19|k19|a20|l20|c20|k20|a21|l21|c21|k21|a22|l22|c22|k22|a23|l23|c23|k23|a24|l24|c24|k24|a25|l25|c25|k25|a26|l26|c26|k26|z1|z2|z3|z4|z5|z6|z7|z8|z9|z10|z11|z12|z13|z14|z15|z16|z17|z18|z19|z20=>k_is
#print axioms PySem.Challenge.cw_caseways_k07_dead_cases_told_holds
