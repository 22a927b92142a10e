import PyProof.Rows.All
import Wide.All
import OpenK.AllK
import Wide.FinOn
import Lean
import PyProof.EqAt
import PyProof.EqKinds
import PyProof.TupleCall
import PyProof.NeData
import PySem.Challenge.RW_caseways_k19_plans_looked_at
local macro_rules | `(tactic| omega) => `(tactic| first | with_reducible assumption | lia | omega +splitDisjunctions)
set_option Elab.async false
set_option linter.all false
set_option maxRecDepth 100000
theorem ω {p : Prop}(h : p := by omega) : p := h
theorem δ {p : Prop}(h : p := by decide) : p := h
theorem ψ {p : Prop}(h : p := by decide +kernel) : p := h
open List (all_append all_cons all_eq_true all_map all_nil any_cons any_eq_true append_nil contains_iff_mem ext_getElem filter_cons_of_neg filter_cons_of_pos flatten_cons getD_eq_getElem?_getD getElem?_append_right getElem?_cons_succ getElem?_eq_getElem getElem?_map getElem?_toArray getElem_mem length_append length_cons length_drop length_eq_zero_iff length_filter_le length_map length_pos_iff length_range length_singleton length_take lookup_cons map_append map_cons map_drop map_nil map_take mem_append mem_append_right mem_cons mem_cons_of_mem mem_cons_self mem_filter mem_iff_getElem mem_map mem_of_getElem? mem_range mem_singleton nodup_cons not_mem_nil of_mem_zip pairwise_cons pairwise_lt_range replicate_succ set_cons_succ set_cons_zero size_toArray take_of_length_le)
open PySem.Heap (get?_push_of_some get?_push_size get?_update_other get?_update_self lt_size size_push)
open Option (getD_none)
open PySem.W (codeIn fnOf keepIn kitOne mg_none_of mg_of nsIn)
open Array (getElem?_toList length_toList toList_push)
open Nat (add_sub_cancel le_of_lt le_refl le_succ le_trans lt_irrefl lt_of_lt_of_le lt_or_ge lt_succ_of_lt lt_succ_self mod_lt ne_of_gt ne_of_lt not_lt_zero sub_self zero_le)
open Int (emod_lt_of_pos emod_nonneg toNat_natCast)
open Bool (and_eq_true)
namespace L2
open PySem PySem.Spec PyProof.Rows
noncomputable abbrev Key:=Sum Int Str
noncomputable def KC:Key->Value->Bool
 | .inl k,v=>Value.isInt k v
 | .inr x,v=>Value.isStrOf x v
noncomputable def Qa (w:World):Key->Int
 | .inl k=>hashInt k
 | .inr x=>hashStr w x
theorem cY:∀{k:Key}{v:Value},KC k v=true->(∃i t,k=Sum.inl i/\v=Value.int i t)\/(∃x t,k=Sum.inr x/\v=Value.str x t)
 | .inl i,v,h=>by
  obtain⟨t,e⟩:=Value.isInt_shape (k:=i) (v:=v) h;exact .inl ⟨i,t,rfl,e⟩
 | .inr x,v,h=>by
  obtain⟨t,e⟩:=Value.isStrOf_shape (x:=x) (v:=v) h;exact .inr ⟨x,t,rfl,e⟩
theorem Nj (a b:Int):decide ((Sum.inl a:Key)=Sum.inl b)=(a == b):=by
 by_cases e:a=b
 ·subst e;simp
 have h:¬(Sum.inl a:Key)=Sum.inl b:=fun q=>e (Sum.inl.inj q);rw[decide_eq_false h];exact(beq_eq_false_iff_ne.mpr e).symm
theorem Ng (a b:Str):decide ((Sum.inr a:Key)=Sum.inr b)=decide (a=b):=by
 by_cases e:a=b
 ·subst e;simp
 have h:¬(Sum.inr a:Key)=Sum.inr b:=fun q=>e (Sum.inr.inj q);rw[decide_eq_false h,decide_eq_false e]
theorem Ni (a:Int)(b:Str):decide ((Sum.inl a:Key)=Sum.inr b)=false:=decide_eq_false (fun q=>nomatch q)
theorem Nh (a:Str)(b:Int):decide ((Sum.inr a:Key)=Sum.inl b)=false:=decide_eq_false (fun q=>nomatch q)
noncomputable def vf (prog:Program)(w:World):PySem.KeyKind prog w Key where
 is:=KC
 hash:=Qa w
 inj:=fun v a b ha hb=>by
  rcases cY ha with⟨i,t,rfl,rfl⟩|⟨x,t,rfl,rfl⟩
  ·rcases cY hb with⟨j,u,rfl,e⟩|⟨y,u,rfl,e⟩
   ·injection e with e1 _;rw[e1]
   exact nomatch e
  rcases cY hb with⟨j,u,rfl,e⟩|⟨y,u,rfl,e⟩
  ·exact nomatch e
  injection e with e1 _;rw[e1]
 byValue:=fun k v h=>by
  rcases cY h with⟨i,t,rfl,rfl⟩|⟨x,t,rfl,rfl⟩ <;> rfl
 pyHash:=fun hv h=>by
  rcases cY hv with⟨i,t,rfl,rfl⟩|⟨x,t,rfl,rfl⟩
  ·exact wpAny_pyHash_int h
  exact wpAny_pyHash_str h
 eqBool:=fun hu hv h=>by
  rcases cY hu with⟨i,t,rfl,rfl⟩|⟨x,t,rfl,rfl⟩
  ·rcases cY hv with⟨j,u,rfl,rfl⟩|⟨y,u,rfl,rfl⟩
   ·rw[Nj] at h;exact wpAny_eqBool_int h
   rw[Ni] at h;exact SeqAt.EqAt.int_str i t y u _ _ _ _ h
  rcases cY hv with⟨j,u,rfl,rfl⟩|⟨y,u,rfl,rfl⟩
  ·rw[Nh] at h;exact SeqAt.EqAt.str_int x t j u _ _ _ _ h
  rw[Ng] at h;exact wpAny_eqBool_str h
 «strs»:=fun k x t v h=>by
  rcases cY h with⟨i,u,rfl,e⟩|⟨y,u,rfl,e⟩
  ·exact nomatch e
  injection e with e1 _;subst e1;cases v <;> rfl
inductive V where
 | non|bl (b:Bool)|int (i:Int)|str (x:Str)|byt (b:Array UInt8)|flt (b:UInt64)|ref (a:Addr)|ty (n:String)
 deriving DecidableEq
noncomputable def RelV:V->Value->Prop
 | .non,u=>u=Value.none
 | .bl b,u=>u=Value.bool b
 | .int i,u=>∃t,u=Value.int i t
 | .str x,u=>∃t,u=Value.str x t
 | .byt b,u=>∃t,u=Value.bytes b t
 | .flt b,u=>∃t,u=Value.float b t
 | .ref a,u=>u=Value.ref a
 | .ty n,u=>u=Value.type n
noncomputable abbrev Vals:List V->List Value->Prop:=Paired RelV
theorem Vals.length {xs:List V}{us:List Value}(r:Vals xs us):xs.length=us.length:=Paired.length r
theorem Vals.get:∀{xs:List V}{us:List Value}{i:Nat}{x:V},Vals xs us->xs[i]?=some x->∃u,us[i]?=some u/\RelV x u
 | _,_,_,_,.nil,e=>by simp at e
 | _,_,0,_,.cons r _,e=>by simp at e;subst e;exact⟨_,rfl,r⟩
 | _,_,i+1,x,.cons _ t,e=>by
  obtain⟨u,h1,h2⟩:=Vals.get (i:=i) (x:=x) t (by simpa using e);exact⟨u,by simpa using h1,h2⟩
theorem Vals.set {x:V}{u:Value}(r:RelV x u):∀{xs:List V}{us:List Value}(i:Nat),Vals xs us->Vals (xs.set i x) (us.set i u)
 | _,_,_,.nil=>.nil
 | _,_,0,.cons _ t=>.cons r t
 | _,_,i+1,.cons q t=>.cons q (Vals.set r i t)
theorem Vals.append:∀{xs ys:List V}{us ws:List Value},Vals xs us->Vals ys ws->Vals (xs++ys) (us++ws)
 | _,_,_,_,.nil,s=>s
 | _,_,_,_,.cons r t,s=>.cons r (Vals.append t s)
theorem Vals.take:∀{xs:List V}{us:List Value}(n:Nat),Vals xs us->Vals (xs.take n) (us.take n)
 | _,_,0,_=>.nil
 | _,_,_+1,.nil=>.nil
 | _,_,n+1,.cons r t=>.cons r (Vals.take n t)
theorem Vals.drop:∀{xs:List V}{us:List Value}(n:Nat),Vals xs us->Vals (xs.drop n) (us.drop n)
 | _,_,0,r=>r
 | _,_,_+1,.nil=>.nil
 | _,_,n+1,.cons _ t=>Vals.drop n t
theorem Vals.none_of:∀{xs:List V}{us:List Value}{i:Nat},Vals xs us->xs[i]?=none->us[i]?=none:=fun {xs us i} r e=>by
 have h1:=r.length;have h2:xs.length<=i:=List.getElem?_eq_none_iff.mp e;exact List.getElem?_eq_none_iff.mpr ω
noncomputable def NZ:Option V->Option Value->Prop
 | some v,some u=>RelV v u
 | none,none=>True
 | _,_=>False
noncomputable def KV {κ:Type}:List (κ×V)->List (κ×Value)->Prop:=Paired fun(p:κ×V)(q:κ×Value)=>p.1=q.1/\RelV p.2 q.2
noncomputable def kV:Key->V
 | .inl i=>.int i
 | .inr x=>.str x
inductive HO where
 /-- a list -/
 | lst (xs:List V)
 /-- a tuple (never changes) -/
 | tup (xs:List V)
 /-- a dict whose keys are ints and texts;one whose keys are tuples of ints and texts (the empty one is both) -/
 | dK (kvs:List (Key×V))|dT (kvs:List (List Key×V))
 /-- a set of ints: its members,its size -/
 | set (S:Int->Bool) (n:Nat)
 /-- an instance of the class at C,its dict at dx,its attributes -/
 | ins (C dx:Addr) (fs:List (Str×V))
 /-- the dict of the instance at x -/
 | own (x:Addr)
 /-- the dict of an exception -/
 | xd (fs:List (Str×V))
 /-- a bound method,f of x -/
 | met (f x:Addr)
 /-- a range object lo,lo+1,.. below hi -/
 | rng (lo hi:Int)
 /-- a thing that is known to the object (the script;a dict while a loop walks it): read,never written while it is so -/
 | frz (o:Obj) (u:HO)
 /-- a code object's table -/
 | tbl (ps:Array Value)
 /-- any other thing,by what is true of its one object (a def of one's own: SetO a S n:=HO.ext fun h=>..) -/
 | ext (φ:Heap->Prop)
noncomputable abbrev Hp:=Addr->Option HO
noncomputable def upd (H:Hp)(a:Addr)(o:HO):Hp:=fun b=>if b=a then some o else H b
theorem aB {H:Hp}{a:Addr}{o:HO}:upd H a o a=some o:=by unfold upd;rw[if_pos rfl]
theorem aZ {H:Hp}{a b:Addr}{o:HO}(h:b≠a):upd H a o b=H b:=by unfold upd;rw[if_neg h]
theorem aM {H:Hp}{a b:Addr}{o:HO}(h:H a=some o)(h':H b=none):a≠b:=by
 intro e;subst e;rw[h] at h';cases h'
section
variable (P:Program)(w:World)
noncomputable def dU (H:Hp)(h:Heap)(a:Addr):HO->Prop
 | .lst xs=>xs.length<=sizeLine/\∃(its:List Value)(n:Nat),Vals xs its/\h.get? a=some { cls:=.type "list",data:=.seq its.toArray n }
 | .tup xs=>xs.length<=sizeLine/\∃its:List Value,Vals xs its/\IsTup h a its.toArray
 | .dK kvs=>kvs.length<=sizeLine/\(a == sysModules)=false/\∃vs,KV kvs vs/\h.DictOf (vf P w) a vs
 | .dT kvs=>kvs.length<=sizeLine/\(a == sysModules)=false/\∃xs:List (List Key×Addr×Value),
   Paired (fun(p:List Key×V)(q:List Key×Addr×Value)=>p.1=q.1/\H q.2.1=some (.tup (p.1.map kV))/\RelV p.2 q.2.2) kvs xs /\
   ∃o es ep,h.get? a=some o/\o.ExactDict/\o.data=.dict es ep/\es.toList=xs.map (entryOfKey (tupleKind (vf P w)))/\(xs.map (·.1)).Nodup
 | .set S n=>h.SetOf (intKind P w) a S n
 | .ins C dx fs=>H dx=some (.own a)/\fs.length<=1000/\dx≠a/\h.get? a=some (PySem.W.instObj C dx) /\
   ∃mA,h.Ns1 dx mA/\(∀f,NZ (fs.lookup f) (mA f))/\PySem.Within mA (fs.map (·.1))
 | .own _=>∃o,h.get? a=some o
 | .xd fs=>∃mA,h.Ns1 a mA/\∀f,NZ (fs.lookup f) (mA f)
 | .rng lo hi=>∃t u v,h.get? a=some { cls:=.type "range",data:=.fields #[.int lo t,.int hi u,.int 1 v] }
 | .frz o u=>h.get? a=some o/\dU H h a u
 | .tbl ps=>h.get? a=some { cls:=.none,data:=.fields ps }
 | .met f x=>h.get? a=some (PySem.W.methodObj (.ref f) (.ref x))
 | .ext φ=>φ h/\(∃o,h.get? a=some o)/\∀h1 h2:Heap,φ h1->(∀o,h1.get? a=some o->h2.get? a=some o)->φ h2
noncomputable def HOk (H:Hp)(h:Heap):Prop:=∀a o,H a=some o->dU P w H h a o
end
section
variable {P:Program}{w:World}{H H':Hp}{h h':Heap}{a:Addr}{o:HO}
theorem dU.lt (x:dU P w H h a o):a<h.objs.size:=by
 cases o with
 | lst xs=>obtain⟨_,_,_,_,e⟩:=x;exact lt_size e
 | tup xs=>obtain⟨_,_,_,p⟩:=x;exact p.lt
 | dK kvs=>obtain⟨_,_,_,_,o,_,_,e,_⟩:=x;exact lt_size e
 | dT kvs=>obtain⟨_,_,_,_,o,_,_,e,_⟩:=x;exact lt_size e
 | set S n=>obtain⟨o,_,_,_,e,_⟩:=x;exact lt_size e
 | ins C dx fs=>obtain⟨_,_,_,e,_⟩:=x;exact lt_size e
 | own y=>obtain⟨_,e⟩:=x;exact lt_size e
 | xd fs=>obtain⟨_,⟨_,_,_,e,_⟩,_⟩:=x;exact lt_size e
 | rng lo hi=>obtain⟨_,_,_,e⟩:=x;exact lt_size e
 | frz ob u=>obtain⟨e,_⟩:=x;exact lt_size e
 | tbl ps=>exact lt_size (show h.get? a=some _ from x)
 | met f y=>exact lt_size (show h.get? a=some _ from x)
 | ext φ=>obtain⟨_,⟨_,e⟩,_⟩:=x;exact lt_size e
theorem Paired.O3 {α β:Type}{F G:α->β->Prop}:∀{l₁:List α}{l₂:List β},Paired F l₁ l₂->(∀a b,F a b->G a b)->Paired G l₁ l₂
 | _,_,.nil,_=>.nil
 | _,_,.cons r t,f=>.cons (f _ _ r) (Paired.O3 t f)
theorem dU.stay (x:dU P w H h a o)(k:∀b u,(b=a\/H b=some (.own a))->h.get? b=some u->h'.get? b=some u)
  (ho:∀b,H b=some (.own a)->H' b=some (.own a)) (ht:∀b xs,H b=some (.tup xs)->H' b=some (.tup xs)):dU P w H' h' a o:=by
 induction o with
 | lst xs=>obtain⟨z,its,n,r,e⟩:=x;exact⟨z,its,n,r,k _ _ (.inl rfl) e⟩
 | tup xs=>obtain⟨z,its,r,ob,e,c⟩:=x;exact⟨z,its,r,ob,k _ _ (.inl rfl) e,c⟩
 | dK kvs=>obtain⟨z,y,vs,r,ob,es,ep,e,c⟩:=x;exact⟨z,y,vs,r,ob,es,ep,k _ _ (.inl rfl) e,c⟩
 | dT kvs=>
  obtain⟨z,y,xs,r,ob,es,ep,e,c⟩:=x;exact⟨z,y,xs,Paired.O3 r fun p q z=>⟨z.1,ht _ _ z.2.1,z.2.2⟩,ob,es,ep,k _ _ (.inl rfl) e,c⟩
 | set S n=>obtain⟨ob,es,ep,t,e,c⟩:=x;exact⟨ob,es,ep,t,k _ _ (.inl rfl) e,c⟩
 | ins C dx fs=>
  obtain⟨d,z,ne,e,mA,⟨od,es,ep,e2,c⟩,r⟩:=x;exact⟨ho _ d,z,ne,k _ _ (.inl rfl) e,mA,⟨od,es,ep,k _ _ (.inr d) e2,c⟩,r⟩
 | own y=>obtain⟨ob,e⟩:=x;exact⟨ob,k _ _ (.inl rfl) e⟩
 | xd fs=>obtain⟨mA,⟨od,es,ep,e,c⟩,r⟩:=x;exact⟨mA,⟨od,es,ep,k _ _ (.inl rfl) e,c⟩,r⟩
 | rng lo hi=>obtain⟨t,u,v,e⟩:=x;exact⟨t,u,v,k _ _ (.inl rfl) e⟩
 | frz ob u ih=>obtain⟨e,q⟩:=x;exact⟨k _ _ (.inl rfl) e,ih q⟩
 | tbl ps=>
  have e:h.get? a=some { cls:=.none,data:=.fields ps }:=x;show h'.get? a=some { cls:=.none,data:=.fields ps };exact k a _ (.inl rfl) e
 | met f y=>
  have e:h.get? a=some (PySem.W.methodObj (.ref f) (.ref y)):=x;show h'.get? a=some (PySem.W.methodObj (.ref f) (.ref y));exact k a _ (.inl rfl) e
 | ext φ=>obtain⟨p,⟨o,e⟩,st⟩:=x;exact⟨st _ _ p fun o q=>k _ _ (.inl rfl) q,⟨o,k _ _ (.inl rfl) e⟩,st⟩
theorem HOk.lt (x:HOk P w H h)(e:H a=some o):a<h.objs.size:=(x a o e).lt
theorem HOk.fresh (x:HOk P w H h)(e:h.objs.size<=a):H a=none:=by
 cases q:H a with
 | none=>rfl
 | some u=>exact absurd (lt_of_lt_of_le (x.lt q) e) (lt_irrefl _)
theorem HOk.kept (x:HOk P w H h)(k:∀b u,h.get? b=some u->h'.get? b=some u):HOk P w H h':=fun a o e=>
 (x a o e).stay (fun b u _ q=>k b u q) (fun _ q=>q) fun _ _ q=>q
theorem HOk.laid (x:HOk P w H h)(k:∀b u,h.get? b=some u->h'.get? b=some u)(hp:h.objs.size<=a)(new:dU P w (upd H a o) h' a o):HOk P w (upd H a o) h':=fun b u e=>by
 have hn:=x.fresh hp;by_cases hb:b=a
 ·subst hb;rw[aB] at e;cases e;exact new
 rw[aZ hb] at e;exact(x b u e).stay (fun c v _ q=>k c v q) (fun c q=>by rw[aZ (aM q hn)];exact q) fun c xs q=>by rw[aZ (aM q hn)];exact q
end
noncomputable def Rd (H:Hp)(a:Addr)(u:HO):Prop:=H a=some u\/∃o,H a=some (.frz o u)
theorem Rd.ok {P:Program}{w:World}{H:Hp}{h:Heap}{a:Addr}{u:HO}(r:Rd H a u)(x:HOk P w H h):dU P w H h a u:=by
 rcases r with r|⟨o,r⟩
 ·exact x a u r
 obtain⟨_,q⟩:=x a _ r;exact q
noncomputable def Mut:Option HO->Prop
 | some (.lst _)=>True
 | some (.dK _)=>True
 | some (.dT _)=>True
 | some (.set _ _)=>True
 | some (.ins _ _ _)=>True
 | some (.ext _)=>True
 | _=>False
section
variable {P:Program}{w:World}{H:Hp}{h h':Heap}{x e:Addr}{o':HO}
theorem HOk.write (ok:HOk P w H h)(mu:Mut (H x))(he:e=x\/H e=some (.own x))(k:∀b u,b≠e->h.get? b=some u->h'.get? b=some u)(heo:∃u,h'.get? e=some u)
  (new:dU P w (upd H x o') h' x o'):HOk P w (upd H x o') h':=fun b u q=>by
 have nown:∀c y,H c=some (.own y)->c≠x:=fun c y r z=>by subst z;rw[r] at mu;exact mu
 have ntup:∀c xs,H c=some (.tup xs)->c≠x:=fun c xs r z=>by subst z;rw[r] at mu;exact mu
 by_cases hb:b=x
 ·subst hb;rw[aB] at q;cases q;exact new
 rw[aZ hb] at q;by_cases hbe:b=e
 ·have q':H b=some (.own x):=by
   rcases he with z|z
   ·exact absurd (hbe.trans z) hb
   rw[hbe];exact z
  rw[q] at q';cases q';obtain⟨v,hv⟩:=heo;exact⟨v,by rw[hbe];exact hv⟩
 refine(ok b u q).stay (fun c v hc r=>k c v ?_ r) (fun c r=>by rw[aZ (nown c b r)];exact r) fun c xs r=>by rw[aZ (ntup c xs r)];exact r
 rcases hc with rfl|hc
 ·exact hbe
 rintro rfl;rcases he with z|z
 ·exact nown c b hc z
 rw[hc] at z;cases z;exact hb rfl
end
structure Un (fs ex:List Addr)(H H':Hp)(h h':Heap):Prop where
 keep:∀b o,h.get? b=some o->H b=none->b∉fs->b∉ex->h'.get? b=some o
 slot:∀b o,h.get? b=some o->H b=none->b∈fs->b∉ex->∃sl,h'.get? b=some { o with slots:=sl }
 free:∀b o,h.get? b=some o->H b=none->b∉ex->H' b=none
 there:∀b o,h.get? b=some o->b∉ex->∃o',h'.get? b=some o'
 tups:∀b xs,H b=some (.tup xs)->H' b=some (.tup xs)
 frzs:∀b o u,H b=some (.frz o u)->H' b=some (.frz o u)
 tbls:∀b ps,H b=some (.tbl ps)->∃more,H' b=some (.tbl (ps++more))
section
variable {fs fs' ex ex':List Addr}{H H1 H2:Hp}{h h1 h2 h':Heap}{a x e:Addr}{o:HO}
theorem Un.any (u:Un fs ex H H1 h h1){b:Addr}{ob:Obj}(q:h.get? b=some ob)(n:H b=none)(hx:b∉ex):∃sl,h1.get? b=some { ob with slots:=sl }:=by
 by_cases hb:b∈fs
 ·exact u.slot b ob q n hb hx
 exact⟨ob.slots,u.keep b ob q n hb hx⟩
theorem Un.kept (k:∀b u,h.get? b=some u->h'.get? b=some u):Un fs ex H H h h':=
 ⟨fun b ob q _ _ _=>k b ob q,fun b ob q _ _ _=>⟨ob.slots,k b ob q⟩,fun _ _ _ n _=>n,fun b ob q _=>⟨ob,k b ob q⟩,fun _ _ q=>q,fun _ _ _ q=>q,fun _ ps q=>⟨#[],by rw[q];simp⟩⟩
theorem Un.refl:Un fs ex H H h h:=Un.kept fun _ _ q=>q
theorem Un.laid (k:∀b u,h.get? b=some u->h'.get? b=some u)(hp:h.objs.size<=a)(hn:H a=none):Un fs ex H (upd H a o) h h' where
 keep:=fun b u q _ _ _=>k b u q
 slot:=fun b u q _ _ _=>⟨u.slots,k b u q⟩
 free:=fun b u q n _=>by rw[aZ (ne_of_lt (lt_of_lt_of_le (lt_size q) hp))];exact n
 there:=fun b u q _=>⟨u,k b u q⟩
 tups:=fun b xs q=>by rw[aZ (aM q hn)];exact q
 frzs:=fun b u xs q=>by rw[aZ (aM q hn)];exact q
 tbls:=fun b ps q=>⟨#[],by rw[aZ (aM q hn),q];simp⟩
theorem Un.write (mu:Mut (H x))(he:e=x\/H e=some (.own x))(k:∀b u,b≠e->h.get? b=some u->h'.get? b=some u)(heo:∃u,h'.get? e=some u):Un fs ex H (upd H x o) h h':=by
 have hx:∀b,H b=none->b≠x:=fun b n z=>by subst z;rw[n] at mu;exact mu
 have hb:∀b,H b=none->b≠e:=fun b n z=>by
  subst z;rcases he with r|r
  ·exact hx b n r
  rw[n] at r;cases r
 have hm:∀b u,H b=some u->¬Mut (some u)->b≠x:=fun b u q nm z=>by subst z;rw[q] at mu;exact nm mu
 refine⟨fun b u q n _ _=>k b u (hb b n) q,fun b u q n _ _=>⟨u.slots,k b u (hb b n) q⟩,fun b u q n _=>by rw[aZ (hx b n)];exact n,fun b u q _=>?_,
  fun b xs q=>by rw[aZ (hm b _ q fun z=>z)];exact q,fun b u xs q=>by rw[aZ (hm b _ q fun z=>z)];exact q,fun b ps q=>⟨#[],by rw[aZ (hm b _ q fun z=>z),q];simp⟩⟩
 by_cases hbe:b=e
 ·subst hbe;exact heo
 exact⟨u,k b u hbe q⟩
end
noncomputable def trk (h:Heap)(H:Hp):List Addr:=(List.range h.objs.size).filter fun a=>(H a).isSome
noncomputable def vh (h:Heap)(H:Hp):Heap:=PySem.W.hideAll h (trk h H)
theorem Cp (h:Heap)(H:Hp):(vh h H).objs.size=h.objs.size:=PySem.W.hideAll_size _ _
theorem GQ {h:Heap}{H:Hp}{b:Addr}{o:Obj}(e:h.get? b=some o)(n:H b=none):(vh h H).get? b=some o:=
 PySem.W.hideAll_get _ e fun hm=>by
  have q:(H b).isSome=true:=(mem_filter.mp hm).2;rw[n] at q;simp at q
theorem JS {h:Heap}{H:Hp}{b:Addr}{o:Obj}(e:(vh h H).get? b=some o):h.get? b=some o/\H b=none:=by
 have e':h.get? b=some o:=PySem.W.of_hideAll (trk h H) e;refine⟨e',?_⟩;cases q:H b with
 | none=>rfl
 | some x=>
  have hm:b∈trk h H:=mem_filter.mpr ⟨mem_range.mpr (lt_size e'),by simp [q]⟩;have z:(vh h H).get? b=none:=PySem.W.hideAll_none (trk h H) hm;rw[z] at e;cases e
structure Mod (K:PySem.W.Frag)(mg:Str->Option Value)(base:Heap):Prop where
 kin:K.In base
 glob:base.Ns mainGlobals mg
 blt:∃mb,base.Ns builtinsNs mb/\∀x:Str,x ≠ "__name__" -> mb x=bootBuiltins x
 nolimit:base.NoLimit
structure Cx where
 prog:Program
 w:World
 K:PySem.W.Frag
 mg:Str->Option Value
 base:Heap
 A:Around
 N:List Str
 s₀:Shared
 H₀:Hp
 env:Env
 outer:List Env
 stack:List Env
 ex:List Addr
 fn:Str->Bool
 calm:Bool
 pn:List (Addr×Obj)
 xe:Value->Shared->Prop
noncomputable def frs (l:List Env):List Addr:=l.filterMap (·.frame)
noncomputable abbrev Cx.fs (X:Cx):List Addr:=frs X.outer
noncomputable def Vis (sc:Scope)(x:Str):Prop:=sc.names.lookup x=some .local\/sc.names.lookup x=some .cell\/sc.names.lookup x=some .free
noncomputable def Loc (sc:Scope)(x:Str):Prop:=sc.names.lookup x=some .local\/sc.names.lookup x=some .cell
noncomputable def Look (env:Env)(h:Heap)(m:Str->Option Value)(x:Str)(u:Value):Prop:=
 (env.kindOf x=some .local/\m x=some u)\/((env.kindOf x=some .cell\/env.kindOf x=some .free)/\∃c,env.cells.lookup x=some c/\h.IsCell c (some u))
structure Cx.Ok (X:Cx):Prop where
 mod:Mod X.K X.mg X.base
 kind:X.env.scope.kind=.function
 glob:X.env.globals=mainGlobals
 blt:X.env.builtins=builtinsNs
 above:X.s₀.heap.objs.size<=X.env.locals
 inj:∀x y c,X.env.cells.lookup x=some c->X.env.cells.lookup y=some c->x=y
 has:∀x,(X.env.kindOf x=some .cell\/X.env.kindOf x=some .free)->∃c,X.env.cells.lookup x=some c
 cab:∀x c,X.fn x=true->X.env.cells.lookup x=some c->X.s₀.heap.objs.size<=c
 hd:X.calm=true->X.A.handled=none
 frames:X.A.frames=some X.stack
 stk:X.stack=X.outer\/(X.stack=X.env::X.outer/\X.env.frame=some X.env.locals)
 exf:∀b∈X.ex,b≠X.env.locals/\∀x c,X.env.cells.lookup x=some c->c≠b
 bs:∀b o,X.base.get? b=some o->X.s₀.heap.get? b=some o/\X.H₀ b=none
 bsz:X.base.objs.size<=X.s₀.heap.objs.size
 noex:∀b o,X.base.get? b=some o->b∉X.ex
 exfs:∀b∈X.ex,b∉X.fs
 qi:X.s₀.heap.FunFrames X.base X.outer
 frf:∀b∈X.fs,X.H₀ b=none
structure Inv (X:Cx)(pins:List (Addr×Obj))(σ:List (Option V))(H:Hp)(s:Shared):Prop where
 ok:X.Ok
 os:s.os=X.s₀.os
 bare:AllBare s.gens
 base:Un X.fs X.ex X.H₀ H X.s₀.heap s.heap
 loc:∃m,s.heap.Ns X.env.locals m/\∀(i:Nat)(x:Str)(v:V),X.N[i]?=some x->σ[i]?=some (some v)->Vis X.env.scope x->∃u,RelV v u/\Look X.env s.heap m x u
 cell:∀x c,X.env.cells.lookup x=some c->∃v,s.heap.IsCell c v
 free:H X.env.locals=none
 freeC:∀x c,X.env.cells.lookup x=some c->H c=none
 pin:∀p∈X.pn++pins,s.heap.get? p.1=some p.2/\H p.1=none/\p.1≠X.env.locals/\p.1∉X.fs/\∀v,p.2.data≠.cell v
 hok:HOk X.prog X.w H s.heap
 len:σ.length=X.N.length
section
variable {X:Cx}{pins:List (Addr×Obj)}{σ:List (Option V)}{H H':Hp}{s:Shared}{h':Heap}
theorem Cx.Ok.P0 (ok:X.Ok){b:Addr}{o:Obj}(e:X.base.get? b=some o):b∉X.fs:=fun hb=>by
 have:=(ok.qi.mem hb).1;rw[e] at this;cases this
theorem Inv.bs (I:Inv X pins σ H s):∀b o,X.base.get? b=some o->s.heap.get? b=some o/\H b=none:=fun b o e=>
 ⟨I.base.keep b o (I.ok.bs b o e).1 (I.ok.bs b o e).2 (I.ok.P0 e) (I.ok.noex b o e),I.base.free b o (I.ok.bs b o e).1 (I.ok.bs b o e).2 (I.ok.noex b o e)⟩
theorem Inv.bk (I:Inv X pins σ H s):∀b o,X.base.get? b=some o->s.heap.get? b=some o:=fun b o e=>(I.bs b o e).1
theorem Inv.mod (I:Inv X pins σ H s):Mod X.K X.mg X.base:=I.ok.mod
theorem Inv.kIn (I:Inv X pins σ H s):X.K.In s.heap:=I.ok.mod.kin.keeps I.bk
theorem Inv.lt (I:Inv X pins σ H s):X.env.locals<s.heap.objs.size:=let ⟨_,hn,_⟩:=I.loc;hn.lt
theorem Inv.sz (I:Inv X pins σ H s):X.s₀.heap.objs.size<=s.heap.objs.size:=le_trans I.ok.above (le_of_lt I.lt)
theorem Inv.MT (I:Inv X pins σ H s){a:Addr}(h:s.heap.objs.size<=a):a∉X.fs:=fun hb=>by
 obtain⟨_,o,ho,_⟩:=I.ok.qi.mem hb;exact absurd (lt_of_lt_of_le (lt_size ho) (le_trans I.sz h)) (lt_irrefl _)
theorem Inv.cne (I:Inv X pins σ H s):∀x c,X.env.cells.lookup x=some c->c≠X.env.locals:=fun x c e z=>by
 obtain⟨v,o,ho,hd⟩:=I.cell x c e;obtain⟨m,⟨o',es,ep,ho',hd',_⟩,_⟩:=I.loc;rw[z,ho'] at ho;cases ho;rw[hd'] at hd;cases hd
theorem Inv.qi (I:Inv X pins σ H s):s.heap.FunFrames X.base X.outer:=by
 have all:∀(l:List Env),(∀b∈frs l,b∈X.fs)->X.s₀.heap.FunFrames X.base l->s.heap.FunFrames X.base l:=by
  intro l
  induction l with
  | nil=>intro _ _;trivial
  | cons env r ih=>
   intro hs hl;obtain⟨hk,⟨L,o,hf,hn,ho,hd⟩,hr⟩:=hl;have hL:L∈X.fs:=hs L (by unfold frs;rw[List.filterMap_cons,hf];exact mem_cons_self);obtain⟨sl,e⟩:=I.base.slot L o ho (I.ok.frf L hL) hL fun z=>I.ok.exfs L z hL;exact⟨hk,⟨L,_,hf,hn,e,hd⟩,ih (fun b hb=>hs b (by unfold frs;rw[List.filterMap_cons,hf];exact mem_cons_of_mem _ hb)) hr⟩
 exact all X.outer (fun _ hb=>hb) I.ok.qi
theorem Inv.stack (I:Inv X pins σ H s):s.heap.FunFrames X.base X.stack:=by
 rcases I.ok.stk with e|⟨e,hf⟩
 ·rw[e];exact I.qi
 rw[e];obtain⟨m,hn,_⟩:=I.loc;refine .cons (by rw[I.ok.kind];decide) hf hn ?_ I.qi;exact Heap.get?_none_of_le (le_trans I.ok.bsz I.ok.above)
theorem Inv.qx (I:Inv X pins σ H s):∀b∈frs X.stack,b∈X.env.locals::X.fs:=fun b hb=>by
 rcases I.ok.stk with e|⟨e,hf⟩
 ·rw[e] at hb;exact mem_cons_of_mem _ hb
 rw[e] at hb;unfold frs at hb;rw[List.filterMap_cons,hf] at hb;exact hb
theorem Inv.zJ (I:Inv X pins σ H s):∀b∈frs X.stack,H b=none:=fun b hb=>by
 rcases mem_cons.mp (I.qx b hb) with e|hb
 ·rw[e];exact I.free
 obtain⟨_,o,ho,_⟩:=I.ok.qi.mem hb;exact I.base.free b o ho (I.ok.frf b hb) fun z=>I.ok.exfs b z hb
theorem Inv.step {g':Array GenState}{t':Nat}{d':Drawn}{ch:List Addr}(I:Inv X pins σ H s)
  (hch:∀b∈ch,(b∈X.ex\/X.s₀.heap.objs.size<=b)/\b≠X.env.locals/\(∀x c,X.env.cells.lookup x=some c->c≠b)/\∀p∈X.pn++pins,p.1≠b)
  (keep:∀b o,b≠X.env.locals->b∉X.fs->b∉ch->s.heap.get? b=some o->H b=none->h'.get? b=some o)
  (slot:∀b o,b≠X.env.locals->b∈X.fs->b∉ch->s.heap.get? b=some o->H b=none->∃sl,h'.get? b=some { o with slots:=sl }) (free:∀b o,b∉ch->s.heap.get? b=some o->H b=none->H' b=none)
  (there:∀b o,b∉ch->s.heap.get? b=some o->∃o',h'.get? b=some o')
  (tups:∀b xs,H b=some (.tup xs)->H' b=some (.tup xs)) (frzs:∀b o u,H b=some (.frz o u)->H' b=some (.frz o u)) (tbls:∀b ps,H b=some (.tbl ps)->∃more,H' b=some (.tbl (ps++more)))
  (ns:∀m,s.heap.Ns X.env.locals m->h'.Ns X.env.locals m) (hok:HOk X.prog X.w H' h') (hg:AllBare g') :
  Inv X pins σ H' { s with heap:=h',gens:=g',drawn:=d',toks:=t' }:=by
 have neL:∀b o,X.s₀.heap.get? b=some o->b≠X.env.locals:=fun b o e=>ne_of_lt (lt_of_lt_of_le (lt_size e) I.ok.above);have neC:∀b o,X.s₀.heap.get? b=some o->b∉X.ex->b∉ch:=fun b o e hx hb=>by
  rcases(hch b hb).1 with z|z
  ·exact hx z
  exact absurd (lt_of_lt_of_le (lt_size e) z) (lt_irrefl _)
 have cellK:∀x c,X.env.cells.lookup x=some c->∀v,s.heap.IsCell c v->h'.IsCell c v:=fun x c e v ⟨o,ho,hd⟩=>by
  have nch:c∉ch:=fun z=>(hch c z).2.2.1 x c e rfl;by_cases hc:c∈X.fs
  ·obtain⟨sl,q⟩:=slot c o (I.cne x c e) hc nch ho (I.freeC x c e);exact⟨_,q,hd⟩
  exact⟨o,keep c o (I.cne x c e) hc nch ho (I.freeC x c e),hd⟩
 refine⟨I.ok,I.os,hg,⟨fun b o e n hb hx=>?_,fun b o e n hb hx=>?_,fun b o e n hx=>?_,fun b o e hx=>?_,fun b xs e=>tups b xs (I.base.tups b xs e),fun b o xs e=>frzs b o xs (I.base.frzs b o xs e),fun b ps e=>?_⟩,?_,fun x c e=>?_,?_,fun x c e=>?_,fun p hp=>?_,hok,I.len⟩
 ·exact keep b o (neL b o e) hb (neC b o e hx) (I.base.keep b o e n hb hx) (I.base.free b o e n hx)
 ·obtain⟨sl,e1⟩:=I.base.slot b o e n hb hx;obtain⟨sl',e2⟩:=slot b _ (neL b o e) hb (neC b o e hx) e1 (I.base.free b o e n hx);exact⟨sl',e2⟩
 ·obtain⟨o',e1⟩:=I.base.there b o e hx;exact free b o' (neC b o e hx) e1 (I.base.free b o e n hx)
 ·obtain⟨o',e1⟩:=I.base.there b o e hx;exact there b o' (neC b o e hx) e1
 ·obtain⟨m1,e1⟩:=I.base.tbls b ps e;obtain⟨m2,e2⟩:=tbls b _ e1;exact⟨m1++m2,by rw[e2,Array.append_assoc]⟩
 ·obtain⟨m,hn,hl⟩:=I.loc;refine⟨m,ns m hn,fun i x v e1 e2 e3=>?_⟩;obtain⟨u,r,l⟩:=hl i x v e1 e2 e3;refine⟨u,r,?_⟩;rcases l with l|⟨k,c,e,z⟩
  ·exact .inl l
  exact .inr ⟨k,c,e,cellK x c e _ z⟩
 ·obtain⟨v,z⟩:=I.cell x c e;exact⟨v,cellK x c e v z⟩
 ·obtain⟨m,⟨o,_,_,ho,_⟩,_⟩:=I.loc;exact free _ o (fun z=>(hch _ z).2.1 rfl) ho I.free
 ·obtain⟨v,o,ho,hd⟩:=I.cell x c e;exact free c o (fun z=>(hch c z).2.2.1 x c e rfl) ho (I.freeC x c e)
 obtain⟨e,n,ne,nf,d⟩:=I.pin p hp;have nch:p.1∉ch:=fun z=>(hch p.1 z).2.2.2 p hp rfl;exact⟨keep p.1 p.2 ne nf nch e n,free p.1 p.2 nch e n,ne,nf,d⟩
theorem Inv.un {t':Nat}(I:Inv X pins σ H s)(u:Un X.fs [] H H' s.heap h')(hok:HOk X.prog X.w H' h'):Inv X pins σ H' { s with heap:=h',toks:=t' }:=by
 obtain⟨m,⟨o,es,ep,ho,r⟩,_⟩:=id I.loc;obtain⟨sl,hL⟩:=u.any ho I.free (by simp);exact I.step (g':=s.gens) (d':=s.drawn) (ch:=[]) (fun _ z=>nomatch z) (fun b o _ hb _ e n=>u.keep b o e n hb (by simp)) (fun b o _ hb _ e n=>u.slot b o e n hb (by simp)) (fun b o _ e n=>u.free b o e n (by simp)) (fun b o _ e=>u.there b o e (by simp)) u.tups u.frzs u.tbls (fun m' hm=>by
  obtain⟨o',es',ep',ho',r'⟩:=hm;rw[ho] at ho';cases ho';exact⟨_,es',ep',hL,r'⟩) hok I.bare
theorem Inv.call {g':Array GenState}{t':Nat}{d':Drawn}{ch:List Addr}(I:Inv X pins σ H s)(u:Un (frs X.stack) ch H H' s.heap h')(hok:HOk X.prog X.w H' h')(hg:AllBare g')
  (hch:∀b∈ch,(b∈X.ex\/X.s₀.heap.objs.size<=b)/\b≠X.env.locals/\(∀x c,X.env.cells.lookup x=some c->c≠b)/\∀p∈X.pn++pins,p.1≠b) :
  Inv X pins σ H' { s with heap:=h',gens:=g',drawn:=d',toks:=t' }:=by
 obtain⟨m,⟨o,es,ep,ho,r⟩,_⟩:=id I.loc;obtain⟨sl,hL⟩:=u.any ho I.free fun z=>(hch _ z).2.1 rfl;exact I.step (ch:=ch) hch (fun b o hL hb hc e n=>u.keep b o e n (fun z=>(mem_cons.mp (I.qx b z)).elim hL hb) hc) (fun b o _ _ hc e n=>u.any e n hc) (fun b o hc e n=>u.free b o e n hc) (fun b o hc e=>u.there b o e hc) u.tups u.frzs u.tbls (fun m' hm=>by
  obtain⟨o',es',ep',ho',r'⟩:=hm;rw[ho] at ho';cases ho';exact⟨_,es',ep',hL,r'⟩) hok hg
theorem Inv.turned {t':Nat}{it:Addr}(I:Inv X pins σ H s)(k:∀b o,b≠it->s.heap.get? b=some o->h'.get? b=some o)(hn:H it=none)(hL:it≠X.env.locals)
  (h1:it∈X.ex\/X.s₀.heap.objs.size<=it) (h2:∀x c,X.env.cells.lookup x=some c->c≠it) (h3:∀p∈X.pn++pins,p.1≠it):Inv X pins σ H { s with heap:=h',toks:=t' }:=by
 have nit:∀b u,H b=some u->b≠it:=fun b u e z=>by rw[z,hn] at e;cases e
 refine I.step (g':=s.gens) (d':=s.drawn) (ch:=[it]) (fun b hb=>?_) (fun b o _ _ hc e _=>k b o (fun z=>hc (by simp [z])) e) (fun b o _ _ hc e _=>⟨o.slots,k b o (fun z=>hc (by simp [z])) e⟩) (fun _ _ _ _ n=>n)
  (fun b o hc e=>⟨o,k b o (fun z=>hc (by simp [z])) e⟩) (fun _ _ e=>e) (fun _ _ _ e=>e) (fun b ps e=>⟨#[],by rw[e];simp⟩) (fun m hm=>?_) (fun b u e=>?_) I.bare
 ·have e:b=it:=by simpa using hb
  subst e;exact⟨h1,hL,h2,h3⟩
 ·obtain⟨o,es,ep,ho,r⟩:=hm;exact⟨o,es,ep,k _ o (Ne.symm hL) ho,r⟩
 refine(I.hok b u e).stay (fun c v hc q=>k c v ?_ q) (fun _ q=>q) fun _ _ q=>q;rcases hc with z|z
 ·rw[z];exact nit b u e
 exact nit c _ z
theorem Inv.tok (I:Inv X pins σ H s)(t:Nat):Inv X pins σ H { s with toks:=t }:=I.un (h':=s.heap) (t':=t) Un.refl I.hok
theorem Inv.kept {t':Nat}(I:Inv X pins σ H s)(k:∀b u,s.heap.get? b=some u->h'.get? b=some u):Inv X pins σ H { s with heap:=h',toks:=t' }:=I.un (Un.kept k) (I.hok.kept k)
theorem Inv.laid {a:Addr}{o:HO}{t':Nat}(I:Inv X pins σ H s)(k:∀b u,s.heap.get? b=some u->h'.get? b=some u)(hp:s.heap.objs.size<=a)(new:dU X.prog X.w (upd H a o) h' a o) :
  Inv X pins σ (upd H a o) { s with heap:=h',toks:=t' }:=I.un (Un.laid k hp (I.hok.fresh hp)) (I.hok.laid k hp new)
theorem Inv.write {x e:Addr}{o:HO}{t':Nat}(I:Inv X pins σ H s)(mu:Mut (H x))(he:e=x\/H e=some (.own x))(k:∀b u,b≠e->s.heap.get? b=some u->h'.get? b=some u)(heo:∃u,h'.get? e=some u)
  (new:dU X.prog X.w (upd H x o) h' x o):Inv X pins σ (upd H x o) { s with heap:=h',toks:=t' }:=I.un (Un.write mu he k heo) (I.hok.write mu he k heo new)
theorem Inv.lH {pins':List (Addr×Obj)}(I:Inv X pins σ H s)(h:∀p∈pins',s.heap.get? p.1=some p.2/\H p.1=none/\p.1≠X.env.locals/\p.1∉X.fs/\∀v,p.2.data≠.cell v):Inv X pins' σ H s:=
 ⟨I.ok,I.os,I.bare,I.base,I.loc,I.cell,I.free,I.freeC,fun p hp=>(mem_append.mp hp).elim (fun z=>I.pin p (List.mem_append_left _ z)) (h p),I.hok,I.len⟩
theorem wH {N:List Str}(hN:N.Nodup){i j:Nat}{x:Str}(a:N[i]?=some x)(b:N[j]?=some x):i=j:=by
 obtain⟨h1,e1⟩:=List.getElem?_eq_some_iff.mp a;obtain⟨h2,e2⟩:=List.getElem?_eq_some_iff.mp b;exact(List.getElem_inj hN).mp (e1.trans e2.symm)
theorem tQ {M:Model}{A:Around}{E:Value->Shared->Prop}{i:Nat}{x:Str}{v:V}{u:Value}{Q:Unit->Shared->Prop}(I:Inv X pins σ H s)(hN:X.N.Nodup)(hi:X.N[i]?=some x)(hx:Loc X.env.scope x)(r:RelV v u)
  (h:∀s',Inv X pins (σ.set i (some v)) H s'->(∃a,Heap.SameBut a s.heap s'.heap/\(a=X.env.locals\/X.env.cells.lookup x=some a))->Q () s') (hf:X.fn x=true\/X.env.scope.names.lookup x=some .local:=by first|exact .inl rfl|exact .inr rfl|assumption):wpAny M A (storeName X.env x u) Q E s:=by
 obtain⟨m,hn,hl⟩:=id I.loc;have hcls:(X.env.scope.kind == .class||(X.env.scope.kind == .module&&X.env.locals != X.env.globals))=false:=by rw[I.ok.kind];rfl
 have hiσ:i<σ.length:=by rw[I.len];exact(List.getElem?_eq_some_iff.mp hi).1
 have cne:=I.cne;have tracked:∀{a:Addr}{h':Heap},(∃o,s.heap.get? a=some o/\H a=none)->Heap.SameBut a s.heap h'->HOk X.prog X.w H h':=fun {a h'} ha hs b ob e=>by
  obtain⟨_,_,hfree⟩:=ha;refine(I.hok b ob e).stay (fun c w' hc q=>(hs.2 c ?_).trans q) (fun _ q=>q) fun _ _ q=>q;rintro rfl;rcases hc with rfl|hc
  ·rw[hfree] at e;cases e
  rw[hfree] at hc;cases hc
 rcases hx with hk|hk
 ·refine wpAny_storeName_local hk hn (fun h' hn' hs=>?_) hcls;obtain⟨oL,_,_,hoL,_⟩:=id hn;refine h _ ⟨I.ok,I.os,I.bare,⟨fun b o e n hb hx=>?_,fun b o e n hb hx=>?_,I.base.free,fun b o e hx=>?_,I.base.tups,I.base.frzs,I.base.tbls⟩,⟨_,hn',fun j y v' e1 e2 e3=>?_⟩,fun y c e=>?_,I.free,I.freeC,fun p hp=>?_,tracked ⟨oL,hoL,I.free⟩ hs,by simpa using I.len⟩ ⟨_,hs,.inl rfl⟩
  ·exact(hs.2 b (ne_of_lt (lt_of_lt_of_le (lt_size e) I.ok.above))).trans (I.base.keep b o e n hb hx)
  ·obtain⟨sl,e1⟩:=I.base.slot b o e n hb hx;exact⟨sl,(hs.2 b (ne_of_lt (lt_of_lt_of_le (lt_size e) I.ok.above))).trans e1⟩
  ·obtain⟨o',e1⟩:=I.base.there b o e hx;exact⟨o',(hs.2 b (ne_of_lt (lt_of_lt_of_le (lt_size e) I.ok.above))).trans e1⟩
  ·by_cases hj:j=i
   ·subst hj;rw[hi] at e1;cases e1;rw[List.getElem?_set_self hiσ] at e2;cases e2;exact⟨u,r,.inl ⟨hk,by simp⟩⟩
   rw[List.getElem?_set_ne (Ne.symm hj)] at e2;obtain⟨u',r',q⟩:=hl j y v' e1 e2 e3;refine⟨u',r',?_⟩;rcases q with⟨k,e⟩|⟨k,c,e,z⟩
   ·refine .inl ⟨k,?_⟩;have:y≠x:=fun e=>hj (wH hN e1 (e ▸ hi));simp [this,e]
   exact .inr ⟨k,c,e,z.sameBut hs (cne y c e)⟩
  ·obtain⟨w',z⟩:=I.cell y c e;exact⟨w',z.sameBut hs (cne y c e)⟩
  obtain⟨e,n,ne,nf,d⟩:=I.pin p hp;exact⟨(hs.2 p.1 ne).trans e,n,ne,nf,d⟩
 have hfn:X.fn x=true:=by
  rcases hf with z|z
  ·exact z
  rw[z] at hk;cases hk
 obtain⟨c,hc⟩:=I.ok.has x (.inl hk);obtain⟨w',z⟩:=I.cell x c hc;refine wpAny_storeName_cell I.ok.kind hk hc z (fun h' hc' hs=>?_);obtain⟨oc,hoc,hocd⟩:=id z;refine h { s with heap:=h' } ⟨I.ok,I.os,I.bare,⟨fun b o e n hb hx=>?_,fun b o e n hb hx=>?_,I.base.free,fun b o e hx=>?_,I.base.tups,I.base.frzs,I.base.tbls⟩,⟨m,hn.sameBut hs (Ne.symm (cne x c hc)),fun j y v' e1 e2 e3=>?_⟩,fun y c' e=>?_,I.free,I.freeC,fun p hp=>?_,tracked ⟨oc,hoc,I.freeC x c hc⟩ hs,by simpa using I.len⟩ ⟨c,hs,.inr hc⟩
 ·exact(hs.2 b (ne_of_lt (lt_of_lt_of_le (lt_size e) (I.ok.cab x c hfn hc)))).trans (I.base.keep b o e n hb hx)
 ·obtain⟨sl,e1⟩:=I.base.slot b o e n hb hx;exact⟨sl,(hs.2 b (ne_of_lt (lt_of_lt_of_le (lt_size e) (I.ok.cab x c hfn hc)))).trans e1⟩
 ·obtain⟨o',e1⟩:=I.base.there b o e hx;exact⟨o',(hs.2 b (ne_of_lt (lt_of_lt_of_le (lt_size e) (I.ok.cab x c hfn hc)))).trans e1⟩
 ·by_cases hj:j=i
  ·subst hj;rw[hi] at e1;cases e1;rw[List.getElem?_set_self hiσ] at e2;cases e2;exact⟨u,r,.inr ⟨.inl hk,c,hc,hc'⟩⟩
  rw[List.getElem?_set_ne (Ne.symm hj)] at e2;obtain⟨u',r',q⟩:=hl j y v' e1 e2 e3;refine⟨u',r',?_⟩;rcases q with q|⟨k,c',e,z'⟩
  ·exact .inl q
  refine .inr ⟨k,c',e,z'.sameBut hs ?_⟩;rintro rfl;exact hj (wH hN e1 (I.ok.inj _ _ _ e hc ▸ hi))
 ·by_cases hcc:c'=c
  ·subst hcc;exact⟨_,hc'⟩
  obtain⟨w2,z2⟩:=I.cell y c' e;exact⟨w2,z2.sameBut hs hcc⟩
 obtain⟨e,n,ne,nf,d⟩:=I.pin p hp;refine⟨(hs.2 p.1 ?_).trans e,n,ne,nf,d⟩;intro q;rw[q,hoc] at e;have q':oc=p.2:=Option.some.inj e;exact d w' (by rw[<- q'];exact hocd)
theorem mZ {M:Model}{A:Around}{E:Value->Shared->Prop}{i:Nat}{x:Str}{v:V}{u:Value}{Q:Unit->Shared->Prop}(I:Inv X pins σ H s)(hN:X.N.Nodup)(hi:X.N[i]?=some x)(hx:Loc X.env.scope x)(r:RelV v u)
  (h:∀s',Inv X pins (σ.set i (some v)) H s'->Q () s') (hf:X.fn x=true\/X.env.scope.names.lookup x=some .local:=by first|exact .inl rfl|exact .inr rfl|assumption):wpAny M A (storeName X.env x u) Q E s:=
 tQ I hN hi hx r (fun s' I' _=>h s' I') hf
theorem Inv.call' {s':Shared}{ch:List Addr}(I:Inv X pins σ H s)(ho:s'.os=s.os)(u:Un (frs X.stack) ch H H' s.heap s'.heap)(hok:HOk X.prog X.w H' s'.heap)(hg:AllBare s'.gens)
  (hch:∀b∈ch,(b∈X.ex\/X.s₀.heap.objs.size<=b)/\b≠X.env.locals/\(∀x c,X.env.cells.lookup x=some c->c≠b)/\∀p∈X.pn++pins,p.1≠b):Inv X pins σ H' s':=by
 obtain⟨h',g',d',t',o'⟩:=s';have e:o'=s.os:=ho;subst e;exact I.call (g':=g') (t':=t') (d':=d') u hok hg hch
end
noncomputable abbrev XK:=Value->Option Addr->Hp->Prop
noncomputable abbrev St:=List (Option V)
noncomputable abbrev VK:=V->Hp->Prop
noncomputable abbrev TE:=St->Hp->VK->Prop
noncomputable abbrev TT:=St->Hp->(Bool->Hp->Prop)->Prop
noncomputable abbrev TA:=St->Hp->(List V->Hp->Prop)->Prop
structure Ends where
 nx:St->Hp->Prop
 rt:VK
 bk:St->Hp->Prop:=fun _ _=>False
 ct:St->Hp->Prop:=fun _ _=>False
noncomputable abbrev TS:=Ends->St->Hp->Prop
noncomputable def EP (X:Cx)(pins:List (Addr×Obj))(σ:St)(Q:VK)(u:Value)(s':Shared):Prop:=∃v H',Inv X pins σ H' s'/\RelV v u/\Q v H'
noncomputable def TP (X:Cx)(pins:List (Addr×Obj))(σ:St)(Q:Bool->Hp->Prop)(b:Bool)(s':Shared):Prop:=∃H',Inv X pins σ H' s'/\Q b H'
noncomputable def AP (X:Cx)(pins:List (Addr×Obj))(σ:St)(Q:List V->Hp->Prop)(us:List Value)(s':Shared):Prop:=∃vs H',Inv X pins σ H' s'/\Vals vs us/\Q vs H'
noncomputable def SP (X:Cx)(pins:List (Addr×Obj))(D:Ends)(f:Flow)(s':Shared):Prop:=
 match f with
 | .next=>∃σ' H',Inv X pins σ' H' s'/\D.nx σ' H'
 | .brk=>∃σ' H',Inv X pins σ' H' s'/\D.bk σ' H'
 | .cont=>∃σ' H',Inv X pins σ' H' s'/\D.ct σ' H'
 | .ret u=>∃v σ' H',Inv X pins σ' H' s'/\RelV v u/\D.rt v H'
noncomputable def PE (X:Cx)(e:Expr)(t:TE):Prop:=
 ∀(pins:List (Addr×Obj)) (s:Shared) (σ:St) (H:Hp) (Q:VK),Inv X pins σ H s->t σ H Q->wpAny (model X.prog X.w) X.A (eval e X.env) (EP X pins σ Q) X.xe s
noncomputable def PT (X:Cx)(e:Expr)(t:TT):Prop:=
 ∀(pins:List (Addr×Obj)) (s:Shared) (σ:St) (H:Hp) (Q:Bool->Hp->Prop),Inv X pins σ H s->t σ H Q->wpAny (model X.prog X.w) X.A (isTrue e X.env (eval e X.env)) (TP X pins σ Q) X.xe s
noncomputable def PW (X:Cx)(e:Expr)(t:TT):Prop:=
 ∀(whole:Sem Value)(pins:List (Addr×Obj)) (s:Shared) (σ:St) (H:Hp) (Q:Bool->Hp->Prop),Inv X pins σ H s->t σ H Q->wpAny (model X.prog X.w) X.A (isTrue e X.env whole) (TP X pins σ Q) X.xe s
theorem PW.pt {X:Cx}{e:Expr}{t:TT}(h:PW X e t):PT X e t:=h _
noncomputable def PA (X:Cx)(es:List Expr)(t:TA):Prop:=
 ∀(pos:Pos)(pins:List (Addr×Obj)) (s:Shared) (σ:St) (H:Hp) (Q:List V->Hp->Prop),Inv X pins σ H s->t σ H Q->wpAny (model X.prog X.w) X.A (spliced (backTo pos (starEach es X.env))) (AP X pins σ Q) X.xe s
noncomputable def PS (X:Cx)(st:Stmt)(t:TS):Prop:=
 ∀(pins:List (Addr×Obj)) (s:Shared) (σ:St) (H:Hp) (D:Ends),Inv X pins σ H s->t D σ H->wpAny (model X.prog X.w) X.A (exec st X.env) (SP X pins D) X.xe s
noncomputable def PSs (X:Cx)(st:List Stmt)(t:TS):Prop:=
 ∀(pins:List (Addr×Obj)) (s:Shared) (σ:St) (H:Hp) (D:Ends),Inv X pins σ H s->t D σ H->wpAny (model X.prog X.w) X.A (execs st X.env) (SP X pins D) X.xe s
theorem thn {α:Type}{t:Sem α}{Q Q':α->Shared->Prop}{M:Model}{A:Around}{E:Value->Shared->Prop}{s:Shared}(h:wpAny M A t Q E s)(hQ:∀a s,Q a s->Q' a s):wpAny M A t Q' E s:=wpAny_mono h hQ fun _ _ x=>x
theorem thE {t:Sem Value}{X:Cx}{pins:List (Addr×Obj)}{σ:St}{Q:VK}{Q':Value->Shared->Prop}{M:Model}{A:Around}{E:Value->Shared->Prop}{s:Shared}(h:wpAny M A t (EP X pins σ Q) E s)(hQ:∀u s x H,Inv X pins σ H s->RelV x u->Q x H->Q' u s):wpAny M A t Q' E s:=thn h fun u s z=>by
 obtain⟨x,H,I,r,q⟩:=z;exact hQ u s x H I r q
theorem thA {t:Sem (List Value)}{X:Cx}{pins:List (Addr×Obj)}{σ:St}{Q:List V->Hp->Prop}{Q':List Value->Shared->Prop}{M:Model}{A:Around}{E:Value->Shared->Prop}{s:Shared}(h:wpAny M A t (AP X pins σ Q) E s)(hQ:∀u s x H,Inv X pins σ H s->Vals x u->Q x H->Q' u s):wpAny M A t Q' E s:=thn h fun u s z=>by
 obtain⟨x,H,I,r,q⟩:=z;exact hQ u s x H I r q
theorem thT {t:Sem Bool}{X:Cx}{pins:List (Addr×Obj)}{σ:St}{Q:Bool->Hp->Prop}{Q':Bool->Shared->Prop}{M:Model}{A:Around}{E:Value->Shared->Prop}{s:Shared}(h:wpAny M A t (TP X pins σ Q) E s)(hQ:∀u s H,Inv X pins σ H s->Q u H->Q' u s):wpAny M A t Q' E s:=thn h fun u s z=>by
 obtain⟨H,I,q⟩:=z;exact hQ u s H I q
section
variable {X:Cx}
noncomputable def Dm (i:Nat):TE:=fun σ H Q=>∃v,σ[i]?=some (some v)/\Q v H
noncomputable def tC (v:V):TE:=fun _ H Q=>Q v H
theorem FP {i:Nat}{x:Str}{pos:Pos}(hN:X.N[i]?=some x) (hv:Vis X.env.scope x) (hd:(x == ("__debug__" : Str))=false:=by decide) (hcd:(x == ("__classdict__" : Str))=false:=by decide):PE X (.Name x pos) (Dm i):=by
 intro pins s σ H Q I h;obtain⟨v,e,h⟩:=h;obtain⟨m,hn,hl⟩:=I.loc;obtain⟨u,r,l⟩:=hl i x v hN e hv;have fin:EP X pins σ Q u s:=⟨v,H,I,r,h⟩;rcases l with⟨hk,hm⟩|⟨hk,c,hc,hcell⟩
 ·exact wpAny_Name (wpAny_loadName_local I.ok.kind hk hn hm fin) hd
 rcases hk with hk|hk
 ·exact wpAny_Name (wpAny_loadName_cell I.ok.kind hk hc hcell fin) hd
 exact wpAny_Name (wpAny_loadName_free I.ok.kind hk hc hcell fin hcd) hd
theorem Mh {i j pos}:PE X (.Constant (.int i) j pos) (tC (.int i)):=fun _ _ _ H _ I h=>wpAny_Constant_int ⟨.int i,H,I.tok _,⟨_,rfl⟩,h⟩
theorem Ot {b j pos}:PE X (.Constant (.bool b) j pos) (tC (.bl b)):=fun _ _ _ H _ I h=>Constant_bool ⟨.bl b,H,I,rfl,h⟩
theorem LR {x j pos}:PE X (.Constant (.str x) j pos) (tC (.str x)):=fun _ _ _ H _ I h=>Calls.Constant_str ⟨.str x,H,I.tok _,⟨_,rfl⟩,h⟩
noncomputable def Gl (X:Cx)(x:Str):Prop:=X.env.kindOf x=some .globalImplicit
theorem Af {E:Value->Shared->Prop}{pins:List (Addr×Obj)}{s:Shared}{σ:St}{H:Hp}{x:Str}{u:Value}{pos:Pos}{Q:Value->Shared->Prop}(I:Inv X pins σ H s)(hg:Gl X x)(hm:X.mg x=some u)(h:Q u s)
  (hd:(x == ("__debug__" : Str))=false:=by decide):wpAny (model X.prog X.w) X.A (eval (.Name x pos) X.env) Q E s:=
 Calls.Name_function_global I.ok.kind hg (Calls.loadGlobal_global (by rw[I.ok.glob];exact I.mod.glob.keeps I.bk) hm h) hd
theorem jK {E:Value->Shared->Prop}{pins:List (Addr×Obj)}{s:Shared}{σ:St}{H:Hp}{x:Str}{u:Value}{pos:Pos}{Q:Value->Shared->Prop}(I:Inv X pins σ H s)(hg:Gl X x)(hm:X.mg x=none)(hv:bootBuiltins x=some u)(h:Q u s)
  (hn:x ≠ "__name__" := by decide) (hd:(x == ("__debug__" : Str))=false:=by decide):wpAny (model X.prog X.w) X.A (eval (.Name x pos) X.env) Q E s:=by
 obtain⟨mb,h1,h2⟩:=I.mod.blt;exact Calls.Name_function_global I.ok.kind hg (Calls.loadGlobal_builtin (by rw[I.ok.glob];exact I.mod.glob.keeps I.bk) hm (by rw[I.ok.blt];exact h1.keeps I.bk) ((h2 x hn).trans hv) h) hd
theorem Jv {x:Str}{v:V}{u:Value}{pos:Pos}(hg:Gl X x) (hm:X.mg x=some u) (r:RelV v u) (hd:(x == ("__debug__" : Str))=false:=by decide):PE X (.Name x pos) (tC v):=
 fun _ _ _ H _ I h=>Af I hg hm ⟨v,H,I,r,h⟩ hd
theorem JC {x:Str}{v:V}{u:Value}{pos:Pos}(hg:Gl X x) (hm:X.mg x=none) (hv:bootBuiltins x=some u) (r:RelV v u) (hn:x ≠ "__name__" := by decide) (hd:(x == ("__debug__" : Str))=false:=by decide):PE X (.Name x pos) (tC v):=
 fun _ _ _ H _ I h=>jK I hg hm hv ⟨v,H,I,r,h⟩ hn hd
variable {a b:Expr}{ta tb:TE}{pos:Pos}
noncomputable def tB (t:TE):TT:=fun σ H Q=>t σ H fun x H1=>∃c,x=.bl c/\Q c H1
theorem Ln {e:Expr}{t:TE}(h:PE X e t)(he:∀whole,isTrue e X.env whole=(do let v <- whole;standAt e.pos;holding [v] (truthy v)):=by intro _;rfl):PT X e (tB t):=by
 intro pins s σ H Q I hw;refine isTrue_plain (thE (h pins s σ H _ I hw) fun v s1 x H1 I1 r1 q1=>?_) (he _);obtain⟨d,rfl,q⟩:=q1;cases r1;exact wpAny_truthy_bool ⟨H1,I1,q⟩
variable {tA tB':TT}{rest:List Expr}
noncomputable def HX (t u:TT):TT:=fun σ H Q=>t σ H fun c H1=>if c=true then u σ H1 Q else Q false H1
noncomputable def tOr (t u:TT):TT:=fun σ H Q=>t σ H fun c H1=>if c=true then Q true H1 else u σ H1 Q
noncomputable def Dv (t:TT):TT:=fun σ H Q=>t σ H fun c H1=>Q (!c) H1
theorem Jb (ha:PT X a tA):PW X (.BoolOp .And [a] pos) tA:=by
 intro wh pins s σ H Q I h;refine isTrue_and (thn (ha pins s σ H Q I h) fun c s1 e=>?_);cases c with
 | true=>exact isTrue_and_nil e
 | false=>exact e
theorem Lj (ha:PT X a tA):PW X (.BoolOp .Or [a] pos) tA:=by
 intro wh pins s σ H Q I h;refine isTrue_or (thn (ha pins s σ H Q I h) fun c s1 e=>?_);cases c with
 | false=>exact isTrue_or_nil e
 | true=>exact e
theorem Lk (ha:PT X a tA)(hb:PW X (.BoolOp .And (b::rest) pos) tB'):PW X (.BoolOp .And (a::b::rest) pos) (HX tA tB'):=by
 intro wh pins s σ H Q I h;refine isTrue_and (thT (ha pins s σ H _ I h) fun c s1 H1 I1 q1=>?_);cases c with
 | true=>exact hb wh pins s1 σ H1 Q I1 q1
 | false=>exact⟨H1,I1,q1⟩
theorem Oc (ha:PT X a tA)(hb:PW X (.BoolOp .Or (b::rest) pos) tB'):PW X (.BoolOp .Or (a::b::rest) pos) (tOr tA tB'):=by
 intro wh pins s σ H Q I h;refine isTrue_or (thT (ha pins s σ H _ I h) fun c s1 H1 I1 q1=>?_);cases c with
 | true=>exact⟨H1,I1,q1⟩
 | false=>exact hb wh pins s1 σ H1 Q I1 q1
theorem Lq (ha:PT X a tA):PT X (.UnaryOp .Not a pos) (Dv tA):=by
 intro pins s σ H Q I h;exact isTrue_not (ha pins s σ H (fun c H1=>Q (!c) H1) I h)
noncomputable def DQ (ta tb:TE):TE:=fun σ H Q=>ta σ H fun x H1=>∃c,x=.bl c/\if c=true then tb σ H1 Q else Q (.bl false) H1
noncomputable def Du (ta:TE):TE:=fun σ H Q=>ta σ H fun x H1=>∃c,x=.bl c/\Q (.bl (!c)) H1
theorem Ma {op}{t:TE}(h:PE X a t):PE X (.BoolOp op [a] pos) t:=fun pins s σ H Q I hw=>BoolOp_one (h pins s σ H Q I hw)
theorem Mj (ha:PE X a ta)(hb:PE X (.BoolOp .And (b::rest) pos) tb):PE X (.BoolOp .And (a::b::rest) pos) (DQ ta tb):=by
 intro pins s σ H Q I h;refine BoolOp_and (thE (ha pins s σ H _ I h) fun v s1 x H1 I1 r1 q1=>?_);obtain⟨c,rfl,q1⟩:=q1;cases r1;refine wpAny_truthy_bool ?_;cases c with
 | true=>exact hb pins s1 σ H1 Q I1 q1
 | false=>exact⟨.bl false,H1,I1,rfl,q1⟩
theorem Mf (ha:PE X a ta):PE X (.UnaryOp .Not a pos) (Du ta):=by
 intro pins s σ H Q I h;refine UnaryOp_ (thE (ha pins s σ H _ I h) fun v s1 x H1 I1 r1 q1=>?_);obtain⟨c,rfl,q1⟩:=q1;cases r1;exact not_of (wpAny_truthy_bool ⟨.bl (!c),H1,I1,rfl,q1⟩)
noncomputable def tIf (t:TT)(ta tb:TE):TE:=fun σ H Q=>t σ H fun c H1=>if c=true then ta σ H1 Q else tb σ H1 Q
theorem FW {c:Expr}(hc:PT X c tA)(ha:PE X a ta)(hb:PE X b tb):PE X (.IfExp c a b pos) (tIf tA ta tb):=by
 intro pins s σ H Q I h;refine wpAny_IfExp (thT (hc pins s σ H _ I h) fun d s1 H1 I1 q1=>?_);cases d with
 | true=>exact ha pins s1 σ H1 Q I1 q1
 | false=>exact hb pins s1 σ H1 Q I1 q1
end
noncomputable def SqL (K:PySem.W.Frag)(H:Hp)(a:Addr)(xs:List V):Prop:=
 Rd H a (.lst xs) \/
  ∃(o:Obj)(its:Array Value)(n:Nat),K.lookup a=some o/\o.cls=.type "list" /\ o.dict=none/\o.data=.seq its n/\its.size<=sizeLine/\Vals xs its.toList
noncomputable def SqT (K:PySem.W.Frag)(H:Hp)(a:Addr)(xs:List V):Prop:=
 Rd H a (.tup xs) \/
  ∃(o:Obj)(its:Array Value)(n:Nat),K.lookup a=some o/\o.cls=.type "tuple" /\ o.data=.seq its n/\its.size<=sizeLine/\Vals xs its.toList
noncomputable def Qe:Value->Option V
 | .none=>some .non
 | .bool b=>some (.bl b)
 | .int i _=>some (.int i)
 | .str x _=>some (.str x)
 | .bytes b _=>some (.byt b)
 | .float b _=>some (.flt b)
 | .ref a=>some (.ref a)
 | .type n=>some (.ty n)
 | _=>none
theorem RelV.abs {x:V}{u:Value}(r:RelV x u):Qe u=some x:=by
 cases x with
 | non=>cases r;rfl
 | bl _=>cases r;rfl
 | int _=>obtain⟨t,rfl⟩:=r;rfl
 | str _=>obtain⟨t,rfl⟩:=r;rfl
 | byt _=>obtain⟨t,rfl⟩:=r;rfl
 | flt _=>obtain⟨t,rfl⟩:=r;rfl
 | ref _=>cases r;rfl
 | ty _=>cases r;rfl
theorem RelV.inj {x y:V}{u:Value}(r:RelV x u)(q:RelV y u):x=y:=Option.some.inj (r.abs.symm.trans q.abs)
theorem Vals.inj:∀{xs ys:List V}{us:List Value},Vals xs us->Vals ys us->xs=ys
 | _,_,_,.nil,.nil=>rfl
 | _,_,_,.cons r t,.cons r' t'=>by rw[r.inj r',Vals.inj t t']
section
variable {X:Cx}{pins:List (Addr×Obj)}{σ:St}{H:Hp}{s:Shared}{a:Addr}{xs ys:List V}
theorem SqL.of {K:PySem.W.Frag}(h:H a=some (.lst xs)):SqL K H a xs:=.inl (.inl h)
theorem SqT.of {K:PySem.W.Frag}(h:H a=some (.tup xs)):SqT K H a xs:=.inl (.inl h)
theorem Inv.list (I:Inv X pins σ H s)(h:SqL X.K H a xs):∃its:List Value,Vals xs its/\PlainL s.heap a its.toArray/\xs.length<=sizeLine:=by
 rcases h with h|⟨o,its,n,hk,hc,hd,hs,hz,r⟩
 ·obtain⟨z,its,n,r,e⟩:=h.ok I.hok;exact⟨its,r,⟨_,n,e,rfl,rfl,rfl⟩,z⟩
 refine⟨its.toList,r,⟨o,n,I.kIn a o hk,hc,hd,by simpa using hs⟩,?_⟩;have e:=r.length;simp only[length_toList] at e;omega
theorem Inv.tuple (I:Inv X pins σ H s)(h:SqT X.K H a xs):∃its:List Value,Vals xs its/\IsTup s.heap a its.toArray/\xs.length<=sizeLine:=by
 rcases h with h|⟨o,its,n,hk,hc,hs,hz,r⟩
 ·obtain⟨z,its,r,p⟩:=h.ok I.hok;exact⟨its,r,p,z⟩
 refine⟨its.toList,r,⟨o,I.kIn a o hk,hc,n,by simpa using hs⟩,?_⟩;have e:=r.length;simp only[length_toList] at e;omega
theorem Inv.wU (I:Inv X pins σ H s)(h:SqL X.K H a xs)(h':SqL X.K H a ys):xs=ys:=by
 obtain⟨its,r,⟨o,n,e,_,_,d⟩,_⟩:=I.list h;obtain⟨its',r',⟨o',n',e',_,_,d'⟩,_⟩:=I.list h';rw[e] at e';cases e';rw[d] at d';injection d' with d1 _;have:its=its':=by simpa using congrArg Array.toList d1
 subst this;exact r.inj r'
theorem Inv.tM (I:Inv X pins σ H s)(h:SqT X.K H a xs)(h':SqT X.K H a ys):xs=ys:=by
 obtain⟨its,r,⟨o,e,_,n,d⟩,_⟩:=I.tuple h;obtain⟨its',r',⟨o',e',_,n',d'⟩,_⟩:=I.tuple h';rw[e] at e';cases e';rw[d] at d';injection d' with d1 _;have:its=its':=by simpa using congrArg Array.toList d1
 subst this;exact r.inj r'
end
noncomputable abbrev Cx.wish (X:Cx)(E:Value->Shared->Prop):Cx:={ X with xe:=E }
noncomputable abbrev Cx.nox (X:Cx):Cx:=X.wish fun _ _=>False
theorem Cx.Ok.wish {X:Cx}(ok:X.Ok)(E:Value->Shared->Prop):(X.wish E).Ok:=
 ⟨ok.mod,ok.kind,ok.glob,ok.blt,ok.above,ok.inj,ok.has,ok.cab,ok.hd,ok.frames,ok.stk,ok.exf,ok.bs,ok.bsz,ok.noex,ok.exfs,ok.qi,ok.frf⟩
theorem Cx.Ok.jW {X:Cx}{E:Value->Shared->Prop}(ok:(X.wish E).Ok):X.Ok:=
 ⟨ok.mod,ok.kind,ok.glob,ok.blt,ok.above,ok.inj,ok.has,ok.cab,ok.hd,ok.frames,ok.stk,ok.exf,ok.bs,ok.bsz,ok.noex,ok.exfs,ok.qi,ok.frf⟩
section
variable {X:Cx}{pins:List (Addr×Obj)}{σ:St}{H:Hp}{s:Shared}{E:Value->Shared->Prop}
theorem Inv.wish (I:Inv X pins σ H s)(E:Value->Shared->Prop):Inv (X.wish E) pins σ H s:=⟨I.ok.wish E,I.os,I.bare,I.base,I.loc,I.cell,I.free,I.freeC,I.pin,I.hok,I.len⟩
theorem Inv.jW (I:Inv (X.wish E) pins σ H s):Inv X pins σ H s:=⟨I.ok.jW,I.os,I.bare,I.base,I.loc,I.cell,I.free,I.freeC,I.pin,I.hok,I.len⟩
theorem SP.jW {D:Ends}{f:Flow}{s':Shared}(h:SP (X.wish E) pins D f s'):SP X pins D f s':=by
 cases f with
 | next=>obtain⟨σ',H',I,q⟩:=h;exact⟨σ',H',I.jW,q⟩
 | brk=>obtain⟨σ',H',I,q⟩:=h;exact⟨σ',H',I.jW,q⟩
 | cont=>obtain⟨σ',H',I,q⟩:=h;exact⟨σ',H',I.jW,q⟩
 | ret u=>obtain⟨v,σ',H',I,r,q⟩:=h;exact⟨v,σ',H',I.jW,r,q⟩
theorem PSs.nox {st:List Stmt}{t:TS}(h:PSs X.nox st t):PSs X st t:=fun pins s σ H D I hw=>
 wpAny_mono (h pins s σ H D (I.wish _) hw) (fun _ _ q=>q.jW) fun _ _ z=>False.elim z
end
section
variable {X:Cx}{st:Stmt}{rest:List Stmt}{t u:TS}{e:Expr}{te:TE}{pos:Pos}
noncomputable def vO:TS:=fun D σ H=>D.nx σ H
noncomputable def Bo (t u:TS):TS:=fun D σ H=>t { D with nx:=u D } σ H
theorem Jg:PSs X [] vO:=fun _ _ σ H _ I h=>wpAny_execs_nil ⟨σ,H,I,h⟩
theorem Fw (h1:PS X st t)(h2:PSs X rest u):PSs X (st::rest) (Bo t u):=by
 intro pins s σ H D I h;refine wpAny_execs_cons (thn (h1 pins s σ H { D with nx:=u D } I h) fun f s1 q=>?_);cases f with
 | next=>
  obtain⟨σ',H',I',q⟩:=q;exact h2 pins s1 σ' H' D I' q
 | ret v=>exact q
 | brk=>exact q
 | cont=>exact q
theorem Jf (h1:PS X st t):PSs X [st] t:=by
 intro pins s σ H D I h;refine wpAny_execs_cons (thn (h1 pins s σ H D I h) fun f s1 q=>?_);cases f with
 | next=>exact wpAny_execs_nil q
 | ret v=>exact q
 | brk=>exact q
 | cont=>exact q
theorem Inv.quiet {pins:List (Addr×Obj)}{σ:St}{H:Hp}{s:Shared}(I:Inv X pins σ H s):interactive X.env=false:=by simp [interactive,I.ok.kind]
noncomputable def DK (te:TE):TS:=fun D σ H=>te σ H fun _ H1=>D.nx σ H1
theorem Ji (he:PE X e te)(hs:swapsWith e none pos.line X.env=pure false:=by rfl):PS X (.Expr e pos) (DK te):=by
 intro pins s σ H D I h;exact wpAny_Expr_any (thE (he pins s σ H _ I h) fun v s1 x H1 I1 r1 q1=>⟨σ,H1,I1,q1⟩) I.quiet hs
noncomputable def Dq (te:TE):TS:=fun D σ H=>te σ H D.rt
theorem Ls (he:PE X e te):PS X (.Return (some e) pos) (Dq te):=by
 intro pins s σ H D I h;exact wpAny_Return_some (thE (he pins s σ H _ I h) fun v s1 x H1 I1 r1 q1=>⟨x,σ,H1,I1,r1,q1⟩)
noncomputable def Bp (c:TT)(t u:TS):TS:=fun D σ H=>c σ H fun b H1=>if b=true then t D σ H1 else u D σ H1
theorem Oe {c:Expr}{a b:List Stmt}{tc:TT}(hc:PT X c tc)(ha:PSs X a t)(hb:PSs X b u):PS X (.If c a b pos) (Bp tc t u):=by
 intro pins s σ H D I h;refine wpAny_If (thT (hc pins s σ H _ I h) fun d s1 H1 I1 q1=>?_);cases d with
 | true=>exact ha pins s1 σ H1 D I1 q1
 | false=>exact hb pins s1 σ H1 D I1 q1
end
noncomputable abbrev TG:=V->St->Hp->(St->Hp->Prop)->Prop
noncomputable abbrev TGs:=List V->St->Hp->(St->Hp->Prop)->Prop
noncomputable def PG (X:Cx)(target:Expr)(t:TG):Prop:=
 ∀(pins:List (Addr×Obj)) (s:Shared) (σ:St) (H:Hp) (v:V) (u:Value) (Q:St->Hp->Prop),Inv X pins σ H s->RelV v u->t v σ H Q ->
  wpAny (model X.prog X.w) X.A (assign target X.env u) (fun _ s'=>∃σ' H',Inv X pins σ' H' s'/\Q σ' H') X.xe s
noncomputable def PGs (X:Cx)(ts:List Expr)(t:TGs):Prop:=
 ∀(pins:List (Addr×Obj)) (s:Shared) (σ:St) (H:Hp) (vs:List V) (us:List Value) (Q:St->Hp->Prop),Inv X pins σ H s->Vals vs us->t vs σ H Q ->
  wpAny (model X.prog X.w) X.A (assignInOrder ((assignEach ts X.env).map (·.2)) us) (fun _ s'=>∃σ' H',Inv X pins σ' H' s'/\Q σ' H') X.xe s
noncomputable abbrev Kr:=V->V->V->Hp->(Hp->Prop)->Prop
noncomputable def Ks (X:Cx)(t:Kr):Prop:=
 ∀(pins:List (Addr×Obj)) (s:Shared) (σ:St) (H:Hp) (o i v:V) (ov iv u:Value) (Q:Hp->Prop),Inv X pins σ H s->RelV o ov->RelV i iv->RelV v u->t o i v H Q ->
  wpAny (model X.prog X.w) X.A (setItem ov iv u) (fun _ s'=>∃H',Inv X pins σ H' s'/\Q H') X.xe s
section
variable {X:Cx}{pos:Pos}
noncomputable def jR (i:Nat):TG:=fun v σ H Q=>Q (σ.set i (some v)) H
theorem zY {i:Nat}{x:Str}(hN:X.N.Nodup)(hi:X.N[i]?=some x)(hx:Loc X.env.scope x)(hf:X.fn x=true\/X.env.scope.names.lookup x=some .local:=by first|exact .inl rfl|exact .inr rfl|assumption):PG X (.Name x pos) (jR i):=by
 intro pins s σ H v u Q I r h;exact wpAny_assign_Name (mZ I hN hi hx r (fun s' I'=>⟨_,H,I',h⟩) hf)
noncomputable def Nv:TGs:=fun vs σ H Q=>vs=[]/\Q σ H
noncomputable def G3 (t:TG)(u:TGs):TGs:=fun vs σ H Q=>∃v r,vs=v::r/\t v σ H fun σ' H'=>u r σ' H' Q
theorem Jr:PGs X [] Nv:=by
 intro pins s σ H vs us Q I r h;obtain⟨e,h⟩:=h;subst e;cases r;exact assignInOrder_nil ⟨σ,H,I,h⟩
theorem FN {e:Expr}{es:List Expr}{t:TG}{u:TGs}(h1:PG X e t)(h2:PGs X es u)
  (hs:(assignEach (e::es) X.env).map (·.2)=assign e X.env::(assignEach es X.env).map (·.2):=by rfl):PGs X (e::es) (G3 t u):=by
 intro pins s σ H vs us Q I r h;obtain⟨v,vr,e1,h⟩:=h;subst e1;cases r with
 | cons r rr=>
  rw[hs];refine assignInOrder_cons (thn (h1 pins s σ H _ _ _ I r h) fun _ s1 ⟨σ1,H1,I1,q1⟩=>?_);exact h2 pins s1 σ1 H1 _ _ Q I1 rr q1
noncomputable def Qc (K:PySem.W.Frag)(n:Nat)(t:TGs):TG:=fun v σ H Q=>∃a xs,v=.ref a/\SqT K H a xs/\xs.length=n/\t xs σ H Q
theorem LC {es:List Expr}{k:Nat}{t:TGs}{n:Nat}(hc:X.calm=true)(h:PGs X es t)
  (hn:(assignEach es X.env).length=n:=by rfl) (hst:(assignEach es X.env).findIdx? (·.1)=none:=by rfl):PG X (.Tuple es k pos) (Qc X.K n t):=by
 intro pins s σ H v u Q I r hw;obtain⟨a,xs,e1,hq,hl,hw⟩:=hw;subst e1;cases r;obtain⟨its,rv,ht,hz⟩:=I.tuple hq;refine assign_Tuple_tuple (I.ok.hd hc) ht (by simp [hn,<- hl,rv.length]) hst fun h' hx=>?_;have I1:Inv X pins σ H { s with heap:=h' }:=I.kept (t':=s.toks) fun b o e=>hx b o (ne_of_lt (lt_size e)) e;exact h pins _ σ H xs _ Q I1 (by simpa using rv) hw
noncomputable def Nt (to ti:TE)(t:Kr):TG:=fun v σ H Q=>to σ H fun o H1=>ti σ H1 fun i H2=>t o i v H2 fun H3=>Q σ H3
theorem LK {o i:Expr}{to ti:TE}{t:Kr}(ho:PE X o to)(hi:PE X i ti)(hs:Ks X t)
  (ha:∀v,assign (.Subscript o i pos) X.env v=(do
   let ov <- holding [v] (eval o X.env)
   let iv <- holding [v,ov] (eval i X.env)
   standAt pos
   holding [v,ov,iv] (setItem ov iv v)
   release [v,ov,iv] []):=by intro _;rfl):PG X (.Subscript o i pos) (Nt to ti t):=by
 intro pins s σ H v u Q I r h;rw[ha];refine wpAny_bind (wpAny_holding (thE (ho pins s σ H _ I h) fun ov s1 x H1 I1 r1 q1=>?_));refine wpAny_bind (wpAny_holding (thE (hi pins s1 σ H1 _ I1 q1) fun iv s2 y H2 I2 r2 q2=>?_));refine wpAny_bind (wpAny_standAt (wpAny_bind (wpAny_holding (thn (hs pins s2 σ H2 x y v ov iv u _ I2 r1 r2 r q2) fun _ s3 ⟨H3,I3,q3⟩=>?_))));exact wpAny_release ⟨σ,H3,I3,q3⟩
noncomputable def rZ (te:TE)(g:TG):TS:=fun D σ H=>te σ H fun x H1=>g x σ H1 D.nx
theorem Ly {tg e:Expr}{te:TE}{g:TG}(he:PE X e te)(hg:PG X tg g)(hs:swapsWithSole [tg] e pos.line X.env=pure false:=by rfl)(hw:swappedStores [tg] e X.env=pure none:=by rfl)
  (h1:(assignEach [tg] X.env).map (·.2)=[assign tg X.env]:=by rfl):PS X (.Assign [tg] e pos) (rZ te g):=by
 intro pins s σ H D I h;refine wpAny_Assign_stores (thE (he pins s σ H _ I h) fun v s1 x H1 I1 r1 q1=>?_) hs hw;rw[h1];exact thn (hg pins s1 σ H1 x v _ I1 r1 q1) fun _ s2 q=>q
theorem Lr {i:Nat}{x:Str}{e:Expr}{te:TE}{pos':Pos}(hN:X.N.Nodup)(hi:X.N[i]?=some x)(hx:Loc X.env.scope x)(he:PE X e te)(hs:swapsWith e (some (.Name x pos')) pos.line X.env=pure false:=by rfl)(hf:X.fn x=true\/X.env.scope.names.lookup x=some .local:=by first|exact .inl rfl|exact .inr rfl|assumption) :
  PS X (.Assign [.Name x pos'] e pos) (rZ te (jR i)):=by
 intro pins s σ H D I h;refine wpAny_Assign_Name (thE (he pins s σ H _ I h) fun v s1 y H1 I1 r1 q1=>?_) hs;exact mZ I1 hN hi hx r1 (fun s2 I2=>⟨_,H1,I2,q1⟩) hf
noncomputable def KZ (i j:Nat)(ta:TA):TS:=fun D σ H=>ta σ H fun vs H1=>∃v w,vs=[v,w]/\D.nx ((σ.set i (some v)).set j (some w)) H1
theorem Lw {i j:Nat}{x y:Str}{a b:Expr}{ta:TA}{px py pt:Pos}{kt k2 pt2}(hc:X.calm=true)(hN:X.N.Nodup)(hi:X.N[i]?=some x)(hj:X.N[j]?=some y)(hij:i≠j)
  (hx:X.env.scope.names.lookup x=some .local) (hy:X.env.scope.names.lookup y=some .local) (ha:PA X [a,b] ta)
  (hw:swappedStores [.Tuple [.Name x px,.Name y py] kt pt] (.Tuple [a,b] k2 pt2) X.env=pure (some [x,y]))
  (hs:swapsWithSole [.Tuple [.Name x px,.Name y py] kt pt] (.Tuple [a,b] k2 pt2) pos.line X.env=pure false:=by rfl) :
  PS X (.Assign [.Tuple [.Name x px,.Name y py] kt pt] (.Tuple [a,b] k2 pt2) pos) (KZ i j ta):=by
 intro pins s σ H D I h;rw[exec_Assign_arm];refine wpAny_bind (wpAny_standAt ?_);rw[hs];refine wpAny_bind (wpAny_pure ?_);rw[if_neg δ];refine wpAny_bind (Tuple_ (thA (ha _ pins s σ H _ I h) fun us s1 vs H1 I1 r1 q1=>?_));obtain⟨v,w,e1,q1⟩:=q1;subst e1;obtain⟨u1,u2,rfl,rv,rw'⟩:∃u1 u2,us=[u1,u2]/\RelV v u1/\RelV w u2:=by
  cases r1 with
  | cons p q=>
   cases q with
   | cons p' q'=>
    cases q';exact⟨_,_,rfl,p,p'⟩
 refine wpAny_newObj_type ?_ (by show 2<=sizeLine;decide);have I2:Inv X pins σ H1 { s1 with heap:=s1.heap.push { cls:=.type "tuple",data:=.seq [u1,u2].toArray } }:=I1.kept (t':=s1.toks) fun b o e=>get?_push_of_some _ e;rw[hw];refine wpAny_bind (wpAny_pure ?_);show wpAny (model X.prog X.w) X.A (do rule "assign.swapped-stores";let items <- unpackItems (.ref s1.heap.objs.size) 2 none;assignInOrder [fun v=>bindName X.env y v,fun v=>bindName X.env x v] items.reverse;pure Flow.next) _ _ _;refine wpAny_bind (wpAny_rule (wpAny_bind (unpackItems_tuple (items:=#[u1,u2]) (I.ok.hd hc) (IsTup.new s1.heap _) fun h' hx'=>?_)));have I3:=I2.kept (h':=h') (t':=s1.toks) fun b o e=>hx' b o (ne_of_lt (lt_size e)) e;show wpAny _ _ (assignInOrder [fun v=>bindName X.env y v,fun v=>bindName X.env x v] [u2,u1] >>= fun _=>pure Flow.next) _ _ _;refine wpAny_bind (assignInOrder_cons (wpAny_bindName (mZ I3 hN hj (.inl hy) rw' (fun s2 I4=>?_) (.inr hy))));refine assignInOrder_cons (wpAny_bindName (mZ I4 hN hi (.inl hx) rv (fun s3 I5=>assignInOrder_nil (wpAny_pure ?_)) (.inr hx)));rw[List.set_comm _ _ (Ne.symm hij)] at I5;exact⟨_,H1,I5,q1⟩
noncomputable def Dl (c:TT)(tb:TS):TS:=fun D σ H=>∃W:Nat->St->Hp->Prop,(∃m,W m σ H)/\∀m σ H,W m σ H ->
 c σ H fun b H1=>if b=true then ∃N:St->Hp->Prop,(∀σ' H',N σ' H'->∃m',m'<m/\W m' σ' H')/\tb { D with nx:=N,ct:=N,bk:=D.nx } σ H1 else D.nx σ H1
theorem Fx {c:Expr}{body:List Stmt}{tc:TT}{tb:TS}(hp:PassesOwn (model X.prog X.w) X.A X.env X.xe)(hc:PT X c tc)(hb:PSs X body tb):PS X (.While c body [] pos) (Dl tc tb):=by
 intro pins s σ H D I h;obtain⟨W,⟨m0,w0⟩,turn⟩:=h;refine wpAny_While (codeAny_whileLoop (fun n s'=>∃σ' H',Inv X pins σ' H' s'/\W n σ' H') ?_ m0 ⟨σ,H,I,w0⟩);rintro n s1 ⟨σ1,H1,I1,w1⟩;refine wpAny_passesOwn hp (thT (hc pins s1 σ1 H1 _ I1 (turn n σ1 H1 w1)) fun b s2 H2 I2 q2=>?_);cases b with
 | true=>
  obtain⟨N,hN,q2⟩:=q2;rw[if_pos rfl];refine wpAny_passesOwn hp (thn (hb pins s2 σ1 H2 _ I2 q2) fun f s3 q3=>?_);cases f with
  | next=>
   obtain⟨σ3,H3,I3,n3⟩:=q3;obtain⟨m',hm,w3⟩:=hN σ3 H3 n3;exact⟨m',hm,σ3,H3,I3,w3⟩
  | cont=>
   obtain⟨σ3,H3,I3,n3⟩:=q3;obtain⟨m',hm,w3⟩:=hN σ3 H3 n3;exact⟨m',hm,σ3,H3,I3,w3⟩
  | brk=>exact q3
  | ret v=>exact q3
 | false=>
  rw[if_neg Bool.false_ne_true];exact wpAny_execs_nil ⟨σ1,H2,I2,q2⟩
end
structure It where
 go:Nat->Hp->Prop
 yld:Nat->Hp->V->Hp->Prop
 stop:Nat->Hp->Prop
noncomputable def qj (X:Cx)(pins:List (Addr×Obj))(H:Hp)(b:Addr):Prop:=
 H b=none/\b≠X.env.locals/\b∉X.fs/\(b∈X.ex\/X.s₀.heap.objs.size<=b)/\(∀x c,X.env.cells.lookup x=some c->c≠b)/\∀p∈X.pn++pins,p.1≠b
theorem Inv.G6 {X:Cx}{pins:List (Addr×Obj)}{σ:St}{H H':Hp}{s:Shared}{b:Addr}(I:Inv X pins σ H s)(hb:s.heap.objs.size<=b)(hn:H' b=none):qj X pins H' b:=by
 refine⟨hn,ne_of_gt (lt_of_lt_of_le I.lt hb),I.MT hb,.inr (le_trans I.sz hb),fun x c e z=>?_,fun p hp z=>?_⟩
 ·obtain⟨v,q⟩:=I.cell x c e;exact absurd (lt_of_lt_of_le q.lt (by rw[z];exact hb)) (lt_irrefl _)
 exact absurd (lt_of_lt_of_le (lt_size (I.pin p hp).1) (by rw[z];exact hb)) (lt_irrefl _)
structure Turn (P:Program)(w:World)(K:PySem.W.Frag)(tg:Expr)(J:It)(fp:List Addr)(it:Addr)(tn:Nat->Heap->Prop):Prop where
 mem:it∈fp
 obj:∀i h,tn i h->∀b∈fp,∃o,h.get? b=some o/\∀v,o.data≠.cell v
 keep:∀i h h',tn i h->(∀b∈fp,∀o,h.get? b=some o->h'.get? b=some o)->tn i h'
 item:∀(X:Cx),X.prog=P->X.w=w->X.K=K->X.calm=true->∀(i:Nat)(pins:List (Addr×Obj)) (s:Shared) (σ:St) (H:Hp) (E:Value->Shared->Prop),Inv X pins σ H s->(∀b∈fp,qj X pins H b)->tn i s.heap->J.go i H ->
  wpAny (model P w) X.A (pyNext (.ref it)) (fun r s1=>∃u,r=some u /\
   wpAny (model P w) X.A (letOwnedTupleGo tg (.ref it) u) (fun _ s2=>∃x H',Inv X pins σ H' s2/\RelV x u/\J.yld i H x H'/\tn (i+1) s2.heap/\∀b∈fp,H' b=none) E s1) E s
 done:∀(X:Cx),X.prog=P->X.w=w->X.K=K->X.calm=true->∀(i:Nat)(pins:List (Addr×Obj)) (s:Shared) (σ:St) (H:Hp) (E:Value->Shared->Prop),Inv X pins σ H s->(∀b∈fp,qj X pins H b)->tn i s.heap->J.stop i H ->
  wpAny (model P w) X.A (pyNext (.ref it)) (fun r s1=>r=none/\Inv X pins σ H s1) E s
 self:∀(A:Around)(i:Nat)(s:Shared)(Q:Value->Shared->Prop)(E:Value->Shared->Prop),tn i s.heap->Q (.ref it) s->wpAny (model P w) A (pyIter (.ref it)) Q E s
noncomputable abbrev TI:=St->Hp->(It->Hp->Prop)->Prop
noncomputable def PIE (X:Cx)(pins:List (Addr×Obj))(σ:St)(tg:Expr)(R:It->Hp->Prop)(itv:Value)(s2:Shared):Prop:=
 ∃(it:Addr)(fp:List Addr)(tn:Nat->Heap->Prop)(J:It)(H':Hp),itv=.ref it/\Inv X pins σ H' s2/\Turn X.prog X.w X.K tg J fp it tn/\tn 0 s2.heap/\(∀b∈fp,qj X pins H' b)/\R J H'
noncomputable def PI (X:Cx)(tg iter:Expr)(wi:TI):Prop:=
 ∀(pins:List (Addr×Obj)) (s:Shared) (σ:St) (H:Hp) (R:It->Hp->Prop),Inv X pins σ H s->wi σ H R ->
  wpAny (model X.prog X.w) X.A (eval iter X.env) (fun v s1=>wpAny (model X.prog X.w) X.A (pyIter v) (PIE X pins σ tg R) X.xe s1) X.xe s
theorem GR {M:Model}{A:Around}{E:Value->Shared->Prop}{s:Shared}{tg:Expr}{it:Addr}{u:Value}{o:Obj}{n:String}{vs:Array Value}{Q:Unit->Shared->Prop}(ho:s.heap.get? it=some o)(hc:o.cls=.type n)(hd:o.data=.fields vs)
  (hn:["enumerate","zip","dict_itemiterator","dict_reverseitemiterator","odict_iterator","itertools.zip_longest","itertools.pairwise"].contains n=false) (hQ:Q () s):wpAny M A (letOwnedTupleGo tg (.ref it) u) Q E s:=by
 unfold letOwnedTupleGo;cases tg <;> first
  | exact wpAny_pure hQ
  | (cases u <;> first
    | exact wpAny_pure hQ
    | (refine wpAny_bind (wpAny_load ho ?_)
       rw[hc,hd];show wpAny M A (if (["enumerate","zip","dict_itemiterator","dict_reverseitemiterator","odict_iterator","itertools.zip_longest","itertools.pairwise"].contains n&&vs[0]? == some (rawInt _))=true then _ else _) Q E s;rw[if_neg (by intro h;rw[hn,Bool.false_and] at h;cases h)];exact wpAny_pure hQ))
noncomputable def Itl (K:PySem.W.Frag)(a:Addr):It:=
 ⟨fun i H=>∃xs x,SqL K H a xs/\xs[i]?=some x,fun i H x H'=>H'=H/\∀xs,SqL K H a xs->xs[i]?=some x,fun i H=>∃xs,SqL K H a xs/\xs.length<=i⟩
noncomputable def Itt (K:PySem.W.Frag)(a:Addr):It:=
 ⟨fun i H=>∃xs x,SqT K H a xs/\xs[i]?=some x,fun i H x H'=>H'=H/\∀xs,SqT K H a xs->xs[i]?=some x,fun i H=>∃xs,SqT K H a xs/\xs.length<=i⟩
noncomputable def Itr (lo:Int)(n:Nat):It:=⟨fun i _=>i<n,fun i H x H'=>H'=H/\x=.int (lo+i),fun i _=>n<=i⟩
theorem Bg {P:Program}{w:World}{K:PySem.W.Frag}{tg:Expr}(a it:Addr):Turn P w K tg (Itl K a) [it] it (fun i h=>h.IsListIter it a i) where
 mem:=by simp
 obj:=fun i h st b hb=>by
  have e:b=it:=by simpa using hb
  subst e;obtain⟨o,e,c,d⟩:=st;exact⟨o,e,fun v z=>by rw[d] at z;cases z⟩
 keep:=fun i h h' st k=>st.at fun o e=>k it (by simp) o e
 item:=by
  intro X hP hw hK hc i pins s σ H E I hf st hg;subst hP hw hK;obtain⟨xs,x,hq,hx⟩:=hg;obtain⟨its,rv,p,hz⟩:=I.list hq;obtain⟨u,hu,ru⟩:=rv.get hx;obtain⟨f0,f1,f2,f3,f4,f5⟩:=hf it (by simp);refine wpAny_pyNext_list_item st p.isList (x:=u) (by simpa using hu) fun h' st' sb=>?_;have I1:Inv X pins σ H { s with heap:=h' }:=I.turned (t':=s.toks) (fun b o hb e=>(sb.2 b hb).trans e) f0 f1 f3 f4 f5;obtain⟨o,e,c,d⟩:=id st';exact⟨u,rfl,GR (s:={ s with heap:=h' }) e c d δ ⟨x,H,I1,ru,⟨rfl,fun ys hy=>by rw[I.wU hy hq];exact hx⟩,st',fun b hb=>(hf b hb).1⟩⟩
 done:=by
  intro X hP hw hK hc i pins s σ H E I hf st hg;subst hP hw hK;obtain⟨xs,hq,hx⟩:=hg;obtain⟨its,rv,p,hz⟩:=I.list hq;obtain⟨f0,f1,f2,f3,f4,f5⟩:=hf it (by simp);have hl:=rv.length;exact wpAny_pyNext_list_end (I.ok.hd hc) st p.isList (by simp;omega) fun h' eb=>⟨rfl,I.turned (t':=s.toks) (fun b o hb e=>eb b o hb e) f0 f1 f3 f4 f5⟩
 self:=fun _ _ _ _ _ st h=>wpAny_pyIter_listiter st h
theorem xY {P:Program}{w:World}{K:PySem.W.Frag}{tg:Expr}(a it:Addr):Turn P w K tg (Itt K a) [it] it (fun i h=>h.IsTupleIter it a i) where
 mem:=by simp
 obj:=fun i h st b hb=>by
  have e:b=it:=by simpa using hb
  subst e;obtain⟨o,e,c,d⟩:=st;exact⟨o,e,fun v z=>by rw[d] at z;cases z⟩
 keep:=fun i h h' st k=>st.at fun o e=>k it (by simp) o e
 item:=by
  intro X hP hw hK hc i pins s σ H E I hf st hg;subst hP hw hK;obtain⟨xs,x,hq,hx⟩:=hg;obtain⟨its,rv,p,hz⟩:=I.tuple hq;obtain⟨u,hu,ru⟩:=rv.get hx;obtain⟨f0,f1,f2,f3,f4,f5⟩:=hf it (by simp);refine wpAny_pyNext_tuple_item st (show s.heap.IsTuple a its.toArray from p) (x:=u) (by simpa using hu) fun h' st' sb=>?_;have I1:Inv X pins σ H { s with heap:=h' }:=I.turned (t':=s.toks) (fun b o hb e=>(sb.2 b hb).trans e) f0 f1 f3 f4 f5;obtain⟨o,e,c,d⟩:=id st';exact⟨u,rfl,GR (s:={ s with heap:=h' }) e c d δ ⟨x,H,I1,ru,⟨rfl,fun ys hy=>by rw[I.tM hy hq];exact hx⟩,st',fun b hb=>(hf b hb).1⟩⟩
 done:=by
  intro X hP hw hK hc i pins s σ H E I hf st hg;subst hP hw hK;obtain⟨xs,hq,hx⟩:=hg;obtain⟨its,rv,p,hz⟩:=I.tuple hq;obtain⟨f0,f1,f2,f3,f4,f5⟩:=hf it (by simp);have hl:=rv.length;exact wpAny_pyNext_tuple_end (I.ok.hd hc) st (show s.heap.IsTuple a its.toArray from p) (by simp;omega) fun h' eb=>⟨rfl,I.turned (t':=s.toks) (fun b o hb e=>eb b o hb e) f0 f1 f3 f4 f5⟩
 self:=fun _ _ _ _ _ st h=>wpAny_pyIter_tupleiter st h
theorem xZ {P:Program}{w:World}{K:PySem.W.Frag}{tg:Expr}(it:Addr)(lo:Int)(n:Nat):Turn P w K tg (Itr lo n) [it] it (fun i h=>IsRangeIter h it (lo+(i:Nat)*1) ((n:Int)-(i:Nat)) 1) where
 mem:=by simp
 obj:=fun i h st b hb=>by
  have e:b=it:=by simpa using hb
  subst e;exact⟨_,st,fun v z=>by
   have z':Data.fields _=Data.cell v:=z;cases z'⟩
 keep:=fun i h h' st k=>k it (by simp) _ st
 item:=by
  intro X hP hw hK hc i pins s σ H E I hf st hg;subst hP hw hK;obtain⟨f0,f1,f2,f3,f4,f5⟩:=hf it (by simp);have W:=Walks.range (prog:=X.prog) (w:=X.w) (I.ok.hd hc) it lo 1 n;refine W.item i s _ _ hg st fun v h' tk hv st' kk=>?_;obtain⟨t,rfl⟩:=hv;have I1:Inv X pins σ H { s with heap:=h',toks:=tk }:=I.turned (fun b o hb e=>kk b o (by simpa using hb) e) f0 f1 f3 f4 f5;refine⟨_,rfl,GR (s:={ s with heap:=h',toks:=tk }) (n := "range_iterator") st' rfl rfl δ ⟨.int (lo+i),H,I1,⟨t,?_⟩,⟨rfl,rfl⟩,st',fun b hb=>(hf b hb).1⟩⟩;rw[Int.mul_one]
 done:=by
  intro X hP hw hK hc i pins s σ H E I hf st hg;subst hP hw hK;obtain⟨f0,f1,f2,f3,f4,f5⟩:=hf it (by simp);exact wpAny_pyNext_range_end (I.ok.hd hc) st (by have:n<=i:=hg;omega) fun h' eb=>⟨rfl,I.turned (t':=s.toks) (fun b o hb e=>eb b o hb e) f0 f1 f3 f4 f5⟩
 self:=fun _ _ _ _ _ st h=>wpAny_pyIter_rangeiter st h
section
variable {X:Cx}{tg:Expr}
theorem Ep {pins:List (Addr×Obj)}{σ:St}{H:Hp}{s:Shared}{R:It->Hp->Prop}{E:Value->Shared->Prop}{lo hi:Int}{t u v:Tok}{tk:Nat}(I:Inv X pins σ H s)(h1:-(2^62)<=lo)(h2:lo<2^62)(h3:-(2^62)<=hi)(h4:hi<2^62)
  (q:R (Itr lo (hi-lo).toNat) H):wpAny (model X.prog X.w) X.A (pyIter (.ref s.heap.objs.size)) (PIE X pins σ tg R) E { s with heap:=s.heap.push { cls:=.type "range",data:=.fields #[.int lo t,.int hi u,.int 1 v] },toks:=tk }:=by
 refine wpAny_pyIter_range (IsRange.new ..) (small_one h1 h2 h3 h4) ?_;have I1:Inv X pins σ H { s with heap:=s.heap.push { cls:=.type "range",data:=.fields #[.int lo t,.int hi u,.int 1 v] },toks:=tk }:=I.kept fun b o e=>get?_push_of_some _ e;refine⟨(s.heap.push { cls:=.type "range",data:=.fields #[.int lo t,.int hi u,.int 1 v] }).objs.size,[(s.heap.push { cls:=.type "range",data:=.fields #[.int lo t,.int hi u,.int 1 v] }).objs.size],_,_,H,rfl,
  I1.kept (t':=tk) fun b o e=>get?_push_of_some _ e,xZ _ lo (hi-lo).toNat,?_,fun b hb=>?_,q⟩
 ·have e1:lo+((0:Nat):Int)*1=lo:=by simp
  have e2:(((hi-lo).toNat:Nat):Int)-((0:Nat):Int)=Builtin.Range.rangeSize lo hi 1:=by rw[rangeSize_one];split <;> omega
  show IsRangeIter _ _ (lo+((0:Nat):Int)*1) ((((hi-lo).toNat:Nat):Int)-((0:Nat):Int)) 1;rw[e1,e2];exact get?_push_size _ rfl
 have e:b=(s.heap.push { cls:=.type "range",data:=.fields #[.int lo t,.int hi u,.int 1 v] }).objs.size:=by simpa using hb
 subst e;exact I1.G6 (le_refl _) (I1.hok.fresh (le_refl _))
noncomputable def wV (ta:TA):TI:=fun σ H R=>ta σ H fun vs H1=>∃j:Int,vs=[.int j]/\-(2^62)<=j/\j<2^62/\R (Itr 0 j.toNat) H1
theorem BK {a:Expr}{ta:TA}{p pos:Pos}(hg:Gl X "range") (hm:X.mg "range" = none) (ha:PA X [a] ta) (hs:starEach [a] X.env=[(false,eval a X.env)]:=by rfl):PI X tg (.Call (.Name "range" p) [a] [] pos) (wV ta):=by
 intro pins s σ H R I h;refine Call_ (jK I hg hm boot_range (PyProof.Rows.callWith_type1 (thA (ha pos pins s σ H _ I h) fun us s1 vs H1 I1 r1 q1=>?_) hs rfl));obtain⟨j,e,q1,q2,q⟩:=q1;subst e;cases r1 with
 | cons r rr=>
  cases rr;obtain⟨t,rfl⟩:=r;exact call_range_1 (Ep I1 ω ω q1 q2 (by simpa using q))
noncomputable def K1 (wi:TI)(g:TG)(tb:TS):TS:=fun D σ H=>wi σ H fun J H1=>∃W:Nat->Nat->St->Hp->Prop,(∃m,W 0 m σ H1)/\∀i m σ H,W i m σ H ->
 (J.stop i H/\D.nx σ H)\/(J.go i H/\∃N:St->Hp->Prop,(∀σ' H',N σ' H'->∃m',m'<m/\W (i+1) m' σ' H')/\∀x H',J.yld i H x H'->g x σ H' fun σ2 H2=>tb { D with nx:=N,ct:=N,bk:=D.nx } σ2 H2)
noncomputable def jh (fp:List Addr)(h:Heap):List (Addr×Obj):=fp.filterMap fun b=>(h.get? b).map fun o=>(b,o)
theorem jH {fp:List Addr}{h:Heap}{b:Addr}{o:Obj}(hb:b∈fp)(e:h.get? b=some o):(b,o)∈jh fp h:=List.mem_filterMap.mpr ⟨b,hb,by rw[e];rfl⟩
theorem oK {fp:List Addr}{h:Heap}{p:Addr×Obj}(hp:p∈jh fp h):p.1∈fp/\h.get? p.1=some p.2:=by
 obtain⟨b,hb,e⟩:=List.mem_filterMap.mp hp;cases q:h.get? b with
 | none=>rw[q] at e;cases e
 | some o=>
  rw[q] at e;have e':(b,o)=p:=Option.some.inj e;subst e';exact⟨hb,q⟩
theorem Inv.pinned {pins:List (Addr×Obj)}{σ:St}{H:Hp}{s:Shared}{fp:List Addr}(I:Inv X pins σ H s)(hf:∀b∈fp,qj X pins H b)(ho:∀b∈fp,∃o,s.heap.get? b=some o/\∀v,o.data≠.cell v):Inv X (pins++jh fp s.heap) σ H s:=
 I.lH fun p hp=>(mem_append.mp hp).elim (fun z=>I.pin p (mem_append_right _ z)) fun z=>by
  obtain⟨hb,e⟩:=oK z;obtain⟨f0,f1,f2,_⟩:=hf p.1 hb;obtain⟨o,e',d⟩:=ho p.1 hb;rw[e] at e';cases e';exact⟨e,f0,f1,f2,d⟩
theorem Inv.jX {pins pl:List (Addr×Obj)}{σ:St}{H:Hp}{s:Shared}(I:Inv X (pins++pl) σ H s):Inv X pins σ H s:=I.lH fun p hp=>I.pin p (mem_append_right _ (List.mem_append_left _ hp))
theorem Lx {iter:Expr}{body:List Stmt}{wi:TI}{g:TG}{tb:TS}{pos:Pos}(hp:PassesOwn (model X.prog X.w) X.A X.env X.xe)(hc:X.calm=true)(hi:PI X tg iter wi)(hg:PG X tg g)(hb:PSs X body tb)
  (hs:∀x,foldedSetIterable iter X.env x=pure x:=by intro _;rfl):PS X (.For tg iter body [] pos) (K1 wi g tb):=by
 intro pins s σ H D I h;refine wpAny_For (thn (hi pins s σ H _ I h) fun v s1 h1=>thn h1 fun itv s2 h2=>?_) hs;obtain⟨it,fp,tn,J,H2,e,I2,T,st2,f2,W,⟨m0,w0⟩,turn⟩:=h2;subst e
 -- what stays true of the iterator's objects through the loop
 have stat:∀{H':Hp},(∀b∈fp,H' b=none)->∀b∈fp,qj X pins H' b:=fun hn b hb=>⟨hn b hb,(f2 b hb).2⟩;refine codeAny_forLoop_any (fun n s'=>∃i σ' H',Inv X pins σ' H' s'/\tn i s'.heap/\(∀b∈fp,H' b=none)/\W i n σ' H') ?_ m0 ⟨0,σ,H2,I2,st2,fun b hb=>(f2 b hb).1,w0⟩;rintro n s3 ⟨i,σ3,H3,I3,st3,fr3,w3⟩;rcases turn i n σ3 H3 w3 with⟨stop,qn⟩|⟨go,N,hN,step⟩
 ·refine wpAny_passesOwn hp (thn (T.done X rfl rfl rfl hc i pins s3 σ3 H3 X.xe I3 (stat fr3) st3 stop) fun r s4 ⟨hr,I4⟩=>?_);subst hr;exact wpAny_execs_nil ⟨σ3,H3,I4,qn⟩
 refine wpAny_passesOwn hp (thn (T.item X rfl rfl rfl hc i pins s3 σ3 H3 X.xe I3 (stat fr3) st3 go) fun r s4 ⟨u,hr,h4⟩=>?_);subst hr;refine wpAny_passesOwn hp (thn h4 fun _ s5 ⟨x,H5,I5,r5,y5,st5,fr5⟩=>?_);have I5':=I5.pinned (stat fr5) (T.obj _ _ st5);refine wpAny_passesOwn hp (thn (hg _ s5 σ3 H5 x u _ I5' r5 (step x H5 y5)) fun _ s6 ⟨σ6,H6,I6,q6⟩=>?_);refine wpAny_passesOwn hp (thn (hb _ s6 σ6 H6 _ I6 q6) fun f s7 q7=>?_);have again:∀{σ7:St}{H7:Hp},Inv X (pins++jh fp s5.heap) σ7 H7 s7->N σ7 H7->∃m,m<n/\∃i σ' H',Inv X pins σ' H' s7/\tn i s7.heap/\(∀b∈fp,H' b=none)/\W i m σ' H':=fun {σ7 H7} I7 n7=>by
  obtain⟨m',hm,w7⟩:=hN σ7 H7 n7;refine⟨m',hm,i+1,σ7,H7,I7.jX,T.keep _ _ _ st5 fun b hb o e=>(I7.pin (b,o) (mem_append_right _ (mem_append_right _ (jH hb e)))).1,fun b hb=>?_,w7⟩;obtain⟨o,e,d⟩:=T.obj _ _ st5 b hb;exact(I7.pin (b,o) (mem_append_right _ (mem_append_right _ (jH hb e)))).2.1
 cases f with
 | next=>obtain⟨σ7,H7,I7,n7⟩:=q7;exact again I7 n7
 | cont=>obtain⟨σ7,H7,I7,n7⟩:=q7;exact again I7 n7
 | brk=>obtain⟨σ7,H7,I7,q7⟩:=q7;exact⟨σ7,H7,I7.jX,q7⟩
 | ret v=>obtain⟨x7,σ7,H7,I7,r7,q7⟩:=q7;exact⟨x7,σ7,H7,I7.jX,r7,q7⟩
end
theorem G8 {K:PySem.W.Frag}{a:Addr}{xs:List V}{g:TG}{tb:TS}{D:Ends}{σ:St}{H:Hp}(Pv:Nat->St->Hp->Prop)(h0:Pv 0 σ H)(hl:∀i σ H,i<=xs.length->Pv i σ H->SqL K H a xs)
  (hs:∀i x σ H,xs[i]?=some x->Pv i σ H->g x σ H fun σ2 H2=>tb { D with nx:=Pv (i+1),ct:=Pv (i+1),bk:=D.nx } σ2 H2) (hd:∀σ H,Pv xs.length σ H->D.nx σ H) :
  ∃W:Nat->Nat->St->Hp->Prop,(∃m,W 0 m σ H)/\∀i m σ H,W i m σ H ->
   ((Itl K a).stop i H/\D.nx σ H)\/((Itl K a).go i H/\∃N:St->Hp->Prop,(∀σ' H',N σ' H'->∃m',m'<m/\W (i+1) m' σ' H')/\∀x H',(Itl K a).yld i H x H'->g x σ H' fun σ2 H2=>tb { D with nx:=N,ct:=N,bk:=D.nx } σ2 H2):=by
 refine⟨fun i m σ H=>m=xs.length-i/\i<=xs.length/\Pv i σ H,⟨xs.length,by simp,zero_le _,h0⟩,?_⟩;rintro i m σ H ⟨rfl,hi,p⟩;have q:=hl i σ H hi p;by_cases hlt:i<xs.length
 ·refine .inr ⟨⟨xs,xs[i],q,by simp [hlt]⟩,Pv (i+1),fun σ' H' p'=>⟨xs.length-(i+1),ω,rfl,hlt,p'⟩,fun x H' y=>?_⟩;obtain⟨e,y⟩:=y;subst e;exact hs i x σ _ (y xs q) p
 have e:i=xs.length:=ω;subst e;exact .inl ⟨⟨xs,q,le_refl _⟩,hd σ H p⟩
theorem Cu {lo:Int}{n:Nat}{g:TG}{tb:TS}{D:Ends}{σ:St}{H:Hp}(Pv:Nat->St->Hp->Prop)(h0:Pv 0 σ H)
  (hs:∀i σ H,i<n->Pv i σ H->g (.int (lo+i)) σ H fun σ2 H2=>tb { D with nx:=Pv (i+1),ct:=Pv (i+1),bk:=D.nx } σ2 H2) (hd:∀σ H,Pv n σ H->D.nx σ H) :
  ∃W:Nat->Nat->St->Hp->Prop,(∃m,W 0 m σ H)/\∀i m σ H,W i m σ H ->
   ((Itr lo n).stop i H/\D.nx σ H)\/((Itr lo n).go i H/\∃N:St->Hp->Prop,(∀σ' H',N σ' H'->∃m',m'<m/\W (i+1) m' σ' H')/\∀x H',(Itr lo n).yld i H x H'->g x σ H' fun σ2 H2=>tb { D with nx:=N,ct:=N,bk:=D.nx } σ2 H2):=by
 refine⟨fun i m σ H=>m=n-i/\i<=n/\Pv i σ H,⟨n,by simp,zero_le _,h0⟩,?_⟩;rintro i m σ H ⟨rfl,hi,p⟩;by_cases hlt:i<n
 ·refine .inr ⟨hlt,Pv (i+1),fun σ' H' p'=>⟨n-(i+1),ω,rfl,hlt,p'⟩,fun x H' y=>?_⟩;obtain⟨e,y⟩:=y;subst e y;exact hs i σ _ hlt p
 have e:i=n:=ω;subst e;exact .inl ⟨le_refl _,hd σ H p⟩
noncomputable abbrev R2:=V->V->Hp->VK->Prop
noncomputable def OpR (X:Cx)(f:Value->Value->Sem Value)(r:R2):Prop:=
 ∀(pins:List (Addr×Obj)) (s:Shared) (σ:St) (H:Hp) (x y:V) (v u:Value) (Q:VK),Inv X pins σ H s->RelV x v->RelV y u->r x y H Q ->
  wpAny (model X.prog X.w) X.A (f v u) (EP X pins σ Q) X.xe s
noncomputable def UnR (X:Cx)(f:Value->Sem Value)(r:V->Hp->VK->Prop):Prop:=
 ∀(pins:List (Addr×Obj)) (s:Shared) (σ:St) (H:Hp) (x:V) (v:Value) (Q:VK),Inv X pins σ H s->RelV x v->r x H Q ->
  wpAny (model X.prog X.w) X.A (f v) (EP X pins σ Q) X.xe s
noncomputable def eE (X:Cx)(f:Value)(r:List V->Hp->VK->Prop):Prop:=
 ∀(pins:List (Addr×Obj)) (s:Shared) (σ:St) (H:Hp) (xs:List V) (us:List Value) (Q:VK),Inv X pins σ H s->Vals xs us->r xs H Q ->
  wpAny (model X.prog X.w) X.A (call f us) (EP X pins σ Q) X.xe s
noncomputable def Qg (X:Cx)(r:V->Hp->(Bool->Hp->Prop)->Prop):Prop:=
 ∀(pins:List (Addr×Obj)) (s:Shared) (σ:St) (H:Hp) (x:V) (v:Value) (Q:Bool->Hp->Prop),Inv X pins σ H s->RelV x v->r x H Q ->
  wpAny (model X.prog X.w) X.A (truthy v) (TP X pins σ Q) X.xe s
noncomputable def tOp (r:R2)(ta tb:TE):TE:=fun σ H Q=>ta σ H fun x H1=>tb σ H1 fun y H2=>r x y H2 Q
noncomputable def tUn (r:V->Hp->VK->Prop)(ta:TE):TE:=fun σ H Q=>ta σ H fun x H1=>r x H1 Q
noncomputable def rI (C:Int->Int->Prop)(g:Int->Int->V):R2:=fun x y H Q=>∃i j,x=.int i/\y=.int j/\C i j/\Q (g i j) H
noncomputable def rI0 (g:Int->Int->V):R2:=fun x y H Q=>∃i j,x=.int i/\y=.int j/\Q (g i j) H
noncomputable def rU (g:Int->V):V->Hp->VK->Prop:=fun x H Q=>∃i,x=.int i/\Q (g i) H
section
variable {X:Cx}{a b c:Expr}{ta tb tc:TE}{pos:Pos}
theorem NQ (ha:PE X a ta)(hb:PE X b tb){pins:List (Addr×Obj)}{s:Shared}{σ:St}{H:Hp}{R:V->V->Hp->Prop}(I:Inv X pins σ H s)
  (h:ta σ H fun x H1=>tb σ H1 fun y H2=>R x y H2) {Q:Value->Shared->Prop} {f:Value->Value->Sem Value}
  (hf:∀v u s2 x y H2,Inv X pins σ H2 s2->RelV x v->RelV y u->R x y H2->wpAny (model X.prog X.w) X.A (f v u) Q X.xe s2) :
  wpAny (model X.prog X.w) X.A (eval a X.env) (fun v s₁=>wpAny (model X.prog X.w) X.A (eval b X.env) (fun u s₂=>wpAny (model X.prog X.w) X.A (f v u) Q X.xe s₂) X.xe s₁) X.xe s:=by
 refine thE (ha pins s σ H _ I h) fun v s1 x H1 I1 r1 q1=>?_;refine thE (hb pins s1 σ H1 _ I1 q1) fun u s2 y H2 I2 r2 q2=>?_;exact hf v u s2 x y H2 I2 r1 r2 q2
theorem Oi {op:Operator}{r:R2}(ho:OpR X (binaryOp op) r)(ha:PE X a ta)(hb:PE X b tb):PE X (.BinOp a op b pos) (tOp r ta tb):=by
 intro pins s σ H Q I h;exact wpAny_BinOp (NQ ha hb I h fun v u s2 x y H2 I2 rx ry q=>ho pins s2 σ H2 x y v u Q I2 rx ry q)
theorem Oh {op:UnaryOp}{r:V->Hp->VK->Prop}(ho:UnR X (unaryOp op) r)(ha:PE X a ta):PE X (.UnaryOp op a pos) (tUn r ta):=by
 intro pins s σ H Q I h;exact UnaryOp_ (thE (ha pins s σ H _ I h) fun v s1 x H1 I1 r1 q1=>ho pins s1 σ H1 x v Q I1 r1 q1)
theorem opI {f:Value->Value->Sem Value}{C:Int->Int->Prop}{g:Int->Int->Int}
  (rule:∀(i j:Int)(t u:Tok)(s:Shared)(Q:Value->Shared->Prop)(E:Value->Shared->Prop),C i j->Q (.int (g i j) s.toks) { s with toks:=s.toks+1 }->wpAny (model X.prog X.w) X.A (f (.int i t) (.int j u)) Q E s) :
  OpR X f (rI C fun i j=>.int (g i j)):=by
 intro pins s σ H x y v u Q I rx ry h;obtain⟨i,j,rfl,rfl,hc,q⟩:=h;obtain⟨t,rfl⟩:=rx;obtain⟨t',rfl⟩:=ry;exact rule i j t t' s _ _ hc ⟨.int (g i j),H,I.tok _,⟨_,rfl⟩,q⟩
theorem Ox {f:Value->Value->Sem Value}{g:Int->Int->Int}
  (rule:∀(i j:Int)(t u:Tok)(s:Shared)(Q:Value->Shared->Prop)(E:Value->Shared->Prop),Q (.int (g i j) s.toks) { s with toks:=s.toks+1 }->wpAny (model X.prog X.w) X.A (f (.int i t) (.int j u)) Q E s) :
  OpR X f (rI0 fun i j=>.int (g i j)):=by
 intro pins s σ H x y v u Q I rx ry h;obtain⟨i,j,rfl,rfl,q⟩:=h;obtain⟨t,rfl⟩:=rx;obtain⟨t',rfl⟩:=ry;exact rule i j t t' s _ _ ⟨.int (g i j),H,I.tok _,⟨_,rfl⟩,q⟩
theorem JG {f:Value->Value->Sem Value}{g:Int->Int->Bool}
  (rule:∀(i j:Int)(t u:Tok)(s:Shared)(Q:Value->Shared->Prop)(E:Value->Shared->Prop),Q (.bool (g i j)) s->wpAny (model X.prog X.w) X.A (f (.int i t) (.int j u)) Q E s) :
  OpR X f (rI0 fun i j=>.bl (g i j)):=by
 intro pins s σ H x y v u Q I rx ry h;obtain⟨i,j,rfl,rfl,q⟩:=h;obtain⟨t,rfl⟩:=rx;obtain⟨t',rfl⟩:=ry;exact rule i j t t' s _ _ ⟨.bl (g i j),H,I,rfl,q⟩
noncomputable def N7 (i j:Int):Prop:=0<=j/\j<=1000000/\i.natAbs<2^64
noncomputable def Di (i j:Int):Prop:=(-(2^64)<i/\i<2^64)\/(-(2^64)<j/\j<2^64)
theorem Di.ok {i j:Int}(h:Di i j):IntMulOk i j:=by
 rcases h with⟨h1,h2⟩|⟨h1,h2⟩
 ·exact .of_left (intBits_le_64 h1 h2)
 exact .of_right (intBits_le_64 h1 h2)
theorem Mz:OpR X (binaryOp .Add) (rI0 fun i j=>.int (i+j)):=Ox fun _ _ _ _ _ _ _ q=>add_int q
theorem iC:OpR X (binaryOp .Sub) (rI0 fun i j=>.int (i-j)):=Ox fun _ _ _ _ _ _ _ q=>sub_int q
theorem Ms:OpR X (binaryOp .Mult) (rI Di fun i j=>.int (i*j)):=opI fun _ _ _ _ _ _ _ hc q=>mul_int q hc.ok
theorem gm:OpR X (binaryOp .Mod) (rI (fun _ j=>0<j) fun i j=>.int (i%j)):=opI fun i j _ _ _ _ _ hc q=>by
 have h1:(0:Int)<j:=hc;exact mod_int' ω (by rw[Int.fmod_eq_emod_of_nonneg i ω];exact q)
theorem oJ:OpR X (binaryOp .Pow) (rI N7 fun i j=>.int (i^j.toNat)):=opI fun _ _ _ _ _ _ _ hc q=>pow_int_small hc.1 hc.2.1 hc.2.2 q
theorem Mp:OpR X (binaryOp .LShift) (rI N7 fun i j=>.int (i*2^j.toNat)):=opI fun _ _ _ _ _ _ _ hc q=>lshift_int_small hc.1 hc.2.1 hc.2.2 q
theorem unI {f:Value->Sem Value}{g:Int->Int}
  (rule:∀(i:Int)(t:Tok)(s:Shared)(Q:Value->Shared->Prop)(E:Value->Shared->Prop),Q (.int (g i) s.toks) { s with toks:=s.toks+1 }->wpAny (model X.prog X.w) X.A (f (.int i t)) Q E s) :
  UnR X f (rU fun i=>.int (g i)):=by
 intro pins s σ H x v Q I rx h;obtain⟨i,rfl,q⟩:=h;obtain⟨t,rfl⟩:=rx;exact rule i t s _ _ ⟨.int (g i),H,I.tok _,⟨_,rfl⟩,q⟩
theorem iy:UnR X (unaryOp .USub) (rU fun i=>.int (-i)):=unI fun _ _ _ _ _ q=>neg_int q
end
noncomputable def El:V->V->Bool
 | .non,.non=>true | .non,.int _=>true | .int _,.non=>true | .non,.bl _=>true | .bl _,.non=>true | .non,.str _=>true | .str _,.non=>true
 | .int _,.int _=>true | .bl _,.bl _=>true | .str _,.str _=>true | .byt _,.byt _=>true
 | .int _,.str _=>true | .str _,.int _=>true | .bl _,.str _=>true | .str _,.bl _=>true
 | _,_=>false
noncomputable def rEq:R2:=fun x y H Q=>El x y=true/\Q (.bl (decide (x=y))) H
noncomputable def rNe:R2:=fun x y H Q=>El x y=true/\Q (.bl (!decide (x=y))) H
theorem Aw {i j:Int}:decide (V.int i=V.int j)=(i == j):=by
 rw[Bool.eq_iff_iff];simp
theorem Hi {i j:Bool}:decide (V.bl i=V.bl j)=(i == j):=by
 rw[Bool.eq_iff_iff];simp
theorem Av {i j:Str}:decide (V.str i=V.str j)=(i == j):=by
 rw[Bool.eq_iff_iff];simp
theorem Ax {i j:Array UInt8}:decide (V.byt i=V.byt j)=(i.toList == j.toList):=by
 rw[Bool.eq_iff_iff];cases i;cases j;simp
section
variable {X:Cx}{a b c:Expr}{ta tb tc:TE}{pos:Pos}
theorem bW {pins:List (Addr×Obj)}{σ:St}{H:Hp}{s:Shared}{Q:VK}{k k':Bool}(I:Inv X pins σ H s)(q:Q (.bl k) H)(e:k=k'):EP X pins σ Q (.bool k') s:=by
 subst e;exact⟨.bl k,H,I,rfl,q⟩
theorem Ow:OpR X (compareOp .Eq) rEq:=by
 intro pins s σ H x y v u Q I rx ry h;obtain⟨hs,q⟩:=h;cases x with
 | non=>
  cases rx;cases y with
  | non=>cases ry;exact PySem.EqNone.eq_none_none (bW I q (by simp))
  | bl j=>cases ry;exact PySem.EqNone.eq_none_bool (bW I q (by simp))
  | int j=>obtain⟨t',rfl⟩:=ry;exact PySem.EqNone.eq_none_int (bW I q (by simp))
  | str j=>obtain⟨t',rfl⟩:=ry;exact PySem.EqNone.eq_none_str (bW I q (by simp))
  | _=>exact absurd (show false=true from hs) Bool.false_ne_true
 | bl i=>
  cases rx;cases y with
  | non=>cases ry;exact PySem.EqNone.eq_bool_none (bW I q (by simp))
  | bl j=>cases ry;exact eq_bool (bW I q Hi)
  | str j=>obtain⟨t',rfl⟩:=ry;exact PySem.EqMixed.eq_bool_str (bW I q (by simp))
  | _=>exact absurd (show false=true from hs) Bool.false_ne_true
 | int i=>
  obtain⟨t,rfl⟩:=rx;cases y with
  | non=>cases ry;exact PySem.EqNone.eq_int_none (bW I q (by simp))
  | int j=>obtain⟨t',rfl⟩:=ry;exact eq_int (bW I q Aw)
  | str j=>obtain⟨t',rfl⟩:=ry;exact PySem.EqMixed.eq_int_str (bW I q (by simp))
  | _=>exact absurd (show false=true from hs) Bool.false_ne_true
 | str i=>
  obtain⟨t,rfl⟩:=rx;cases y with
  | non=>cases ry;exact PySem.EqNone.eq_str_none (bW I q (by simp))
  | bl j=>cases ry;exact PySem.EqMixed.eq_str_bool (bW I q (by simp))
  | int j=>obtain⟨t',rfl⟩:=ry;exact PySem.EqMixed.eq_str_int (bW I q (by simp))
  | str j=>obtain⟨t',rfl⟩:=ry;exact eq_str (bW I q Av)
  | _=>exact absurd (show false=true from hs) Bool.false_ne_true
 | byt i=>
  obtain⟨t,rfl⟩:=rx;cases y with
  | byt j=>obtain⟨t',rfl⟩:=ry;exact PySem.W.eq_bytes (bW I q Ax)
  | _=>exact absurd (show false=true from hs) Bool.false_ne_true
 | _=>cases y <;> exact absurd (show false=true from hs) Bool.false_ne_true
theorem Ov:OpR X (compareOp .NotEq) rNe:=by
 intro pins s σ H x y v u Q I rx ry h;obtain⟨hs,q⟩:=h;cases x with
 | non=>
  cases rx;cases y with
  | non=>cases ry;exact PySem.EqNone.ne_none_none (bW I q (by simp))
  | bl j=>cases ry;exact PySem.EqNone.ne_none_bool (bW I q (by simp))
  | int j=>obtain⟨t',rfl⟩:=ry;exact PySem.EqNone.ne_none_int (bW I q (by simp))
  | str j=>obtain⟨t',rfl⟩:=ry;exact PySem.EqNone.ne_none_str (bW I q (by simp))
  | _=>exact absurd (show false=true from hs) Bool.false_ne_true
 | bl i=>
  cases rx;cases y with
  | non=>cases ry;exact PySem.EqNone.ne_bool_none (bW I q (by simp))
  | bl j=>cases ry;exact ne_bool (bW I q (congrArg not Hi))
  | str j=>obtain⟨t',rfl⟩:=ry;exact PySem.EqMixed.ne_bool_str (bW I q (by simp))
  | _=>exact absurd (show false=true from hs) Bool.false_ne_true
 | int i=>
  obtain⟨t,rfl⟩:=rx;cases y with
  | non=>cases ry;exact PySem.EqNone.ne_int_none (bW I q (by simp))
  | int j=>obtain⟨t',rfl⟩:=ry;exact ne_int (bW I q (congrArg not Aw))
  | str j=>obtain⟨t',rfl⟩:=ry;exact PySem.EqMixed.ne_int_str (bW I q (by simp))
  | _=>exact absurd (show false=true from hs) Bool.false_ne_true
 | str i=>
  obtain⟨t,rfl⟩:=rx;cases y with
  | non=>cases ry;exact PySem.EqNone.ne_str_none (bW I q (by simp))
  | bl j=>cases ry;exact PySem.EqMixed.ne_str_bool (bW I q (by simp))
  | int j=>obtain⟨t',rfl⟩:=ry;exact PySem.EqMixed.ne_str_int (bW I q (by simp))
  | str j=>obtain⟨t',rfl⟩:=ry;exact ne_str (bW I q (congrArg not Av))
  | _=>exact absurd (show false=true from hs) Bool.false_ne_true
 | byt i=>
  obtain⟨t,rfl⟩:=rx;cases y with
  | byt j=>obtain⟨t',rfl⟩:=ry;exact PySem.W.ne_bytes (bW I q (congrArg not Ax))
  | _=>exact absurd (show false=true from hs) Bool.false_ne_true
 | _=>cases y <;> exact absurd (show false=true from hs) Bool.false_ne_true
theorem iY:OpR X (compareOp .Lt) (rI0 fun i j=>.bl (decide (i<j))):=JG fun _ _ _ _ _ _ _ q=>lt_int q
theorem wu:OpR X (compareOp .LtE) (rI0 fun i j=>.bl (decide (i<=j))):=JG fun _ _ _ _ _ _ _ q=>le_int q
theorem qI:OpR X (compareOp .Gt) (rI0 fun i j=>.bl (decide (j<i))):=JG fun _ _ _ _ _ _ _ q=>gt_int q
theorem zZ:OpR X (compareOp .GtE) (rI0 fun i j=>.bl (decide (j<=i))):=JG fun _ _ _ _ _ _ _ q=>ge_int q
theorem aG (b:Expr){op:CmpOp}(h:op≠.In:=by decide)(h2:op≠.NotIn:=by decide):behindInMarks op b=false:=by
 have e1:(op == CmpOp.In)=false:=by cases op <;> first|rfl|exact absurd rfl h
 have e2:(op == CmpOp.NotIn)=false:=by cases op <;> first|rfl|exact absurd rfl h2
 cases b <;> simp [behindInMarks,e1,e2]
theorem Jz {op:CmpOp}{r:R2}(ho:OpR X (compareOp op) r)(ha:PE X a ta)(hb:PE X b tb)(hm:behindInMarks op b=false):PE X (.Compare a [op] [b] pos) (tOp r ta tb):=by
 intro pins s σ H Q I h;exact wpAny_Compare1 (NQ ha hb I h fun v u s2 x y H2 I2 rx ry q=>ho pins s2 σ H2 x y v u Q I2 rx ry q) hm
noncomputable def qt (t:TE):TT:=fun σ H Q=>t σ H fun x H'=>∃k,x=.bl k/\Q k H'
theorem Je {op:CmpOp}{r:R2}(ho:OpR X (compareOp op) r)(ha:PE X a ta)(hb:PE X b tb)(hm:behindInMarks op b=false):PT X (.Compare a [op] [b] pos) (qt (tOp r ta tb)):=by
 intro pins s σ H Q I h;refine wpAny_isTrue_Compare1 (thE (ha pins s σ H _ I h) fun v s1 x H1 I1 r1 q1=>thE (hb pins s1 σ H1 _ I1 q1) fun u s2 y H2 I2 r2 q2=>
  thn (ho pins s2 σ H2 x y v u _ I2 r1 r2 q2) fun c s3 ⟨z,H3,I3,r3,k,e,q3⟩=>?_) hm
 subst e;cases r3;exact wpAny_truthy_bool ⟨H3,I3,q3⟩
noncomputable def qu (r r':R2)(ta tb tc:TE):TE:=fun σ H Q=>ta σ H fun x H1=>tb σ H1 fun y H2=>r x y H2 fun z H3=>∃k,z=.bl k /\
 (if k=true then tc σ H3 fun w' H4=>r' y w' H4 Q else Q (.bl false) H3)
theorem FZ {op op':CmpOp}{r r':R2}(ho:OpR X (compareOp op) r)(ho':OpR X (compareOp op') r')(ha:PE X a ta)(hb:PE X b tb)(hc:PE X c tc)
  (hm:lastMarks [op,op'] [b,c]=false:=by with_unfolding_all rfl):PE X (.Compare a [op,op'] [b,c] pos) (qu r r' ta tb tc):=by
 intro pins s σ H Q I h;refine Compare_chain (thE (ha pins s σ H _ I h) fun v s1 x H1 I1 r1 q1=>chain_link (thE (hb pins s1 σ H1 _ I1 q1) fun u s2 y H2 I2 r2 q2=>
  thn (ho pins s2 σ H2 x y v u _ I2 r1 r2 q2) fun d s3 ⟨z,H3,I3,r3,k,e,q3⟩=>?_)) hm
 subst e;cases r3;refine wpAny_truthy_bool ?_;cases k with
 | false=>exact ite_ff ⟨.bl false,H3,I3,rfl,q3⟩
 | true=>exact ite_tt (chain_last (thn (hc pins s3 σ H3 _ I3 q3) fun w' s4 ⟨z',H4,I4,r4,q4⟩=>ho' pins s4 σ H4 y z' u w' Q I4 r2 r4 q4))
theorem Fv {op op':CmpOp}{r r':R2}(ho:OpR X (compareOp op) r)(ho':OpR X (compareOp op') r')(ha:PE X a ta)(hb:PE X b tb)(hc:PE X c tc)
  (hm:lastMarks [op,op'] [b,c]=false:=by with_unfolding_all rfl):PT X (.Compare a [op,op'] [b,c] pos) (qt (qu r r' ta tb tc)):=by
 intro pins s σ H Q I h;refine isTrue_chain (thE (ha pins s σ H _ I h) fun v s1 x H1 I1 r1 q1=>test_link (thE (hb pins s1 σ H1 _ I1 q1) fun u s2 y H2 I2 r2 q2=>
  thn (ho pins s2 σ H2 x y v u _ I2 r1 r2 q2) fun d s3 ⟨z,H3,I3,r3,k,e,q3⟩=>?_)) hm
 subst e;cases r3;refine wpAny_truthy_bool ?_;cases k with
 | false=>
  obtain⟨k',e',q'⟩:=q3;cases e';exact ite_ff ⟨H3,I3,q'⟩
 | true=>
  refine ite_tt (test_last (thn (hc pins s3 σ H3 _ I3 q3) fun w' s4 ⟨z',H4,I4,r4,q4⟩=>thn (ho' pins s4 σ H4 y z' u w' _ I4 r2 r4 q4) fun d' s5 ⟨z2,H5,I5,r5,k2,e2,q5⟩=>?_));subst e2;cases r5;exact wpAny_truthy_bool ⟨H5,I5,q5⟩
noncomputable def Qf (K:PySem.W.Frag)(x:V)(H:Hp)(k:Bool):Prop:=
 match x with
 | .non=>k=false
 | .bl b=>k=b
 | .int i=>k=(i != 0)
 | .str y=>y.length<=sizeLine/\k=((y.length:Int) != 0)
 | .byt y=>y.size<=sizeLine/\k=((y.size:Int) != 0)
 | .ref p=>(∃xs,SqL K H p xs/\k=!xs.isEmpty)\/(∃xs,SqT K H p xs/\k=!xs.isEmpty)\/∃kvs,H p=some (.dK kvs)/\k=!kvs.isEmpty
 | _=>False
theorem yN {κ:Type}{kvs:List (κ×V)}{vs:List (κ×Value)}(r:KV kvs vs):(!vs.isEmpty)=!kvs.isEmpty:=by
 cases r <;> rfl
theorem rD {xs:List V}{its:List Value}(r:Vals xs its):(!its.toArray.isEmpty)=!xs.isEmpty:=by
 cases r <;> simp
theorem rC:(sizeLine:Nat)<2^63:=by rw[sizeLine_eq];decide
theorem KQ:Qg X (fun x H Q=>∃k,Qf X.K x H k/\Q k H):=by
 intro pins s σ H x v Q I rx h;obtain⟨k,e,q⟩:=h;have hl:=rC;have hs:sizeLine=16777216:=sizeLine_eq;cases x with
 | non=>
  cases rx;have e':k=false:=e;subst e';exact truthy_none ⟨H,I,q⟩
 | bl b=>
  cases rx;have e':k=b:=e;subst e';exact wpAny_truthy_bool ⟨H,I,q⟩
 | int i=>
  obtain⟨t,rfl⟩:=rx;have e':k=(i != 0):=e;subst e';exact PySem.P.truthy_int ⟨H,I,q⟩
 | str y=>
  obtain⟨t,rfl⟩:=rx;obtain⟨hy,e'⟩:y.length<=sizeLine/\k=((y.length:Int) != 0):=e;subst e';exact PySem.P.truthy_str ω ⟨H,I.tok _,q⟩
 | byt y=>
  obtain⟨t,rfl⟩:=rx;obtain⟨hy,e'⟩:y.size<=sizeLine/\k=((y.size:Int) != 0):=e;subst e';exact PySem.W.truthy_bytes ω ⟨H,I.tok _,q⟩
 | ref p=>
  cases rx;have e':(∃xs,SqL X.K H p xs/\k=!xs.isEmpty)\/(∃xs,SqT X.K H p xs/\k=!xs.isEmpty)\/∃kvs,H p=some (.dK kvs)/\k=!kvs.isEmpty:=e;rcases e' with⟨xs,hx,e'⟩|⟨xs,hx,e'⟩|⟨kvs,hx,e'⟩
  ·subst e';obtain⟨its,r,pl,hz⟩:=I.list hx;have hlen:=r.length;exact wpAny_truthy_list pl.isList (by simp only[size_toArray];omega) ⟨H,I.tok _,by rw[rD r];exact q⟩
  ·subst e';obtain⟨its,r,pl,hz⟩:=I.tuple hx;have hlen:=r.length;exact truthy_tuple pl (by simp only[size_toArray];omega) ⟨H,I.tok _,by rw[rD r];exact q⟩
  subst e';obtain⟨hz,hS,vs,r,m⟩:kvs.length<=sizeLine/\(p == sysModules)=false/\∃vs,KV kvs vs/\s.heap.DictOf (vf X.prog X.w) p vs:=I.hok p _ hx;have hlen:kvs.length=vs.length:=Paired.length r;exact wpAny_truthy_dict hS m ω ⟨H,I.tok _,by rw[yN r];exact q⟩
 | _=>exact(show False from e).elim
theorem vals1 {x:V}{us:List Value}(r:Vals [x] us):∃u,us=[u]/\RelV x u:=by
 cases r with
 | cons r1 r2=>cases r2;exact⟨_,rfl,r1⟩
theorem vals2 {x y:V}{us:List Value}(r:Vals [x,y] us):∃u w',us=[u,w']/\RelV x u/\RelV y w':=by
 cases r with
 | cons r1 r2=>
  cases r2 with
  | cons r3 r4=>cases r4;exact⟨_,_,rfl,r1,r3⟩
theorem xK:eE X (.builtin "abs") (fun xs H Q=>∃i,xs=[.int i]/\Q (.int (if i<0 then -i else i)) H):=by
 intro pins s σ H xs us Q I r h;obtain⟨i,rfl,q⟩:=h;obtain⟨u,rfl,t,rfl⟩:=vals1 r;exact call_abs_int fun u tk=>⟨.int (if i<0 then -i else i),H,I.tok _,⟨_,rfl⟩,q⟩
theorem CQ (hc:X.calm=true):eE X (.builtin "max") (fun xs H Q=>∃i j,xs=[.int i,.int j]/\Q (.int (if j>i then j else i)) H):=by
 intro pins s σ H xs us Q I r h;obtain⟨i,j,rfl,q⟩:=h;obtain⟨u,w',rfl,⟨t,rfl⟩,⟨t',rfl⟩⟩:=vals2 r;refine max_two_ints (I.ok.hd hc) fun h' tk k=>⟨_,H,I.kept k,?_,q⟩;by_cases hj:j>i
 ·rw[if_pos hj,if_pos hj];exact⟨_,rfl⟩
 rw[if_neg hj,if_neg hj];exact⟨_,rfl⟩
theorem CN (hc:X.calm=true):eE X (.builtin "min") (fun xs H Q=>∃i j,xs=[.int i,.int j]/\Q (.int (if j<i then j else i)) H):=by
 intro pins s σ H xs us Q I r h;obtain⟨i,j,rfl,q⟩:=h;obtain⟨u,w',rfl,⟨t,rfl⟩,⟨t',rfl⟩⟩:=vals2 r;refine min_two_ints (I.ok.hd hc) fun h' tk k=>⟨_,H,I.kept k,?_,q⟩;by_cases hj:j<i
 ·rw[if_pos hj,if_pos hj];exact⟨_,rfl⟩
 rw[if_neg hj,if_neg hj];exact⟨_,rfl⟩
theorem ur:eE X (.type "int") (fun xs H Q=>(∃i,xs=[.int i]/\Q (.int i) H)\/∃k,xs=[.bl k]/\Q (.int (if k then 1 else 0)) H):=by
 intro pins s σ H xs us Q I r h;rcases h with⟨i,rfl,q⟩|⟨k,rfl,q⟩
 ·obtain⟨u,rfl,t,rfl⟩:=vals1 r;exact call_int_int ⟨.int i,H,I,⟨_,rfl⟩,q⟩
 obtain⟨u,rfl,r1⟩:=vals1 r;cases r1;exact call_int_bool ⟨.int (if k then 1 else 0),H,I.tok _,⟨_,rfl⟩,q⟩
end
structure N5 (h:Heap)(x dx C:Addr)(mA:Str->Option Value):Prop where
 obj:h.get? x=some (PySem.W.instObj C dx)
 ns:h.Ns1 dx mA
 ne:dx≠x
theorem Cg {h:Heap}{dx:Addr}{mA:Str->Option Value}(n:h.Ns1 dx mA):∃od,h.get? dx=some od/\∀name,PySem.W.lookIn name od=some (mA name):=by
 obtain⟨o,es,ep,ho,hd,hk,_,hm⟩:=n;refine⟨o,ho,fun name=>?_⟩;have e:=hm name;unfold nsFind findBy at e;rw[<- Array.find?_toList] at e;unfold PySem.W.lookIn;rw[hd];dsimp only;split
 ·rename_i y q;rw[q] at e;exact congrArg some e
 rename_i q;rw[q] at e;have a:es.toList.any (·.refKey)=false:=by
  rw[List.any_eq_false];intro y hy;obtain⟨z,t,hkey⟩:=hk y (Array.mem_toList_iff.mp hy);simp [DictEntry.refKey,hkey]
 have a':¬es.toList.any (·.refKey)=true:=by rw[a];exact Bool.false_ne_true
 rw[if_neg a'];exact congrArg some e
theorem N5.look {h:Heap}{x dx C:Addr}{mA:Str->Option Value}(I:N5 h x dx C mA):∃od,PySem.W.InstAt h x (PySem.W.instObj C dx) C (some od)/\∀name,PySem.W.lookIn name od=some (mA name):=
 let ⟨od,ho,hl⟩:=Cg I.ns
 ⟨od,⟨I.obj,rfl,rfl,ho⟩,hl⟩
section
variable {P:Program}{w:World}{H H':Hp}{h h':Heap}{a C dx:Addr}{fs fs':List (Str×V)}
theorem J7 (hok:HOk P w H h)(e:H a=some (.ins C dx fs)):∃mA,N5 h a dx C mA/\(∀f,NZ (fs.lookup f) (mA f))/\PySem.Within mA (fs.map (·.1))/\fs.length<=1000/\H dx=some (.own a):=by
 obtain⟨d,z,ne,ob,mA,n,r,q⟩:=(show dU P w H h a (.ins C dx fs) from hok a _ e);exact⟨mA,⟨ob,n,ne⟩,r,q,z,d⟩
end
structure Cls (K:PySem.W.Frag)(C:Addr):Prop where
 pg:PySem.W.plainGet K C Str.empty=true
 hd:PySem.W.hasDictIn K C=true
 po:PySem.W.plainOver K C=true
 sa:PySem.W.findIn K (.ref C) "__setattr__" = some (some (.builtin "object.__setattr__"))
theorem Cls.get {K:PySem.W.Frag}{C:Addr}(c:Cls K C)(f:Str):PySem.W.plainGet K C f=true:=c.pg
section
variable {X:Cx}{pins:List (Addr×Obj)}{σ:St}{H:Hp}{s:Shared}{A:Around}{E:Value->Shared->Prop}{Q:Value->Shared->Prop}{c:Value}{b:Bool}
inductive nZ (K:PySem.W.Frag)(H:Hp):V->Value->Prop where
 | non:nZ K H .non (.type "NoneType")
 | bl (x:Bool):nZ K H (.bl x) (.type "bool")
 | int (i:Int):nZ K H (.int i) (.type "int")
 | str (x:Str):nZ K H (.str x) (.type "str")
 | flt (x:UInt64):nZ K H (.flt x) (.type "float")
 | lst {a:Addr} {xs:List V} (e:H a=some (.lst xs)):nZ K H (.ref a) (.type "list")
 | frz {a:Addr} {o:Obj} {xs:List V} (e:H a=some (.frz o (.lst xs))):nZ K H (.ref a) (.type "list")
 | tup {a:Addr} {xs:List V} (e:H a=some (.tup xs)):nZ K H (.ref a) (.type "tuple")
 | dK {a:Addr} {kvs:List (Key×V)} (e:H a=some (.dK kvs)):nZ K H (.ref a) (.type "dict")
 | dT {a:Addr} {kvs:List (List Key×V)} (e:H a=some (.dT kvs)):nZ K H (.ref a) (.type "dict")
 | ins {a C dx:Addr} {fs:List (Str×V)} (e:H a=some (.ins C dx fs)) (cl:Cls K C) (ha:PySem.W.findIn K (.ref C) "__class__" = some (some (.builtin "object.__class__")))
   (hn:PySem.W.specialIn K (.builtin "object.__class__") "__get__" = some (some (.builtin "getset_descriptor.__get__"))) (htk:PySem.W.takesIn K (.builtin "object.__class__")=some true)
   (hm:PySem.W.mroIn K C (.type "object")=some true):nZ K H (.ref a) (.ref C)
theorem Cj {x:V}{u t:Value}(I:Inv X pins σ H s)(rx:RelV x u)(ty:nZ X.K H x t)(e:kitOne X.K t c=some b)(h:∀tk,Q (.bool b) { s with toks:=tk }) :
  wpAny (model X.prog X.w) A (call (.builtin "isinstance") [u,c]) Q E s:=by
 cases ty with
 | non=>cases (show u=Value.none from rx);exact PySem.W.kia_one PySem.W.kitx_none I.kIn True.intro e (fun z=>nomatch z) h
 | bl y=>cases (show u=Value.bool y from rx);exact PySem.W.kia_one PySem.W.kitx_bool I.kIn True.intro e (fun z=>nomatch z) h
 | int i=>obtain⟨t,q⟩:=(show ∃t,u=Value.int i t from rx);cases q;exact PySem.W.kia_one PySem.W.kitx_int I.kIn True.intro e (fun z=>nomatch z) h
 | str y=>obtain⟨t,q⟩:=(show ∃t,u=Value.str y t from rx);cases q;exact PySem.W.kia_one PySem.W.kitx_str I.kIn True.intro e (fun z=>nomatch z) h
 | flt y=>obtain⟨t,q⟩:=(show ∃t,u=Value.float y t from rx);cases q;exact PySem.W.kia_one PySem.W.kitx_float I.kIn True.intro e (fun z=>nomatch z) h
 | @lst a xs ea=>
  cases (show u=Value.ref a from rx);obtain⟨_,_,n,_,h1⟩:=(show dU X.prog X.w H s.heap a (.lst xs) from I.hok a _ ea);exact PySem.W.kia_one PySem.W.kitx_list I.kIn ⟨_,h1,rfl⟩ e (fun z=>nomatch z) h
 | @frz a ob xs ea=>
  cases (show u=Value.ref a from rx);obtain⟨_,_,_,n,_,h1⟩:=(show dU X.prog X.w H s.heap a (.frz ob (.lst xs)) from I.hok a _ ea);exact PySem.W.kia_one PySem.W.kitx_list I.kIn ⟨_,h1,rfl⟩ e (fun z=>nomatch z) h
 | @tup a xs ea=>
  cases (show u=Value.ref a from rx);obtain⟨_,_,_,p⟩:=(show dU X.prog X.w H s.heap a (.tup xs) from I.hok a _ ea);obtain⟨o,h1,h2,_⟩:=p;exact PySem.W.kia_one PySem.W.kitx_tuple I.kIn ⟨o,h1,h2⟩ e (fun z=>nomatch z) h
 | @dK a kvs ea=>
  cases (show u=Value.ref a from rx);obtain⟨_,_,vs,_,p⟩:=(show dU X.prog X.w H s.heap a (.dK kvs) from I.hok a _ ea);obtain⟨o,es,ep,h1,h2,_⟩:=p;exact PySem.W.kia_one PySem.W.kitx_dict I.kIn ⟨o,h1,h2.1⟩ e (fun z=>nomatch z) h
 | @dT a kvs ea=>
  cases (show u=Value.ref a from rx);obtain⟨_,_,xs,_,o,es,ep,h1,h2,_⟩:=(show dU X.prog X.w H s.heap a (.dT kvs) from I.hok a _ ea);exact PySem.W.kia_one PySem.W.kitx_dict I.kIn ⟨o,h1,h2.1⟩ e (fun z=>nomatch z) h
 | @ins a C dx fs ea cl ha hn htk hm=>
  cases (show u=Value.ref a from rx);obtain⟨mA,O,_⟩:=J7 I.hok ea;obtain⟨od,J,_⟩:=O.look;exact PySem.W.kia_one (PySem.W.kitx_own (cl.get _) cl.hd ha hn htk hm) I.kIn J e (fun z=>nomatch z) h
end
structure iT (k:Nat)(A:Around):Prop where
 hd:A.handled=none
 dp:A.depth+3*k+5<recursionLimit
 un:A.units+16*k+200<cLine
 gd:A.guards=some []
theorem iT.mono {j k:Nat}{A:Around}(r:iT k A)(h:j<=k):iT j A:=⟨r.hd,by have:=r.dp;omega,by have:=r.un;omega,r.gd⟩
theorem iT.deeper {k:Nat}{A:Around}(r:iT (k+1) A)(env:Env):iT k (A.deeper env):=
 ⟨r.hd,by have:=r.dp;show A.depth+1+3*k+5<_;omega,by have:=r.un;show A.units+3+16*k+200<_;omega,r.gd⟩
theorem iT.depth {k:Nat}{A:Around}(r:iT k A):A.depth<recursionLimit:=by have:=r.dp;omega
theorem iT.aP {k:Nat}{A:Around}(r:iT k A):A.units<cLine:=by have:=r.un;omega
noncomputable def Dw:TA:=fun _ H Q=>Q [] H
noncomputable def vP (ta:TE)(tr:TA):TA:=fun σ H Q=>ta σ H fun x H1=>tr σ H1 fun xs H2=>Q (x::xs) H2
section
variable {X:Cx}{e:Expr}{es:List Expr}{te:TE}{t:TA}{pos:Pos}
theorem Ml:PA X [] Dw:=fun _ _ _ _ H Q I h=>Calls.spliced_nil ⟨[],H,I,.nil,h⟩
theorem JF (ha:PE X e te)(hr:PA X es t)(hs:starEach (e::es) X.env=(false,eval e X.env)::starEach es X.env:=by rfl):PA X (e::es) (vP te t):=by
 intro pos pins s σ H Q I h;rw[hs];show wpAny _ _ (spliced ((false,eval e X.env)::backTo pos (starEach es X.env))) _ _ s;refine Calls.spliced_cons (thE (ha pins s σ H _ I h) fun u s1 x H1 I1 r1 q1=>?_);exact thA (hr pos pins s1 σ H1 _ I1 q1) fun us s2 xs H2 I2 r2 q2=>⟨x::xs,H2,I2,.cons r1 r2,q2⟩
noncomputable def Dp (t:TA):TE:=fun σ H Q=>t σ H fun xs H1=>xs.length<=sizeLine/\∀p,H1 p=none->Q (.ref p) (upd H1 p (.tup xs))
noncomputable def Dy (t:TA):TE:=fun σ H Q=>t σ H fun xs H1=>xs.length<=sizeLine/\∀p,H1 p=none->Q (.ref p) (upd H1 p (.lst xs))
theorem LQ {x1}(h:PA X es t):PE X (.Tuple es x1 pos) (Dp t):=by
 intro pins s σ H Q I hq;refine wpAny_Tuple_spliced (thn (h pos pins s σ H _ I hq) fun us s1 ⟨xs,H1,I1,r,z,q⟩=>⟨by rw[<- r.length];exact z,?_⟩);have hf:H1 s1.heap.objs.size=none:=I1.hok.fresh (le_refl _);refine⟨.ref s1.heap.objs.size,upd H1 s1.heap.objs.size (.tup xs),I1.laid (t':=s1.toks) (fun b u e=>get?_push_of_some _ e) (le_refl _) ?_,rfl,q _ hf⟩;exact⟨z,us,r,⟨_,get?_push_size _ rfl,rfl,_,rfl⟩⟩
theorem Mg (h:PA X es t):PE X (.List es pos) (Dy t):=by
 intro pins s σ H Q I hq;refine wpAny_List_spliced (thn (h pos pins s σ H _ I hq) fun us s1 ⟨xs,H1,I1,r,z,q⟩=>⟨by rw[<- r.length];exact z,?_⟩);have hf:H1 s1.heap.objs.size=none:=I1.hok.fresh (le_refl _);refine⟨.ref s1.heap.objs.size,upd H1 s1.heap.objs.size (.lst xs),I1.laid (t':=s1.toks) (fun b u e=>get?_push_of_some _ e) (le_refl _) ?_,rfl,q _ hf⟩;exact⟨z,us,0,r,get?_push_size _ rfl⟩
end
noncomputable abbrev Sp:=List V->Hp->VK->XK->Prop
noncomputable abbrev CXT:=List Env->Hp->Shared->XK->Value->Shared->Prop
structure Ku (P:Program)(w:World)(K:PySem.W.Frag)(mg:Str->Option Value)(base:Heap)(A:Around)(outer:List Env)(s:Shared)(H:Hp):Prop where
 frames:A.frames=some outer
 mod:Mod K mg base
 bs:∀b o,base.get? b=some o->s.heap.get? b=some o/\H b=none
 bsz:base.objs.size<=s.heap.objs.size
 qi:s.heap.FunFrames base outer
 frf:∀b∈frs outer,H b=none
 hok:HOk P w H s.heap
 bare:AllBare s.gens
noncomputable def CE (outer:List Env)(P:Program)(w:World)(H:Hp)(s:Shared)(Q:VK)(u:Value)(s':Shared):Prop:=
 ∃v H',s'.os=s.os/\AllBare s'.gens/\Un (frs outer) [] H H' s.heap s'.heap/\HOk P w H' s'.heap/\RelV v u/\Q v H'
noncomputable def CR (CX:CXT)(outer:List Env)(P:Program)(w:World)(H:Hp)(s:Shared)(Q:VK)(E:XK)(r:Result)(s':Shared):Prop:=
 match r with
 | .ok (.ret u)=>CE outer P w H s Q u s'
 | .ok _=>False
 | .error e=>CX outer H s E e s'
structure dN (P:Program)(w:World)(K:PySem.W.Frag)(mg:Str->Option Value)(base:Heap)(CX:CXT)(k:Nat)(f:Addr)(fd:FuncData)(ps:List Str)(sp:Sp):Prop where
 len:∀vs H Q E,sp vs H Q E->vs.length=ps.length
 run:∀(A:Around)(outer:List Env)(s:Shared)(H:Hp)(args:Args)(us:List Value)(vs:List V)(Q:VK)(E:XK),iT k A->Ku P w K mg base A outer s H->BindsTo s fd args (ps.zip us)->Vals vs us->sp vs H Q E ->
  codeAny (model P w) A (.call (.ref f) args) (CR CX outer P w H s Q E) s
section
variable {X:Cx}{pins:List (Addr×Obj)}{σ:St}{H:Hp}{s s':Shared}
theorem Inv.env0 (I:Inv X pins σ H s):Ku X.prog X.w X.K X.mg X.base X.A X.stack s H:=
 ⟨I.ok.frames,I.ok.mod,I.bs,le_trans I.ok.bsz I.sz,I.stack,I.zJ,I.hok,I.bare⟩
theorem Inv.after {Q:VK}{u:Value}(I:Inv X pins σ H s)(h:CE X.stack X.prog X.w H s Q u s'):EP X pins σ Q u s':=by
 obtain⟨v,H',os,bare,un,hok,r,q⟩:=h;obtain⟨hh,g,d,t,os'⟩:=s';obtain rfl:os'=s.os:=os;exact⟨v,H',I.call (h':=hh) (g':=g) (d':=d) (t':=t) (ch:=[]) un hok bare (fun b z=>absurd z (by simp)),r,q⟩
end
noncomputable def qw (sp:Sp)(dvs:List V)(E:XK)(t:TA):TE:=fun σ H Q=>t σ H fun vs H1=>sp (vs++dvs) H1 Q E
noncomputable def Binds (K:PySem.W.Frag)(fd:FuncData)(ps:List Str)(ds:List Value):Prop:=
 ∀(s:Shared)(us:List Value),K.In s.heap->(us++ds).length=ps.length->BindsTo s fd ⟨us,[]⟩ (ps.zip (us++ds))
theorem Binds.all {K:PySem.W.Frag}{fd:FuncData}{ps:List Str}(h:∀us:List Value,us.length=ps.length->bindArgs fd ⟨us,[]⟩=pure (ps.zip us)):Binds K fd ps []:=fun s us _ hl=>by
 rw[append_nil] at hl |-;exact .of_eq (h us hl)
noncomputable def zx (CX:CXT)(X:Cx)(E:XK):Prop:=∀(pins:List (Addr×Obj)) (σ:St) (H:Hp) (s:Shared) (e:Value) (s':Shared),Inv X pins σ H s->CX X.stack H s E e s'->X.xe e s'
section
variable {X:Cx}{CX:CXT}{k:Nat}{f C:Addr}{fd:FuncData}{ps:List Str}{sp:Sp}{dvs:List V}{ds:List Value}{E:XK}{x m:Str}{p pos apos:Pos}{e o:Expr}{es:List Expr}{ta:TE}{t:TA}
theorem K6 {pins:List (Addr×Obj)}{σ:St}{H:Hp}{s:Shared}{Q:VK}{us:List Value}{vs:List V}(F:dN X.prog X.w X.K X.mg X.base CX k f fd ps sp)(hr:iT k X.A)(hb:Binds X.K fd ps ds)(hd:Vals dvs ds)(hx:zx CX X E)
  (I:Inv X pins σ H s) (r:Vals vs us) (h:sp (vs++dvs) H Q E):wpAny (model X.prog X.w) X.A (call (.ref f) us) (EP X pins σ Q) X.xe s:=by
 have r2:Vals (vs++dvs) (us++ds):=r.append hd;have hl:(us++ds).length=ps.length:=by rw[<- r2.length];exact F.len _ _ _ _ h
 refine wpAny_call (codeAny_mono (F.run X.A X.stack s H ⟨us,[]⟩ (us++ds) (vs++dvs) Q E hr I.env0 (hb s us I.kIn hl) r2 h) fun r s' hq=>?_);cases r with
 | error e=>exact hx pins σ H s e s' I hq
 | ok fl=>
  cases fl with
  | ret u=>exact I.after hq
  | next=>exact False.elim hq
  | brk=>exact False.elim hq
  | cont=>exact False.elim hq
theorem JB (F:dN X.prog X.w X.K X.mg X.base CX k f fd ps sp)(hr:iT k X.A)(hg:Gl X x)(hm:X.mg x=some (.ref f))(hk:keepIn X.K (.ref f)=true)(hb:Binds X.K fd ps ds)(hd:Vals dvs ds)(hx:zx CX X E)
  (ha:PA X (e::es) t) (hdb:(x == ("__debug__" : Str))=false:=by decide) (he:starEach (e::es) X.env=(false,eval e X.env)::starEach es X.env:=by rfl) (hpl:(backTo pos (starEach es X.env)).any (·.1)=false:=by rfl) :
  PE X (.Call (.Name x p) (e::es) [] pos) (qw sp dvs E t):=by
 intro pins s σ H Q I h;refine wpAny_Call_Name_kw (Af I hg hm ?_ hdb);refine PySem.W.callWith_K (h₀:=X.base) I.ok.mod.kin hk (thA (ha pos pins s σ H _ I h) fun us s1 vs H1 I1 r q=>⟨I1.kIn,?_⟩) he hpl;exact K6 F hr hb hd hx I1 r q
end
structure bK (N P:List Str)(sc:Scope):Prop where
 kind:sc.kind=.function
 co:sc.isCoroutine=false
 gen:sc.isGenerator=false
 nd:N.Nodup
 pre:N.take P.length=P
 par:∀x∈P,sc.names.lookup x=some .local\/sc.names.lookup x=some .cell
 nofree:∀y∈sc.names,y.2≠.free
theorem uw {kindOf:Str->Option NameKind}{x:Str}:∀{binds:List (Str×Value)}{m:Str->Option Value},(∀v,(x,v)∉binds)->bindL kindOf binds m x=m x
 | [],_,_=>rfl
 | (n,v)::r,m,h=>by
  unfold bindL;rw[uw fun w hw=>h w (mem_cons_of_mem _ hw)];split
  ·have:x≠n:=by rintro rfl;exact h v mem_cons_self
   simp [this]
  rfl
theorem uy {kindOf:Str->Option NameKind}{x:Str}:∀{binds:List (Str×Value)}{m:Str->Option Value},(∀v,(x,v)∉binds)->bindC kindOf binds m x=m x
 | [],_,_=>rfl
 | (n,v)::r,m,h=>by
  unfold bindC;rw[uy fun w hw=>h w (mem_cons_of_mem _ hw)];split
  ·rfl
  have:x≠n:=by rintro rfl;exact h v mem_cons_self
  simp [this]
theorem ux {kindOf:Str->Option NameKind}{x:Str}{v:Value}:∀{P:List Str}{vs:List Value}{i:Nat}{m:Str->Option Value},P.Nodup->P[i]?=some x->vs[i]?=some v->kindOf x=some .local ->
  bindL kindOf (P.zip vs) m x=some v
 | [],_,_,_,_,h,_,_=>by simp at h
 | _::_,[],_,_,_,_,h,_=>by simp at h
 | p::P,w::vs,0,m,nd,h1,h2,hk=>by
  simp at h1 h2;subst h1;subst h2;show bindL kindOf ((p,w)::P.zip vs) m p=_;unfold bindL;rw[uw fun v hv=>(nodup_cons.mp nd).1 (of_mem_zip hv).1,if_pos hk];simp
 | p::P,w::vs,i+1,m,nd,h1,h2,hk=>by
  show bindL kindOf ((p,w)::P.zip vs) m x=_;unfold bindL;exact ux (i:=i) (nodup_cons.mp nd).2 (by simpa using h1) (by simpa using h2) hk
theorem uz {kindOf:Str->Option NameKind}{x:Str}{v:Value}:∀{P:List Str}{vs:List Value}{i:Nat}{m:Str->Option Value},P.Nodup->P[i]?=some x->vs[i]?=some v->kindOf x≠some .local ->
  bindC kindOf (P.zip vs) m x=some v
 | [],_,_,_,_,h,_,_=>by simp at h
 | _::_,[],_,_,_,_,h,_=>by simp at h
 | p::P,w::vs,0,m,nd,h1,h2,hk=>by
  simp at h1 h2;subst h1;subst h2;show bindC kindOf ((p,w)::P.zip vs) m p=_;unfold bindC;rw[uy fun v hv=>(nodup_cons.mp nd).1 (of_mem_zip hv).1,if_neg hk];simp
 | p::P,w::vs,i+1,m,nd,h1,h2,hk=>by
  show bindC kindOf ((p,w)::P.zip vs) m x=_;unfold bindC;exact uz (i:=i) (nodup_cons.mp nd).2 (by simpa using h1) (by simpa using h2) hk
noncomputable def start (N:List Str)(vs:List V):St:=vs.map some++List.replicate (N.length-vs.length) none
noncomputable def yZ (CX:CXT)(P:Program)(w:World)(K:PySem.W.Frag)(mg:Str->Option Value)(base:Heap)(N:List Str)(qual:Str)(scope:Scope)(f:Addr)(cd:Value)(A:Around)(outer:List Env)(s:Shared)(H:Hp)(E:XK):Cx where
 prog:=P
 w:=w
 K:=K
 mg:=mg
 base:=base
 A:=A.deeper (envOfC qual scope s.heap.objs.size f cd)
 N:=N
 s₀:=s
 H₀:=H
 env:=envOfC qual scope s.heap.objs.size f cd
 outer:=outer
 stack:=envOfC qual scope s.heap.objs.size f cd::outer
 ex:=[]
 calm:=true
 fn:=fun _=>true
 pn:=[]
 xe:=fun e s'=>wpAny (model P w) (A.deeper (envOfC qual scope s.heap.objs.size f cd)) (leaving (envOfC qual scope s.heap.objs.size f cd) e) (fun _ s''=>CX outer H s E e s'') (fun e' s''=>CX outer H s E e' s'') s'
theorem xJ {sc:Scope}{n:Nat}{x:Str}(h:sc.names.lookup x=some .cell):∃c,(cellsFrom n sc.names []).lookup x=some c:=by
 have q:=PySem.W.cellsFrom_some sc.names n [] (.inl h);exact Option.isSome_iff_exists.mp q
theorem Ck {CX:CXT}{P:Program}{w:World}{K:PySem.W.Frag}{mg:Str->Option Value}{base:Heap}{N ps:List Str}{qual:Str}{scope:Scope}{f:Addr}{cd:Value}{A:Around}{outer:List Env}{s s1:Shared}{H:Hp}{E:XK}{us:List Value}{vs:List V}
  (S:bK N ps scope) (hd:A.handled=none) (e0:Ku P w K mg base A outer s H) (hl:vs.length=ps.length) (r:Vals vs us)
  (x:InCallC s s.heap.objs.size (bindL (envOfC qual scope s.heap.objs.size f cd).kindOf (ps.zip us) fun _=>none) (cellsFrom (s.heap.objs.size+1) scope.names []) (bindC (envOfC qual scope s.heap.objs.size f cd).kindOf (ps.zip us) fun _=>none) s1) :
  Inv (yZ CX P w K mg base N qual scope f cd A outer s H E) [] (start N vs) H s1:=by
 have hpl:ps.length<=N.length:=by have:=congrArg List.length S.pre;rw[length_take] at this;omega
 obtain⟨h1,tk,rfl,hk⟩:=x.done;have noA:∀b:Addr,b∉(yZ CX P w K mg base N qual scope f cd A outer s H E).ex:=fun b z=>absurd (show b∈([]:List Addr) from z) (by simp);refine⟨⟨e0.mod,S.kind,rfl,rfl,le_refl _,fun y z c h1 h2=>?_,fun y hy=>?_,fun y c _ h=>?_,fun _=>hd,Around.frames_deeper e0.frames,.inr ⟨rfl,rfl⟩,fun b z=>absurd z (noA b),e0.bs,e0.bsz,fun b _ _=>noA b,fun b z=>absurd z (noA b),e0.qi,e0.frf⟩,
  rfl,e0.bare,Un.kept hk,⟨_,x.toInCall.ns,fun i y v h1 h2 h3=>?_⟩,fun y c h=>⟨_,x.cell y c h⟩,e0.hok.fresh (le_refl _),fun y c h=>?_,fun p hp=>absurd (show p∈([]:List (Addr×Obj)) from hp) (by simp),e0.hok.kept hk,?_⟩
 ·exact name_of_addr x.apart (PySem.mem_of_lookup h1) (PySem.mem_of_lookup h2)
 ·have hy:scope.names.lookup y=some .cell\/scope.names.lookup y=some .free:=hy;rcases hy with hy|hy
  ·exact xJ hy
  exact absurd rfl (S.nofree _ (PySem.mem_of_lookup hy))
 ·exact le_of_lt (x.above y c (PySem.mem_of_lookup h))
 ·have hi:i<vs.length:=by
   unfold start at h2;by_cases hi:i<vs.length
   ·exact hi
   rw[getElem?_append_right (by simpa using hi)] at h2;rw[List.getElem?_replicate] at h2;split at h2 <;> cases h2
  have ha:vs[i]?=some v:=by
   unfold start at h2;rw[List.getElem?_append_left (by simpa using hi),getElem?_map] at h2;cases e:vs[i]? with
   | none=>rw[e] at h2;cases h2
   | some a=>rw[e] at h2;cases h2;rfl
  obtain⟨u,hu,rv⟩:=r.get ha;have hp:ps[i]?=some y:=by
   rw[<- S.pre,List.getElem?_take_of_lt ω];exact h1
  have ndP:ps.Nodup:=by rw[<- S.pre];exact S.nd.sublist (List.take_sublist _ _)
  refine⟨u,rv,?_⟩;rcases S.par y (mem_of_getElem? hp) with k|k
  ·exact .inl ⟨k,ux ndP hp hu k⟩
  obtain⟨c,e⟩:=xJ (n:=s.heap.objs.size+1) k;refine .inr ⟨.inl k,c,e,?_⟩;have q:=x.cell y c e;rw[uz ndP hp hu (by show scope.names.lookup y≠_;rw[k];decide)] at q;exact q
 ·exact e0.hok.fresh (le_of_lt (x.above y c (PySem.mem_of_lookup h)))
 unfold start;show _=N.length;rw[length_append,length_map,List.length_replicate];omega
theorem O7 {CX:CXT}{P:Program}{w:World}{K:PySem.W.Frag}{mg:Str->Option Value}{base:Heap}{k:Nat}{f:Addr}{name qual:Str}{params:Arguments}{body:List Stmt}{scope:Scope}{dV kV doc pm cdv ct oc:Value}{an od:Option Addr}
  {osl:Array (Option Value)} {N ps:List Str} {sp:Sp} (lk:K.lookup f=some ⟨oc,od,.func (fnOf name qual params body scope dV kV doc pm an cdv ct),osl⟩) (hcd:codeIn K cdv qual=true) (S:bK N ps scope)
  (len:∀vs H Q E,sp vs H Q E->vs.length=ps.length)
  (hbody:∀(A:Around)(outer:List Env)(s:Shared)(H:Hp)(vs:List V)(Q:VK)(E:XK),iT k (A.deeper (envOfC qual scope s.heap.objs.size f cdv))->sp vs H Q E ->
   ∃t,PSs (yZ CX P w K mg base N qual scope f cdv A outer s H E) body t/\t { nx:=fun _ H'=>Q .non H',rt:=Q } (start N vs) H) :
  dN P w K mg base CX (k+1) f (fnOf name qual params body scope dV kV doc pm an cdv ct) ps sp:=by
 refine⟨len,fun A outer s H args us vs Q E hr e0 hb r hsp=>?_⟩;have hl:=len _ _ _ _ hsp;have KX:K.In s.heap:=e0.mod.kin.keeps fun b o e=>(e0.bs b o e).1;have lim:s.heap.NoLimit:=e0.mod.nolimit.keeps fun b o e=>(e0.bs b o e).1;have hkind:∀y∈ps.zip us,scope.names.lookup y.1=some .local\/(scope.names.lookup y.1=some .cell/\((cellsFrom (s.heap.objs.size+1) scope.names []).lookup y.1).isSome=true):=fun⟨n,v⟩ hy=>by
  rcases S.par n (of_mem_zip hy).1 with q|q
  ·exact .inl q
  exact .inr ⟨q,PySem.W.cellsFrom_some _ _ _ (.inl q)⟩
 refine codeAny_call_function hr.depth (KX _ _ lk) rfl S.co S.gen rfl (PySem.W.codeRec_of KX hcd) (hb _ _ _ _ ?_);refine wpAny_newFunctionEnv_cells S.kind hkind fun env he s1 x=>?_;subst he;refine⟨lim.keeps x.toInCall.keep,codeAny_func ?_⟩;obtain⟨t,ht,hq⟩:=hbody A outer s H vs Q E (hr.deeper _) hsp;have I:Inv (yZ CX P w K mg base N qual scope f cdv A outer s H E) [] (start N vs) H s1:=Ck S hr.hd e0 hl r x;refine wpAny_mono (ht [] s1 (start N vs) H _ I hq) (fun fl s' hs=>?_) fun e s' hs=>hs;have fin:∀{σ':St}{H':Hp}{v:V}{u:Value},Inv (yZ CX P w K mg base N qual scope f cdv A outer s H E) [] σ' H' s'->RelV v u->Q v H'->CE outer P w H s Q u s':=
  fun {σ' H' v u} J rv q=>⟨v,H',J.os,J.bare,J.base,J.hok,rv,q⟩
 cases fl with
 | ret u=>
  obtain⟨v,σ',H',J,rv,q⟩:=hs;exact fin J rv q
 | next=>
  obtain⟨σ',H',J,q⟩:=hs;exact fin (v:=V.non) (u:=Value.none) J rfl q
 | brk=>
  obtain⟨_,_,_,q⟩:=hs;exact False.elim q
 | cont=>
  obtain⟨_,_,_,q⟩:=hs;exact False.elim q
section
variable {X:Cx}{x:Str}{p pos:Pos}{e:Expr}{es:List Expr}{t:TA}{id T:String}{r:List V->Hp->VK->Prop}
noncomputable def tCB (r:List V->Hp->VK->Prop)(t:TA):TE:=fun σ H Q=>t σ H fun vs H1=>r vs H1 Q
theorem Ga (hc:eE X (.builtin id) r) (hg:Gl X x) (hm:X.mg x=none) (hv:bootBuiltins x=some (.builtin id)) (ha:PA X (e::es) t) (hn:x ≠ "__name__" := by decide) (hdb:(x == ("__debug__" : Str))=false:=by decide)
  (he:starEach (e::es) X.env=(false,eval e X.env)::starEach es X.env:=by rfl) (hpl:(backTo pos (starEach es X.env)).any (·.1)=false:=by rfl):PE X (.Call (.Name x p) (e::es) [] pos) (tCB r t):=by
 intro pins s σ H Q I h;refine wpAny_Call_Name_kw (jK I hg hm hv ?_ hn hdb);exact PyProof.Rows.callWith_builtin1 (thA (ha pos pins s σ H _ I h) fun us s1 vs H1 I1 r1 q1=>hc pins s1 σ H1 vs us Q I1 r1 q1) he hpl
theorem BL (hc:eE X (.type T) r) (hg:Gl X x) (hm:X.mg x=none) (hv:bootBuiltins x=some (.type T)) (ha:PA X (e::es) t) (hn:x ≠ "__name__" := by decide) (hdb:(x == ("__debug__" : Str))=false:=by decide)
  (he:starEach (e::es) X.env=(false,eval e X.env)::starEach es X.env:=by rfl) (hpl:(backTo pos (starEach es X.env)).any (·.1)=false:=by rfl):PE X (.Call (.Name x p) (e::es) [] pos) (tCB r t):=by
 intro pins s σ H Q I h;refine wpAny_Call_Name_kw (jK I hg hm hv ?_ hn hdb);exact PyProof.Rows.callWith_type1 (thA (ha pos pins s σ H _ I h) fun us s1 vs H1 I1 r1 q1=>hc pins s1 σ H1 vs us Q I1 r1 q1) he hpl
end
end L2
namespace HT
open PySem PyProof.Rows
section
variable {prog:Program}{w:World}{A:Around}{E:Value->Shared->Prop}{s:Shared}
noncomputable def sIx (n d:Nat):Option Int->Nat
 | none=>d
 | some v=>if v<0 then (v+(n:Int)).toNat else min v.toNat n
theorem K5 (n d:Nat)(hd:d<=n)(o:Option Int):sIx n d o<=n:=by
 cases o with
 | none=>exact hd
 | some v=>
  show(if v<0 then (v+(n:Int)).toNat else min v.toNat n)<=n;by_cases hv:v<0
  ·rw[if_pos hv];omega
  rw[if_neg hv];exact Nat.min_le_right _ _
theorem Bc (v:Int)(n d:Nat):(if v<0 then max (v+(n:Int)) 0 else min v (n:Int))=((sIx n d (some v):Nat):Int):=by
 show(if v<0 then max (v+(n:Int)) 0 else min v (n:Int))=(((if v<0 then (v+(n:Int)).toNat else min v.toNat n):Nat):Int);by_cases hv:v<0
 ·simp only[if_pos hv];omega
 simp only[if_neg hv];omega
theorem zu (lo hi:Option Int)(n:Nat):Builtin.Slice.sliceAdjust lo hi 1 (n:Int)=(((sIx n 0 lo:Nat):Int),((sIx n n hi:Nat):Int)):=by
 have h1:¬((1:Int)<0):=ω;unfold Builtin.Slice.sliceAdjust;simp only[h1,if_false];refine Prod.ext ?_ ?_
 ·cases lo with
  | none=>rfl
  | some v=>exact Bc v n 0
 cases hi with
 | none=>rfl
 | some v=>exact Bc v n n
theorem yu (i j:Nat):Builtin.Slice.slicePlaces (i:Int) (j:Int) 1=j-i:=by
 unfold Builtin.Slice.slicePlaces;have h1:(1:Int)>0:=ω;simp only[h1,if_true,Int.ediv_one];split <;> omega
theorem qz {v:Value}{o:Option Int}{Q:Option Int->Shared->Prop}(p:IsPart v o)(h:Q o s):wpAny (model prog w) A (Builtin.Slice.slicePartIndex v) Q E s:=by
 cases p with
 | none=>exact slicePart_none h
 | int i t=>exact slicePart_int h
theorem oA {sl:Addr}{vl vu:Value}{lo hi:Option Int}{n:Nat}{Q:Int×Int×Nat->Shared->Prop}(hs:s.heap.IsSliceOf sl vl vu .none)(pl:IsPart vl lo)(pu:IsPart vu hi)
  (h:Q (((sIx n 0 lo:Nat):Int),1,sIx n n hi-sIx n 0 lo) s):wpAny (model prog w) A (Builtin.Slice.sliceApplied (.ref sl) (pure (n:Int))) Q E s:=by
 obtain⟨os,hos,hcs,hds⟩:=id hs;unfold Builtin.Slice.sliceApplied Builtin.Slice.sliceFields;refine wpAny_bind (wpAny_bind (wpAny_field hos hds (x:=vl) rfl (wpAny_bind (wpAny_field hos hds (x:=vu) rfl (wpAny_bind (wpAny_field hos hds (x:=.none) rfl (wpAny_pure ?_)))))));refine wpAny_bind (slicePart_none ?_);show wpAny _ _ (if ((1:Int) == 0)=true then _ else _) _ _ s;rw[if_neg δ];refine wpAny_bind (qz pl (wpAny_bind (qz pu (wpAny_bind (wpAny_pure ?_)))));show wpAny _ _ (match Builtin.Slice.sliceAdjust lo hi 1 (n:Int) with|(lo,hi)=>pure (lo,(1:Int),Builtin.Slice.slicePlaces lo hi 1)) _ _ s
 rw[zu lo hi n];show wpAny _ _ (pure (((sIx n 0 lo:Nat):Int),(1:Int),Builtin.Slice.slicePlaces ((sIx n 0 lo:Nat):Int) ((sIx n n hi:Nat):Int) 1)) _ _ s;rw[yu];exact wpAny_pure h
theorem Fz (xs:Array Value)(i k:Nat):((List.range k).filterMap fun(m:Nat)=>xs[((i:Int)+(m:Int)*1).toNat]?).toArray=((xs.toList.drop i).take k).toArray:=by
 have e:(fun(m:Nat)=>xs[((i:Int)+(m:Int)*1).toNat]?)=fun m=>xs[i+m]?:=by
  funext m;have:((i:Int)+(m:Int)*1).toNat=i+m:=by omega
  rw[this]
 rw[e];have:=pick_run xs i k;rw[List.filterMap_map] at this;have e2:((fun x=>xs[x]?)∘fun x=>i+x)=fun m=>xs[i+m]?:=rfl;rw[e2] at this;rw[this]
theorem nG {t sl:Addr}{items:Array Value}{vl vu:Value}{lo hi:Option Int}{Q:Value->Shared->Prop}(ht:IsTup s.heap t items)(hs:s.heap.IsSliceOf sl vl vu .none)(pl:IsPart vl lo)(pu:IsPart vu hi)
  (hw:¬(sIx items.size 0 lo=0/\sIx items.size items.size hi=items.size))
  (h:Q (.ref s.heap.objs.size) { s with heap:=s.heap.push { cls:=.type "tuple",data:=.seq ((items.toList.drop (sIx items.size 0 lo)).take (sIx items.size items.size hi-sIx items.size 0 lo)).toArray } })
  (hsz:items.size<=sizeLine):wpAny (model prog w) A (getItem (.ref t) (.ref sl)) Q E s:=by
 have htake:sizeOk (.seq ((items.toList.drop (sIx items.size 0 lo)).take (sIx items.size items.size hi-sIx items.size 0 lo)).toArray):=by
  show((items.toList.drop (sIx items.size 0 lo)).take (sIx items.size items.size hi-sIx items.size 0 lo)).toArray.size<=sizeLine;rw[size_toArray,length_take,length_drop,length_toList];omega
 have hj:sIx items.size items.size hi<=items.size:=K5 _ _ (le_refl _) hi;obtain⟨os,hos,hcs,hds⟩:=id hs;have hTs:s.TypeIs (.ref sl) "slice" := ⟨os,hos,hcs⟩;unfold getItem
 try with_reducible refine wpAny_holding ?_
 first|refine wpAny_bind (wpAny_pure ?_)|skip
 refine wpAny_bind (wpAny_sequenceKey ht.typeIs δ ?_);refine wpAny_bind (wpAny_callSpecial?_slot (name:=Str.ofString "__getitem__") ht.typeIs PyProof.Rows.slot_tuple_getitem
  (wpAny_call_entry PyProof.Rows.slot_tuple_getitem ht.typeIs entry_tuple_getitem ?_ (args_tuple_getitem _ _)))
 show wpAny _ _ (Builtin.Tuple.tupleItemsOf (.ref t) >>= _) _ _ s;refine wpAny_bind (tupleItemsOf_ ht ?_);refine wpAny_bind (wpAny_typeOf hTs ?_);rw[if_pos δ];refine wpAny_bind (oA hs pl pu ?_);have hno:¬((((sIx items.size 0 lo:Nat):Int) == 0&&(1:Int) == 1&&(sIx items.size items.size hi-sIx items.size 0 lo) == items.size)=true):=by
  intro q;rw[and_eq_true,and_eq_true] at q;have q1:((sIx items.size 0 lo:Nat):Int)=0:=eq_of_beq q.1.1;have q2:sIx items.size items.size hi-sIx items.size 0 lo=items.size:=eq_of_beq q.2;exact hw ⟨ω,ω⟩
 show wpAny _ _ (if (((sIx items.size 0 lo:Nat):Int) == 0&&(1:Int) == 1&&(sIx items.size items.size hi-sIx items.size 0 lo) == items.size)=true then _ else _) _ _ s;rw[if_neg hno,Fz]
 first
  | exact wpAny_bind (m:=Builtin.Tuple.tupleExact _) (wpAny_newObj_type (wpAny_pure ⟨_,rfl,wpAny_pure h⟩) htake)
  | exact wpAny_bind (m:=Builtin.Tuple.tupleExact _) (wpAny_newObj_type (wpAny_bind (wpAny_pure (wpAny_pure ⟨_,rfl,wpAny_pure h⟩))) htake)
  | exact wpAny_bind (wpAny_bind (m:=Builtin.Tuple.tupleExact _) (wpAny_newObj_type (wpAny_pure (wpAny_pure ⟨_,rfl,wpAny_pure h⟩)) htake))
  | exact wpAny_bind (wpAny_bind (m:=Builtin.Tuple.tupleExact _) (wpAny_newObj_type (wpAny_pure ⟨_,rfl,wpAny_pure h⟩) htake))
end
end HT
namespace L2
open PySem PySem.Spec PyProof.Rows
noncomputable abbrev TO:=St->Hp->(Option Int->Hp->Prop)->Prop
noncomputable def PO (X:Cx)(e:Option Expr)(t:TO):Prop:=
 ∀(pins:List (Addr×Obj)) (s:Shared) (σ:St) (H:Hp) (Q:Option Int->Hp->Prop),Inv X pins σ H s->t σ H Q ->
  wpAny (model X.prog X.w) X.A (evalPart e X.env) (fun u s'=>∃o H',Inv X pins σ H' s'/\IsPart u o/\Q o H') X.xe s
noncomputable def uH:TO:=fun _ H Q=>Q none H
noncomputable def Dt (t:TE):TO:=fun σ H Q=>t σ H fun x H1=>∃i,x=.int i/\Q (some i) H1
section
variable {X:Cx}{e:Expr}{te:TE}{lo hi:Option Expr}{tl th:TO}{pos p2:Pos}
theorem Jm:PO X none uH:=by
 intro pins s σ H Q I h;rw[evalPart_none];exact wpAny_pure ⟨none,H,I,.none,h⟩
theorem Jl (h:PE X e te):PO X (some e) (Dt te):=by
 intro pins s σ H Q I hw;rw[evalPart_some];refine thE (h pins s σ H _ I hw) fun u s1 x H1 I1 r1 q1=>?_;obtain⟨i,rfl,q⟩:=q1;obtain⟨t,rfl⟩:=r1;exact⟨some i,H1,I1,.int i t,q⟩
noncomputable def SlR (X:Cx)(r:V->Option Int->Option Int->Hp->VK->Prop):Prop:=
 ∀(pins:List (Addr×Obj)) (s:Shared) (σ:St) (H:Hp) (x:V) (v vl vu:Value) (lo hi:Option Int) (sl:Addr) (Q:VK),Inv X pins σ H s->RelV x v->s.heap.IsSliceOf sl vl vu .none->IsPart vl lo->IsPart vu hi->r x lo hi H Q ->
  ∃T id,typeLookup (.type T) "__getitem__" = pure (some (.builtin id))/\s.TypeIs v T/\wpAny (model X.prog X.w) X.A (getItem v (.ref sl)) (EP X pins σ Q) X.xe s
noncomputable def tSl (r:V->Option Int->Option Int->Hp->VK->Prop)(te:TE)(tl th:TO):TE:=fun σ H Q=>te σ H fun x H1=>tl σ H1 fun l H2=>th σ H2 fun u H3=>r x l u H3 Q
theorem FQ {r:V->Option Int->Option Int->Hp->VK->Prop}(hr:SlR X r)(he:PE X e te)(hl:PO X lo tl)(hu:PO X hi th):PE X (.Subscript e (.Slice lo hi none p2) pos) (tSl r te tl th):=by
 intro pins s σ H Q I h;refine Subscript_ (thE (he pins s σ H _ I h) fun v s1 x H1 I1 r1 q1=>?_);refine wpAny_Slice (thn (hl pins s1 σ H1 _ I1 q1) fun vl s2 ⟨l,H2,I2,pl,q2⟩=>thn (hu pins s2 σ H2 _ I2 q2) fun vu s3 ⟨u,H3,I3,pu,q3⟩=>?_);rw[evalPart_none];refine wpAny_pure ?_;have I4:Inv X pins σ H3 { s3 with heap:=s3.heap.push { cls:=.type "slice",data:=.fields #[vl,vu,.none] } }:=I3.kept (t':=s3.toks) fun b ob q=>get?_push_of_some _ q;obtain⟨T,id,hT,ht,hg⟩:=hr pins { s3 with heap:=s3.heap.push { cls:=.type "slice",data:=.fields #[vl,vu,.none] } } σ H3 x v vl vu l u s3.heap.objs.size Q I4 r1 (Heap.IsSliceOf.new ..) pl pu q3;show wpAny (model X.prog X.w) X.A (subscriptTail e (.Slice lo hi none p2) v (.ref s3.heap.objs.size)) (EP X pins σ Q) X.xe { s3 with heap:=s3.heap.push { cls:=.type "slice",data:=.fields #[vl,vu,.none] } };exact tail_any (ops:=[.ref s3.heap.objs.size,v]) ht hT hg (by with_unfolding_all rfl)
noncomputable def jj (xs:List V)(lo hi:Option Int):List V:=(xs.drop (HT.sIx xs.length 0 lo)).take (HT.sIx xs.length xs.length hi-HT.sIx xs.length 0 lo)
theorem pQ (xs:List V)(lo hi:Option Int):(jj xs lo hi).length<=xs.length:=by
 unfold jj;rw[length_take,length_drop];omega
noncomputable def Pj (K:PySem.W.Frag):V->Option Int->Option Int->Hp->VK->Prop:=fun x lo hi H Q=>∃a xs,x=.ref a/\SqT K H a xs /\
 ¬(HT.sIx xs.length 0 lo=0/\HT.sIx xs.length xs.length hi=xs.length)/\∀p,H p=none->Q (.ref p) (upd H p (.tup (jj xs lo hi)))
theorem K4:SlR X (Pj X.K):=by
 intro pins s σ H x v vl vu lo hi sl Q I rx hs pl pu h;obtain⟨a,xs,rfl,hx,hw,q⟩:=h;cases rx;obtain⟨its,r,ht,hz⟩:=I.tuple hx;have hlen:its.toArray.size=xs.length:=by rw[size_toArray];exact r.length.symm
 refine⟨"tuple",_,PyProof.Rows.slot_tuple_getitem.lookup,ht.typeIs,?_⟩;refine HT.nG ht hs pl pu (by rw[hlen];exact hw) ?_ (by rw[hlen];exact hz);rw[hlen];refine⟨.ref s.heap.objs.size,_,I.laid (t':=s.toks) (o:=.tup (jj xs lo hi)) (fun b ob q=>get?_push_of_some _ q) (le_refl _) ?_,rfl,q _ (I.hok.fresh (le_refl _))⟩;exact⟨le_trans (pQ xs lo hi) hz,_,(r.drop (HT.sIx xs.length 0 lo)).take (HT.sIx xs.length xs.length hi-HT.sIx xs.length 0 lo),IsTup.new _ _⟩
end
noncomputable def ixN (n:Nat)(i:Int):Option Nat:=if 0<=i then (if i<n then some i.toNat else none) else if -(n:Int)<=i then some (i+n).toNat else none
noncomputable def atI {α:Type}(xs:List α)(i:Int):Option α:=(ixN xs.length i).bind fun j=>xs[j]?
theorem Ah {n:Nat}{i:Int}{j:Nat}(h:ixN n i=some j):seqIndex? i n=some j/\j<n/\-(n:Int)<=i/\i<n:=by
 unfold ixN at h;by_cases h0:0<=i
 ·rw[if_pos h0] at h;by_cases h1:i<n
  ·rw[if_pos h1] at h;have e:i.toNat=j:=Option.some.inj h;exact⟨by rw[seqIndex_of h0 h1,e],ω,ω,h1⟩
  rw[if_neg h1] at h;cases h
 rw[if_neg h0] at h;by_cases h1:-(n:Int)<=i
 ·rw[if_pos h1] at h;have e:(i+n).toNat=j:=Option.some.inj h;exact⟨by rw[seqIndex_neg ω h1,e],ω,h1,ω⟩
 rw[if_neg h1] at h;cases h
theorem Bd {α:Type}{xs:List α}{i:Int}{v:α}(h:atI xs i=some v):∃j,seqIndex? i xs.length=some j/\xs[j]?=some v/\j<xs.length/\-(xs.length:Int)<=i/\i<xs.length:=by
 unfold atI at h;cases e:ixN xs.length i with
 | none=>rw[e] at h;cases h
 | some j=>
  rw[e] at h;obtain⟨h1,h2,h3,h4⟩:=Ah e;exact⟨j,h1,h,h2,h3,h4⟩
theorem cU {α:Type}{xs:List α}{j:Nat}{v:α}(h:xs[j]?=some v):atI xs (j:Int)=some v:=by
 have hj:j<xs.length:=(List.getElem?_eq_some_iff.mp h).1;have e:ixN xs.length (j:Int)=some j:=by
  unfold ixN;rw[if_pos ω,if_pos ω];simp
 unfold atI;rw[e];exact h
noncomputable def Bf (b:Expr):Prop:=∀o i,subscripted b false o i=operate [o,i] (getItem o i)
noncomputable def IxR (X:Cx)(r:R2):Prop:=
 ∀(value slice:Expr)(pins:List (Addr×Obj)) (s:Shared) (σ:St) (H:Hp) (x y:V) (v u:Value) (Q:VK),Inv X pins σ H s->RelV x v->RelV y u->r x y H Q ->
  subscripted slice false v u=operate [v,u] (getItem v u)->wpAny (model X.prog X.w) X.A (subscriptTail value slice v u) (EP X pins σ Q) X.xe s
section
variable {X:Cx}{a b:Expr}{ta tb:TE}{pos:Pos}
theorem Oj {r:R2}(hr:IxR X r)(ha:PE X a ta)(hb:PE X b tb)(hs:Bf b):PE X (.Subscript a b pos) (tOp r ta tb):=by
 intro pins s σ H Q I h;exact Subscript_ (NQ ha hb I h fun v u s2 x y H2 I2 rx ry q=>hr a b pins s2 σ H2 x y v u Q I2 rx ry q (hs _ _))
noncomputable def Ob (K:PySem.W.Frag):R2:=fun x y H Q=>∃p xs i v,x=.ref p/\y=.int i/\SqL K H p xs/\atI xs i=some v/\Q v H
noncomputable def Py (K:PySem.W.Frag):R2:=fun x y H Q=>∃p xs i v,x=.ref p/\y=.int i/\SqT K H p xs/\atI xs i=some v/\Q v H
theorem Ag:IxR X (Ob X.K):=by
 intro value slice pins s σ H x y v u Q I rx ry h hs;obtain⟨p,xs,i,z,rfl,rfl,hq,he,q⟩:=h;cases rx;obtain⟨t,rfl⟩:=ry;obtain⟨its,r,pl,hz⟩:=I.list hq;obtain⟨j,h1,h2,h3,h4,h5⟩:=Bd he;obtain⟨w,ew,rw'⟩:=r.get h2;have hl:=r.length;have hn:=rC;have fin:EP X pins σ Q w s:=⟨z,H,I,rw',q⟩;by_cases h0:0<=i
 ·have hj:i.toNat=j:=by
   rw[seqIndex_of h0 h5] at h1;exact Option.some.inj h1
  exact item_listR pl.isList h0 ω (by rw[hj];simpa using ew) fin hs
 have hj:(i+(its.toArray.size:Int)).toNat=j:=by
  rw[seqIndex_neg ω h4] at h1;rw[size_toArray,<- hl];exact Option.some.inj h1
 exact subscriptTail_builtinR (x:=w) pl.isList.typeIs slot_list_getitem.lookup
  (wpAny_getItem_list_neg (Q:=fun r s'=>r=w/\EP X pins σ Q r s') pl.isList ω (by rw[size_toArray] <;> omega) ω (by rw[hj];simpa using ew) ⟨rfl,fin⟩) hs
theorem Nq:IxR X (Py X.K):=by
 intro value slice pins s σ H x y v u Q I rx ry h hs;obtain⟨p,xs,i,z,rfl,rfl,hq,he,q⟩:=h;cases rx;obtain⟨t,rfl⟩:=ry;obtain⟨its,r,pl,hz⟩:=I.tuple hq;obtain⟨j,h1,h2,h3,h4,h5⟩:=Bd he;obtain⟨w,ew,rw'⟩:=r.get h2;have hl:=r.length;have hn:=rC;have fin:EP X pins σ Q w s:=⟨z,H,I,rw',q⟩;exact subscriptTail_builtinR (x:=w) pl.typeIs slot_tuple_getitem.lookup
  (getItem_tuple (j:=j) (Q:=fun r s'=>r=w/\EP X pins σ Q r s') pl ω ω (by rw[size_toArray,<- hl];exact h1) (by simpa using ew) ⟨rfl,fin⟩) hs
theorem yI (its:List Value) (n j:Nat) (u:Value):Obj.mapSeq (·.setIfInBounds j u) { cls:=.type "list",data:=.seq its.toArray n }={ cls:=.type "list",data:=.seq (its.set j u).toArray n }:=by
 simp [Obj.mapSeq]
theorem Inv.lst {pins:List (Addr×Obj)}{σ:St}{H:Hp}{s:Shared}{p:Addr}{xs:List V}(I:Inv X pins σ H s)(h:H p=some (.lst xs)) :
  ∃(its:List Value)(n:Nat),Vals xs its/\s.heap.get? p=some { cls:=.type "list",data:=.seq its.toArray n }/\xs.length<=sizeLine:=by
 obtain⟨z,its,n,r,e⟩:=I.hok p _ h;exact⟨its,n,r,e,z⟩
theorem Inv.M9 {pins:List (Addr×Obj)}{σ:St}{H:Hp}{s:Shared}{p:Addr}{xs ys:List V}{its its':List Value}{n n':Nat}{f:Obj->Obj}(I:Inv X pins σ H s)(h:H p=some (.lst xs))
  (ho:s.heap.get? p=some { cls:=.type "list",data:=.seq its.toArray n }) (hf:f { cls:=.type "list",data:=.seq its.toArray n }={ cls:=.type "list",data:=.seq its'.toArray n' }) (r:Vals ys its') (hz:ys.length<=sizeLine) (t:Nat) :
  Inv X pins σ (upd H p (.lst ys)) { s with heap:=s.heap.update p f,toks:=t }:=by
 have e:(s.heap.update p f).get? p=some { cls:=.type "list",data:=.seq its'.toArray n' }:=by
  rw[get?_update_self f ho (by rw[hf] <;> rfl),hf]
 refine I.write (x:=p) (e:=p) (by rw[h];trivial) (.inl rfl) (fun b u hb q=>(get?_update_other _ _ (Ne.symm hb)).trans q) ⟨_,e⟩ ?_;exact⟨hz,its',n',r,e⟩
noncomputable def Oa:V->V->V->Hp->(Hp->Prop)->Prop:=fun o i v H Q=>∃p xs k j,o=.ref p/\i=.int k/\H p=some (.lst xs)/\ixN xs.length k=some j/\Q (upd H p (.lst (xs.set j v)))
theorem set_list:Ks X Oa:=by
 intro pins s σ H o i v ov iv u Q I ro ri rv h;obtain⟨p,xs,k,j,rfl,rfl,hp,hj,q⟩:=h;cases ro;obtain⟨t,rfl⟩:=ri;obtain⟨its,n,r,ho,hz⟩:=I.lst hp;obtain⟨h1,h2,h3,h4⟩:=Ah hj;have hl:=r.length;have hn:=rC;have I':Inv X pins σ (upd H p (.lst (xs.set j v))) { s with heap:=s.heap.update p (Obj.mapSeq (·.setIfInBounds j u)) }:=
  I.M9 hp ho (yI its n j u) (r.set rv j) (by rw[List.length_set];exact hz) s.toks
 by_cases h0:0<=k
 ·have hk:k.toNat=j:=by
   rw[seqIndex_of h0 h4] at h1;exact Option.some.inj h1
  exact PySem.W.ki_setAt ho h0 ω (by rw[size_toArray,<- hl];exact h4) (by rw[hk];exact⟨_,I',q⟩)
 have hk:(k+(its.toArray.size:Int)).toNat=j:=by
  rw[seqIndex_neg ω h3] at h1;rw[size_toArray,<- hl];exact Option.some.inj h1
 exact PySem.W.ki_setBack ho ω (by rw[size_toArray,<- hl];exact h3) ω (by rw[hk];exact⟨_,I',q⟩)
theorem uI (lo hi:Option Int)(n:Nat):(sliceBounds lo hi none n).1=((HT.sIx n 0 lo:Nat):Int)/\(sliceBounds lo hi none n).2.1=((HT.sIx n n hi:Nat):Int)/\(sliceBounds lo hi none n).2.2=1:=by
 refine⟨?_,?_,rfl⟩
 ·cases lo with
  | none=>simp [sliceBounds,HT.sIx]
  | some i=>
   simp only[sliceBounds,HT.sIx,getD_none,show(1:Int)>0 by decide,if_true];by_cases h:i<0
   ·simp only[h,if_true] <;> omega
   simp only[h,if_false] <;> omega
 cases hi with
 | none=>simp [sliceBounds,HT.sIx]
 | some i=>
  simp only[sliceBounds,HT.sIx,getD_none,show(1:Int)>0 by decide,if_true];by_cases h:i<0
  ·simp only[h,if_true] <;> omega
  simp only[h,if_false] <;> omega
theorem su (its:List Value)(lo hi:Option Int):slicePick its.toArray lo hi none=((its.drop (HT.sIx its.length 0 lo)).take (HT.sIx its.length its.length hi-HT.sIx its.length 0 lo)).toArray:=by
 obtain⟨h1,h2,h3⟩:=uI lo hi its.toArray.size;unfold slicePick;rw[h1,h2,h3];simp only[sliceRange_one,pick_run,size_toArray] <;> rfl
noncomputable def Pk (K:PySem.W.Frag):V->Option Int->Option Int->Hp->VK->Prop:=fun x lo hi H Q=>∃a xs,x=.ref a/\SqL K H a xs/\∀p,H p=none->Q (.ref p) (upd H p (.lst (jj xs lo hi)))
theorem Ie:SlR X (Pk X.K):=by
 intro pins s σ H x v vl vu lo hi sl Q I rx hs pl pu h;obtain⟨a,xs,rfl,hx,q⟩:=h;cases rx;obtain⟨its,r,ht,hz⟩:=I.list hx;have hlen:=r.length;refine⟨"list",_,slot_list_getitem.lookup,ht.isList.typeIs,?_⟩;refine wpAny_getItem_list_slice ht.isList hs pl pu .none (by simp) ?_ (by rw[size_toArray] <;> omega)
 rw[su,<- hlen];refine⟨.ref s.heap.objs.size,_,I.laid (t':=s.toks) (o:=.lst (jj xs lo hi)) (fun b ob q=>get?_push_of_some _ q) (le_refl _) ?_,rfl,q _ (I.hok.fresh (le_refl _))⟩;exact⟨le_trans (pQ xs lo hi) hz,_,0,(r.drop (HT.sIx xs.length 0 lo)).take (HT.sIx xs.length xs.length hi-HT.sIx xs.length 0 lo),get?_push_size _ rfl⟩
noncomputable def eZ:V->Bool
 | .non=>true
 | .bl _=>true
 | .int _=>true
 | .str _=>true
 | _=>false
noncomputable def eqV:V->V->Bool
 | .non,.non=>true
 | .bl a,.bl b=>a == b
 | .bl a,.int b=>(if a then 1 else 0) == b
 | .int a,.bl b=>a == (if b then 1 else 0)
 | .int a,.int b=>a == b
 | .str a,.str b=>a == b
 | _,_=>false
theorem Hh {A:Around}{s:Shared}{y x:V}{u v:Value}(ry:RelV y u)(rx:RelV x v)(fy:eZ y=true)(fx:eZ x=true):SeqAt.EqAt A s u v (eqV y x):=by
 cases y with
 | non=>
  cases ry;cases x with
  | non=>cases rx;exact SeqAt.EqAt.same _
  | bl b=>cases rx;exact SeqAt.EqAt.none_bool b
  | int b=>obtain⟨t,rfl⟩:=rx;exact SeqAt.EqAt.none_int b t
  | str b=>obtain⟨t,rfl⟩:=rx;exact SeqAt.EqAt.none_str b t
  | _=>exact absurd (show false=true from fx) Bool.false_ne_true
 | bl a=>
  cases ry;cases x with
  | non=>cases rx;exact SeqAt.EqAt.bool_none a
  | bl b=>cases rx;exact SeqAt.EqAt.bool_bool a b
  | int b=>obtain⟨t,rfl⟩:=rx;exact SeqAt.EqAt.bool_int a b t
  | str b=>obtain⟨t,rfl⟩:=rx;exact SeqAt.EqAt.bool_str a b t
  | _=>exact absurd (show false=true from fx) Bool.false_ne_true
 | int a=>
  obtain⟨t',rfl⟩:=ry;cases x with
  | non=>cases rx;exact SeqAt.EqAt.int_none a t'
  | bl b=>cases rx;exact SeqAt.EqAt.int_bool a t' b
  | int b=>obtain⟨t,rfl⟩:=rx;exact SeqAt.EqAt.int_int a t' b t
  | str b=>obtain⟨t,rfl⟩:=rx;exact SeqAt.EqAt.int_str a t' b t
  | _=>exact absurd (show false=true from fx) Bool.false_ne_true
 | str a=>
  obtain⟨t',rfl⟩:=ry;cases x with
  | non=>cases rx;exact SeqAt.EqAt.str_none a t'
  | bl b=>cases rx;exact SeqAt.EqAt.str_bool a t' b
  | int b=>obtain⟨t,rfl⟩:=rx;exact SeqAt.EqAt.str_int a t' b t
  | str b=>obtain⟨t,rfl⟩:=rx;exact SeqAt.EqAt.str_str a t' b t
  | _=>exact absurd (show false=true from fx) Bool.false_ne_true
 | _=>exact absurd (show false=true from fy) Bool.false_ne_true
noncomputable def eqU (x:V)(u:Value):Bool:=match u with
 | .none=>eqV .non x
 | .bool b=>eqV (.bl b) x
 | .int i _=>eqV (.int i) x
 | .str z _=>eqV (.str z) x
 | _=>false
theorem Hg {x y:V}{u:Value}(r:RelV y u)(f:eZ y=true):eqU x u=eqV y x:=by
 cases y with
 | non=>cases r;rfl
 | bl b=>cases r;rfl
 | int i=>obtain⟨t,rfl⟩:=r;rfl
 | str z=>obtain⟨t,rfl⟩:=r;rfl
 | _=>exact absurd (show false=true from f) Bool.false_ne_true
theorem nY {x:V}:∀{xs:List V}{us:List Value},Vals xs us->xs.all eZ=true->us.any (eqU x)=xs.any fun y=>eqV y x
 | _,_,.nil,_=>rfl
 | y::xs,u::us,.cons r t,f=>by
  rw[all_cons,and_eq_true] at f;rw[any_cons,any_cons,Hg r f.1,nY t f.2]
theorem kY {A:Around}{s:Shared}{x:V}{v:Value}(rx:RelV x v)(fx:eZ x=true):∀{xs:List V}{us:List Value},Vals xs us->xs.all eZ=true->∀u∈us,SeqAt.EqAt A s u v (eqU x u)
 | _,_,.nil,_=>fun u hu=>by cases hu
 | y::xs,u::us,.cons r t,f=>fun u' hu=>by
  rw[all_cons,and_eq_true] at f;rcases mem_cons.mp hu with rfl|hu
  ·rw[Hg r f.1];exact Hh r rx f.1 fx
  exact kY rx fx t f.2 u' hu
noncomputable def inV (x:V)(xs:List V):Bool:=xs.any fun y=>eqV y x
noncomputable def rIn (K:PySem.W.Frag)(neg:Bool):R2:=fun x y H Q=>∃p xs,y=.ref p/\(SqL K H p xs\/SqT K H p xs)/\eZ x=true/\xs.all eZ=true/\Q (.bl (if neg then !inV x xs else inV x xs)) H
theorem BP:OpR X (compareOp .In) (rIn X.K false):=by
 intro pins s σ H x y v u Q I rx ry h;obtain⟨p,xs,rfl,hq,fx,fs,q⟩:=h;cases ry;rcases hq with hq|hq
 ·obtain⟨its,r,pl,hz⟩:=I.list hq;refine SeqAt.in_listAt (eqU x) pl.isList (fun w hw=>kY rx fx r fs w (by simpa using hw)) ⟨.bl _,H,I,rfl,?_⟩;rw[show its.toArray.any (eqU x)=its.any (eqU x) by simp,nY r fs];exact q
 obtain⟨its,r,pl,hz⟩:=I.tuple hq;refine SeqAt.in_tupleAt (eqU x) pl (fun w hw=>kY rx fx r fs w (by simpa using hw)) ⟨.bl _,H,I,rfl,?_⟩;rw[show its.toArray.any (eqU x)=its.any (eqU x) by simp,nY r fs];exact q
theorem uU:OpR X (compareOp .NotIn) (rIn X.K true):=by
 intro pins s σ H x y v u Q I rx ry h;obtain⟨p,xs,rfl,hq,fx,fs,q⟩:=h;cases ry;rcases hq with hq|hq
 ·obtain⟨its,r,pl,hz⟩:=I.list hq;refine SeqAt.notIn_listAt (eqU x) pl.isList (fun w hw=>kY rx fx r fs w (by simpa using hw)) ⟨.bl _,H,I,rfl,?_⟩;rw[show its.toArray.any (eqU x)=its.any (eqU x) by simp,nY r fs];exact q
 obtain⟨its,r,pl,hz⟩:=I.tuple hq;refine SeqAt.notIn_tupleAt (eqU x) pl (fun w hw=>kY rx fx r fs w (by simpa using hw)) ⟨.bl _,H,I,rfl,?_⟩;rw[show its.toArray.any (eqU x)=its.any (eqU x) by simp,nY r fs];exact q
theorem gY:eE X (.builtin "len") (fun xs H Q=>∃p ys,xs=[.ref p]/\(SqL X.K H p ys\/SqT X.K H p ys)/\Q (.int ys.length) H):=by
 intro pins s σ H xs us Q I r h;obtain⟨p,ys,rfl,hq,q⟩:=h;obtain⟨u,rfl,rx⟩:=vals1 r;cases rx;have hn:=rC;rcases hq with hq|hq
 ·obtain⟨its,r',pl,hz⟩:=I.list hq;have hlen:=r'.length;exact Calls.call_len_list pl.isList (by simp only[size_toArray] <;> omega) ⟨.int ys.length,H,I.tok _,⟨s.toks+1,by rw[size_toArray,hlen]⟩,q⟩
 obtain⟨its,r',pl,hz⟩:=I.tuple hq;have hlen:=r'.length;exact len_tuple pl (by simp only[size_toArray] <;> omega) ⟨.int ys.length,H,I.tok _,⟨s.toks+1,by rw[size_toArray,hlen]⟩,q⟩
theorem vG:eE X (.type "list") (fun xs H Q=>∃p ys,xs=[.ref p]/\(SqL X.K H p ys\/SqT X.K H p ys)/\∀l,H l=none->Q (.ref l) (upd H l (.lst ys))):=by
 intro pins s σ H xs us Q I r h;obtain⟨p,ys,rfl,hq,q⟩:=h;obtain⟨u,rfl,rx⟩:=vals1 r;cases rx;have fin:∀(its:List Value),Vals ys its->ys.length<=sizeLine->∀(h':Heap)(c':Nat),(∀b o',s.heap.get? b=some o'->h'.get? b=some o') ->
   h'.get? s.heap.objs.size=some { cls:=.type "list",dict:=none,data:=.seq its.toArray c',slots:=#[] }->EP X pins σ Q (.ref s.heap.objs.size) { s with heap:=h' }:=fun its r' hz h' c' kp e=>
  ⟨.ref s.heap.objs.size,_,I.laid (t':=s.toks) kp (le_refl _) (show dU X.prog X.w _ h' _ (.lst ys) from⟨hz,its,c',r',e⟩),rfl,q _ (I.hok.fresh (le_refl _))⟩
 rcases hq with hq|hq
 ·obtain⟨its,r',pl,hz⟩:=I.list hq;have hlen:=r'.length;obtain⟨o,ho,hc,n,hd⟩:=pl.isList;exact call_list_seq p (.inl rfl) ho hc hd (fun h' c' kp e=>fin its r' hz h' c' kp e) (by simp only[size_toArray] <;> omega)
 obtain⟨its,r',pl,hz⟩:=I.tuple hq;have hlen:=r'.length;obtain⟨o,ho,hc,n,hd⟩:=pl;exact call_list_seq p (.inr rfl) ho hc hd (fun h' c' kp e=>fin its r' hz h' c' kp e) (by simp only[size_toArray] <;> omega)
noncomputable def tyV (K:PySem.W.Frag)(T:String)(x:V)(H:Hp):Prop:=match x with
 | .str _=>T = "str"
 | .int _=>T = "int"
 | .ref p=>(T = "list" /\ ∃xs,SqL K H p xs)\/(T = "tuple" /\ ∃o,K.lookup p=some o/\o.cls=.type "tuple" /\ o.dict=none) \/
   (T = "dict" /\ ((∃kvs,H p=some (.dK kvs))\/∃kvs,H p=some (.dT kvs)))\/(T = "set" /\ ∃S n,H p=some (.set S n))
 | _=>False
theorem uG {pins:List (Addr×Obj)}{σ:St}{H:Hp}{s:Shared}{T:String}{x:V}{v:Value}(I:Inv X pins σ H s)(r:RelV x v)(ty:tyV X.K T x H) :
  s.TypeIs v T/\∀a,v=.ref a->∃ob,s.heap.get? a=some ob/\ob.dict=none:=by
 cases x with
 | str z=>
  obtain⟨t,rfl⟩:=r;cases (show T = "str" from ty);exact⟨typeIs_str s z t,fun _ e=>nomatch e⟩
 | int i=>
  obtain⟨t,rfl⟩:=r;cases (show T = "int" from ty);exact⟨typeIs_int s i t,fun _ e=>nomatch e⟩
 | ref p=>
  cases r;rcases ty with⟨rfl,xs,hq⟩|⟨rfl,o,hk,hc,hd⟩|⟨rfl,hk⟩|⟨rfl,S,n,hk⟩
  ·obtain⟨its,_,pl,_⟩:=I.list hq;refine⟨pl.isList.typeIs,fun a e=>?_⟩;cases e;obtain⟨o,n,e,c,hd,_⟩:=pl;exact⟨o,e,hd⟩
  ·refine⟨⟨o,I.kIn p o hk,hc⟩,fun a e=>?_⟩;cases e;exact⟨o,I.kIn _ o hk,hd⟩
  ·have z:∃o,s.heap.get? p=some o/\o.ExactDict:=by
    rcases hk with⟨kvs,hk⟩|⟨kvs,hk⟩
    ·obtain⟨_,_,_,_,o,_,_,e,ex,_⟩:=I.hok p _ hk;exact⟨o,e,ex⟩
    obtain⟨_,_,_,_,o,_,_,e,ex,_⟩:=I.hok p _ hk;exact⟨o,e,ex⟩
   obtain⟨o,e,ex⟩:=z;refine⟨⟨o,e,ex.1⟩,fun a e2=>?_⟩;cases e2;exact⟨o,e,ex.2.1⟩
  obtain⟨o,_,_,_,e,ex,_⟩:=I.hok p _ hk;refine⟨⟨o,e,ex.1⟩,fun a e2=>?_⟩;cases e2;exact⟨o,e,ex.2.1⟩
 | _=>exact False.elim ty
variable {o e:Expr}{es:List Expr}{to:TE}{t:TA}{name:Str}{apos cpos:Pos}{T id:String}{r:V->List V->Hp->VK->Prop}
end
noncomputable def MtM (X:Cx)(id:String)(r:V->List V->Hp->VK->Prop):Prop:=
 ∀(pins:List (Addr×Obj)) (s:Shared) (σ:St) (H:Hp) (x:V) (xs:List V) (v:Value) (us:List Value) (Q:VK),Inv X pins σ H s->RelV x v->Vals xs us->r x xs H Q ->
  wpAny (model X.prog X.w) X.A (call (.builtin id) (v::us)) (EP X pins σ Q) X.xe s
theorem Vals.one:∀{x:V}{us:List Value},Vals [x] us->∃u,us=[u]/\RelV x u:=fun h=>by
 cases h with
 | cons r h=>
  cases h;exact⟨_,rfl,r⟩
theorem Vals.zero:∀{us:List Value},Vals [] us->us=[]
 | _,.nil=>rfl
theorem Vals.dropLast {xs:List V}{us:List Value}(h:Vals xs us):Vals xs.dropLast us.dropLast:=by
 induction h with
 | nil=>exact .nil
 | cons r t ih=>
  cases t with
  | nil=>exact .nil
  | cons q t'=>exact .cons r ih
theorem Vals.rep {xs:List V}{us:List Value}(h:Vals xs us):∀k:Nat,Vals (List.replicate k xs).flatten (List.replicate k us).flatten
 | 0=>.nil
 | k+1=>by
  rw[replicate_succ,replicate_succ,flatten_cons,flatten_cons];exact Vals.append h (Vals.rep h k)
theorem yW {α:Type}(l:List α):l.eraseIdx (l.length-1)=l.dropLast:=by
 induction l with
 | nil=>rfl
 | cons a r ih=>
  cases r with
  | nil=>rfl
  | cons b r=>
   have e:(a::b::r).length-1=((b::r).length-1)+1:=by
    have h1:(a::b::r).length=r.length+2:=rfl;have h2:(b::r).length=r.length+1:=rfl;omega
   rw[e,List.eraseIdx_cons_succ,ih]
   all_goals rfl
theorem foldl_rep (its:List Value):∀(k:Nat)(acc:List Value),
  List.foldl (fun x1 x2=>x1++x2) acc.toArray (List.replicate k its.toArray)=(acc++(List.replicate k its).flatten).toArray
 | 0,acc=>by simp
 | k+1,acc=>by
  have e:acc.toArray++its.toArray=(acc++its).toArray:=by simp
  have e2:(acc++its)++(List.replicate k its).flatten=acc++(List.replicate (k+1) its).flatten:=by
   rw[replicate_succ,flatten_cons,List.append_assoc]
  rw[<- e2,<- foldl_rep its k (acc++its),<- e,replicate_succ,List.foldl_cons]
section
variable {X:Cx}{pins:List (Addr×Obj)}{σ:St}{H:Hp}{s:Shared}{l b:Addr}{xs ys zs:List V}
theorem Inv.Nb {its its':List Value}{n:Nat}{f:Array Value->Array Value}{t':Nat}(I:Inv X pins σ H s)(hH:H l=some (.lst xs))
  (e:s.heap.get? l=some { cls:=.type "list",data:=.seq its.toArray n }) (hf:f its.toArray=its'.toArray) (hv:Vals ys its') (hz:ys.length<=sizeLine) :
  Inv X pins σ (upd H l (.lst ys)) { s with heap:=s.heap.update l (Obj.mapSeq f),toks:=t' }:=by
 have q:=PySem.IsL.update e f;rw[hf] at q;refine I.write (x:=l) (e:=l) (by rw[hH];exact trivial) (.inl rfl) (fun b' u hb hu=>(get?_update_other s.heap (Obj.mapSeq f) (Ne.symm hb)).trans hu) ⟨_,q⟩ ?_;exact⟨hz,its',_,hv,q⟩
theorem Inv.O4 {its:List Value}{t':Nat}(I:Inv X pins σ H s)(hv:Vals ys its)(hz:ys.length<=sizeLine) :
  Inv X pins σ (upd H s.heap.objs.size (.lst ys)) { s with heap:=s.heap.push { cls:=.type "list",data:=.seq its.toArray },toks:=t' }:=
 I.laid (fun _ _ q=>get?_push_of_some _ q) (le_refl _) ⟨hz,its,0,hv,get?_push_size _ rfl⟩
theorem Inv.fresh (I:Inv X pins σ H s):H s.heap.objs.size=none:=I.hok.fresh (le_refl _)
theorem Inv.yK (I:Inv X pins σ H s) (hH:H l=some (.lst xs)):xs.length<=sizeLine/\∃(its:List Value)(n:Nat),Vals xs its/\xs.length=its.length/\s.heap.get? l=some { cls:=.type "list",data:=.seq its.toArray n }:=by
 obtain⟨z,its,n,r,e⟩:=I.hok l _ hH;exact⟨z,its,n,r,r.length,e⟩
theorem wG {n:Nat}(h:n<=sizeLine):Builtin.List.listTooLong n=false:=by
 unfold Builtin.List.listTooLong;exact decide_eq_false ω
end
section
variable {X:Cx}
noncomputable def Ir:V->List V->Hp->VK->Prop:=fun x vs H Q=>∃l xs y,x=.ref l/\vs=[y]/\H l=some (.lst xs)/\xs.length<sizeLine/\Q .non (upd H l (.lst (xs++[y])))
theorem Cd:MtM X "list.append" Ir:=by
 intro pins s σ H x vs v us Q I rx rv h;obtain⟨l,xs,y,rfl,rfl,hH,hz,q⟩:=h;cases rx;obtain⟨u,rfl,ru⟩:=rv.one;obtain⟨z,its,n,r,hl,e⟩:=I.yK hH;refine call_meets F.slot_list_append ⟨_,e,rfl⟩ F.entry_list_append (F.args_list_append_2 _ _) (PySem.list_append l its.toArray n u (by rw[size_toArray];omega)) ⟨e,?_⟩;refine⟨.non,_,I.Nb (its':=its++[u]) hH e (by simp) (r.append (.cons ru .nil)) ?_,rfl,q⟩;rw[length_append,length_singleton];omega
noncomputable def Il:V->List V->Hp->VK->Prop:=fun x vs H Q=>∃l b xs zs,x=.ref l/\vs=[.ref b]/\H l=some (.lst xs)/\H b=some (.lst zs)/\xs.length+zs.length<=sizeLine/\Q .non (upd H l (.lst (xs++zs)))
theorem Ca:MtM X "list.extend" Il:=by
 intro pins s σ H x vs v us Q I rx rv h;obtain⟨l,b,xs,zs,rfl,rfl,hH,hB,hz,q⟩:=h;cases rx;obtain⟨u,rfl,ru⟩:=rv.one;cases ru;obtain⟨z,its,n,r,hl,e⟩:=I.yK hH;obtain⟨z2,its2,n2,r2,hl2,e2⟩:=I.yK hB;have hsz:its.toArray.size+its2.toArray.size<=sizeLine:=by rw[size_toArray,size_toArray];omega
 have hlong:¬(!its.toArray.isEmpty&&Builtin.List.listTooLong (its.toArray.size+its2.toArray.size))=true:=by
  rw[wG hsz,Bool.and_false];exact Bool.false_ne_true
 refine call_meets F.slot_list_extend ⟨_,e,rfl⟩ F.entry_list_extend (F.args_list_extend_2 _ _)
  (AutoSeq1.list_extend_list_list_0 l its.toArray n b its2.toArray n2 hlong (by rw[size_toArray];omega) ω) ⟨e,e2,?_⟩
 refine⟨.non,_,I.Nb (its':=its++its2) hH e (by simp) (r.append r2) ?_,rfl,q⟩;rw[length_append];omega
noncomputable def Pr:V->List V->Hp->VK->Prop:=fun x vs H Q=>∃l xs y,x=.ref l/\vs=[]/\H l=some (.lst xs)/\xs[xs.length-1]?=some y/\Q y (upd H l (.lst xs.dropLast))
theorem M5:MtM X "list.pop" Pr:=by
 intro pins s σ H x vs v us Q I rx rv h;obtain⟨l,xs,y,rfl,rfl,hH,hy,q⟩:=h;cases rx;have hus:=rv.zero;subst hus;obtain⟨z,its,n,r,hl,e⟩:=I.yK hH;obtain⟨u,hu,ru⟩:=r.get hy;have hy':its.toArray[its.toArray.size-1]?=some u:=by
  show its.toArray[its.length-1]?=some u;rw[<- getElem?_toList,<- hl];exact hu
 refine call_meets F.slot_list_pop ⟨_,e,rfl⟩ F.entry_list_pop (F.args_list_pop_1 _) (MeetsSeq.list_pop_last l its.toArray n u hy' (by rw[size_toArray];omega)) ⟨e,?_⟩;refine⟨y,_,I.Nb (its':=its.dropLast) hH e ?_ r.dropLast ?_,ru,q⟩
 ·show its.toArray.eraseIdxIfInBounds (its.toArray.size-1)=its.dropLast.toArray;rw[size_toArray,List.eraseIdxIfInBounds_toArray,yW]
 rw[List.length_dropLast];omega
noncomputable def PL:R2:=fun x y H Q=>∃l b xs zs,x=.ref l/\y=.ref b/\H l=some (.lst xs)/\H b=some (.lst zs)/\xs.length+zs.length<=sizeLine/\∀p,H p=none->Q (.ref p) (upd H p (.lst (xs++zs)))
theorem Mx:OpR X (binaryOp .Add) PL:=by
 intro pins s σ H x y v u Q I rx ry h;obtain⟨l,b,xs,zs,rfl,rfl,hH,hB,hz,q⟩:=h;cases rx;cases ry;obtain⟨z,its,n,r,hl,e⟩:=I.yK hH;obtain⟨z2,its2,n2,r2,hl2,e2⟩:=I.yK hB;refine PySem.P.add_list e e2 ?_ (by rw[size_toArray,size_toArray];omega);have ea:its.toArray++its2.toArray=(its++its2).toArray:=by simp
 rw[ea];exact⟨.ref _,_,I.O4 (t':=s.toks) (r.append r2) (by rw[length_append];omega),rfl,q _ I.fresh⟩
noncomputable def Pq:R2:=fun x y H Q=>∃l k xs,x=.ref l/\y=.int k/\H l=some (.lst xs)/\-(2^63)<=k/\k<2^63/\xs.length*k.toNat<=sizeLine /\
 ∀p,H p=none->Q (.ref p) (upd H p (.lst (List.replicate k.toNat xs).flatten))
theorem len_rep {α:Type}(xs:List α)(k:Nat):(List.replicate k xs).flatten.length=k*xs.length:=by
 induction k with
 | zero=>simp
 | succ k ih=>rw[replicate_succ,flatten_cons,length_append,ih,Nat.succ_mul,Nat.add_comm]
theorem Mq:OpR X (binaryOp .Mult) Pq:=by
 intro pins s σ H x y v u Q I rx ry h;obtain⟨l,k,xs,rfl,rfl,hH,h1,h2,hz,q⟩:=h;cases rx;obtain⟨t,rfl⟩:=ry;obtain⟨z,its,n,r,hl,e⟩:=I.yK hH;have hlen:its.toArray.size*k.toNat<=sizeLine:=by rw[size_toArray,<- hl];exact hz
 have hcap:¬its.toArray.size*k.toNat>(2^63-1)/8:=by
  have:(sizeLine:Nat)<=(2^63-1)/8:=by decide
  omega
 have hfit:¬(!Builtin.List.listFitsIndex k)=true:=by
  rw[fitsIndex_both h1 h2];exact Bool.false_ne_true
 have hlong:¬Builtin.List.listTooLong (its.toArray.size*k.toNat)=true:=by
  rw[wG hlen];exact Bool.false_ne_true
 have hnew:List.foldl (fun x1 x2=>x1++x2) #[] (List.replicate (if its.toArray.isEmpty=true then 0 else k.toNat) its.toArray)=(List.replicate k.toNat its).flatten.toArray:=by
  have f0:∀m:Nat,List.foldl (fun x1 x2=>x1++x2) #[] (List.replicate m its.toArray)=(List.replicate m its).flatten.toArray:=fun m=>by
   have:=foldl_rep its m [];rw[List.nil_append] at this;exact this
  rw[f0];cases its with
  | nil=>simp
  | cons a r'=>rw[if_neg (by simp)]
 refine wpAny_binaryOp_repeat_ref (T := "list") (U := "int") δ ⟨_,e,rfl⟩ (fun s'=>typeIs_int s' k t) noFill_list_mul F.fills_int_mul F.slot_int_rmul repeat_list F.slot_int_index.lookup
  (call_meets F.slot_int_rmul (typeIs_int s k t) F.entry_int_rmul (F.args_int_rmul_2 _ _) (int___rmul___int_list k t l its.toArray n)
   ⟨e,rfl,⟨_,e,rfl⟩,call_meets F.slot_list_mul ⟨_,e,rfl⟩ F.entry_list_mul (F.args_list_mul_2 _ _) (AutoListH.list___mul___list_int_3 l its.toArray n k t hfit hcap hlong) ⟨e,?_⟩⟩)
 rw[hnew];exact⟨.ref _,_,I.O4 (t':=s.toks) (r.rep k.toNat) (by rw[len_rep,Nat.mul_comm];exact hz),rfl,q _ I.fresh⟩
end
end L2
namespace Att
open PySem PySem.W PySem.Calls PyProof.Rows
theorem pZ {P:Params}{h:Heap}:∀(ns:List Int)(vs:List Value),WellAll P h vs (ns.map WData.int)->IntsAre vs ns:=by
 intro ns
 induction ns with
 | nil=>
  intro vs w;rw[map_nil] at w;cases w;exact .nil
 | cons n ns ih=>
  intro vs w;rw[map_cons] at w;cases w with
  | cons a b=>
   cases a;exact .cons _ _ (ih _ b)
theorem Bq {l:OpenLaw}{n:Nat}(hn:l.most=some n){P:Params}{h:Heap}{args:List WData}{vals:List Value}
  (hpre:l.row.toRowW.claim.pre args=true) (hwl:WellAll P h vals args) :
  ∃a vs ns,vals=[Value.ref a]/\args=[WData.list (ns.map WData.int)]/\h.get? a=some { cls:=.type "list",data:=.seq vs.toArray }/\IntsAre vs ns/\ns.length<=n:=by
 have hsh:WShape.hasAll [] args [.list .int]=true:=(pre_splitW hpre).1;have hc:l.pre.holds [] { args:=args }=true:=(pre_splitW hpre).2;obtain⟨d,r,rfl,h1,h2⟩:=hasAllW_cons hsh;obtain rfl:=hasAllW_nil h2;obtain⟨xs,rfl,h3⟩:=hasW_list h1;obtain⟨ns,rfl⟩:=items_int h3;have hlen:ns.length<=n:=by
  unfold OpenLaw.pre at hc;have h4:(WTm.not (.lt (.lit (.int (n:Int))) (.len (.arg 0)))).holds [] { args:=[.list (ns.map .int)] }=true:=by
   have h4:=(holds_andW hc).1;rw[hn] at h4;exact h4
  have h5:=condW_of h4 (w_not (w_lt w_lit (w_len_list (w_arg rfl))));rw[length_map] at h5;refine Nat.le_of_not_lt fun q=>?_;have q':(n:Int)<((ns.length:Nat):Int):=ω
  first
   | (rw[decide_eq_true q'] at h5;exact absurd h5 δ)
   | (simp at h5;omega)
 cases hwl with
 | cons w1 w2=>
  cases w2;cases w1 with
  | list ho hall=>exact⟨_,_,ns,rfl,rfl,ho,pZ ns _ hall,hlen⟩
theorem Bw (l:OpenLaw)(args:List WData):l.row.toRowW.claim.post args (.bool true) args=true:=
 postW_of (r:=l.row.toRowW) (X:=(true == true))
  (show WShape.has [] (.bool true) .bool=true by first|rfl|decide|simp [WShape.has,WShape.arms,WShape.armsAll])
  (show(WTm.eq .res (.lit (.bool true))).value [] { args:=args,res:=some (.bool true),after:=args }=some (.bool (true == true)) from w_eq_bool (w_res rfl) w_lit) rfl
theorem xT {l:OpenLaw}{n:Nat}{q:Program}{loose:List Str}{XP:(Str->Option Value)->Heap->Prop}{YP:World->Heap->Prop}{d:DefRec}
  (hn:l.most=some n) (hdf:d.params.defaults=[])
  (call:∀(w:World)(s₀ s₁:Shared)(mg mb:Str->Option Value)(fa:Addr)(o:Obj)(pm cd doc:Value)(a:Addr)(vs:List Value)(ns:List Int),
   Ground q loose [] XP w s₀ mg mb s₁.heap->YP w s₁.heap ->
   s₁.heap.get? fa=some o->o.data=.func (docDef d.name d.params d.body d.scope pm cd doc)->s₁.heap.CodeRec cd d.name->mg d.name=some (.ref fa) ->
   s₁.heap.get? a=some { cls:=.type "list",data:=.seq vs.toArray }->IntsAre vs ns->ns.length<=n->s₁.gens=#[] ->
   codeAny (model l.prog w) callerA (.call (.ref fa) ⟨[.ref a],[]⟩) (fun r s'=>r=.ok (.ret (.bool true))/\OldK s₁.heap s'.heap/\s'.os=s₁.os/\AllBare s'.gens) s₁) :
  WalkO q loose XP YP l.row.toRowW d [] (fun f vs=>PySem.call f vs):=by
 intro w s₀ s₁ mg mb G Y fa o pm cd doc dV kV ho hd hcd hD hmg hg args vals as hpre hlay hrd hwl hlo;obtain rfl:dV=.none:=Dflts.none hD hdf;obtain rfl:kV=.none:=Dflts.noKw hD;obtain⟨a,vs,ns,rfl,rfl,hobj,hints,hlen⟩:=Bq hn hpre hwl;refine enter_call (codeAny_mono (call w s₀ s₁ mg mb fa o pm cd doc a vs ns G Y ho (fd_plain hd) hcd hmg hobj hints hlen hg) fun r s' hq=>?_);obtain⟨rfl,h2,h3,h4⟩:=hq;exact⟨.inl ⟨.bool true,.bool true,[],rfl,fun _=>rfl,.bool true,Bw l _,fun _=>⟨List.Pairwise.nil,fun _ hm=>(nomatch hm)⟩⟩,h2,h3,h4⟩
end Att
namespace L2
open PySem PySem.Spec PyProof.Rows
theorem tL:∀{vs:List Value}{ns:List Int},IntsAre vs ns->Vals (ns.map V.int) vs
 | _,_,.nil=>.nil
 | _,_,.cons n t h=>.cons ⟨t,rfl⟩ (tL h)
noncomputable def Only (H:Hp):Prop:=∀b,H b=none\/∃o xs,H b=some (.frz o (.lst xs))
theorem Gw {P:Program}{w:World}{K:PySem.W.Frag}{mg mb:Str->Option Value}{CX:CXT}{k:Nat}{fa a:Addr}{fd:FuncData}{x:Str}{sp:Sp}{s₁:Shared}{vs:List Value}{ns:List Int}
  (KX:K.In s₁.heap) (hns:s₁.heap.Ns mainGlobals mg) (hb:s₁.heap.Ns builtinsNs mb) (hbb:∀x:Str,x ≠ "__name__" -> mb x=bootBuiltins x) (hlim:s₁.heap.NoLimit) (hg:s₁.gens=#[])
  (ha:s₁.heap.get? a=some { cls:=.type "list",data:=.seq vs.toArray }) (hi:IntsAre vs ns) (hl:ns.length<=sizeLine) (hr:iT k callerA)
  (F:∀base:Heap,K.In base->base.Ns mainGlobals mg->dN P w K mg base CX k fa fd [x] sp) (hbind:∀(s:Shared)(u:Value),BindsTo s fd ⟨[u],[]⟩ [(x,u)])
  (hsp:∀H:Hp,Only H->SqL K H a (ns.map V.int)->sp [.ref a] H (fun v _=>v=.bl true) fun _ _ _=>False)
  (hCX:∀H e s',CX [] H s₁ (fun _ _ _=>False) e s'->False) :
  codeAny (model P w) callerA (.call (.ref fa) ⟨[.ref a],[]⟩) (fun r s'=>r=.ok (.ret (.bool true))/\OldK s₁.heap s'.heap/\s'.os=s₁.os/\AllBare s'.gens) s₁:=by
 have rv:=tL hi;have lenV:=hi.length
 -- from an abstract heap in which nothing but the script may be tracked
 have core:∀H:Hp,Only H->SqL K H a (ns.map V.int)->HOk P w H s₁.heap->(∀b,H b≠none->b=a)->(H a≠none->K.lookup a=none) ->
   codeAny (model P w) callerA (.call (.ref fa) ⟨[.ref a],[]⟩) (fun r s'=>r=.ok (.ret (.bool true))/\OldK s₁.heap s'.heap/\s'.os=s₁.os/\AllBare s'.gens) s₁:=by
  intro H hO hS hok hA hK;have base_of:∀{b:Addr}{o:Obj},s₁.heap.get? b=some o->H b=none->(vh s₁.heap H).get? b=some o:=fun e n=>GQ e n;have noA:∀{b:Addr}{o:Obj}{es:Array DictEntry}{ep:Nat},s₁.heap.get? b=some o->o.data=.dict es ep->H b=none:=fun {b o es ep} e d=>by
   cases q:H b with
   | none=>rfl
   | some u=>
    have e':b=a:=hA b (by rw[q];simp);subst e';rw[ha] at e;cases e;have d':Data.seq vs.toArray _=Data.dict es ep:=d;cases d'
  have nsK:∀{b:Addr}{m:Str->Option Value},s₁.heap.Ns b m->(vh s₁.heap H).Ns b m:=fun {b m} ⟨o,es,ep,e,d,r⟩=>⟨o,es,ep,base_of e (noA e d),d,r⟩;have hKb:K.In (vh s₁.heap H):=fun b o e=>base_of (KX b o e) (by
   cases q:H b with
   | none=>rfl
   | some u=>
    have e':b=a:=hA b (by rw[q];simp);subst e';rw[hK (by rw[q];simp)] at e;cases e)
  have hM:Mod K mg (vh s₁.heap H):=⟨hKb,nsK hns,⟨mb,nsK hb,hbb⟩,let ⟨mc,h1,h2⟩:=hlim;⟨mc,nsK h1,h2⟩⟩;have e0:Ku P w K mg (vh s₁.heap H) callerA [] s₁ H:=⟨rfl,hM,fun b o e=>JS e,Nat.le_of_eq (Cp _ _),trivial,fun b hb=>absurd (show b∈([]:List Addr) from hb) (by simp),hok,.of_eq hg⟩;refine codeAny_mono ((F _ hKb (nsK hns)).run callerA [] s₁ H ⟨[.ref a],[]⟩ [.ref a] [.ref a] _ _ hr e0 (hbind s₁ (.ref a)) (.cons rfl .nil) (hsp H hO hS)) fun r s' h=>?_;cases r with
  | error e=>exact(hCX H e s' h).elim
  | ok fl=>
   cases fl with
   | next=>exact False.elim h
   | brk=>exact False.elim h
   | cont=>exact False.elim h
   | ret u=>
    obtain⟨v,H',os,bare,un,hok',r',q⟩:=h;have q':v=.bl true:=q;subst q';obtain rfl:u=Value.bool true:=r';refine⟨rfl,OldK.of_keep fun b o e=>?_,os,bare⟩;cases q:H b with
    | none=>exact un.keep b o e q (by intro z;exact absurd (show b∈([]:List Addr) from z) (by simp)) (by simp)
    | some u=>
     rcases hO b with z|⟨ob,xs,z⟩
     ·rw[q] at z;cases z
     have z2:=un.frzs b ob _ z;obtain⟨e1,_⟩:=hok b _ z;obtain⟨e2,_⟩:=hok' b _ z2;rw[e] at e1;cases e1;exact e2
 cases hk:K.lookup a with
 | some o=>
  -- the script is one of the module's own objects
  have e:=KX a o hk;rw[ha] at e;cases e;refine core (fun _=>none) (fun _=>.inl rfl) (.inr ⟨_,vs.toArray,_,hk,rfl,rfl,rfl,by rw[size_toArray,lenV];exact hl,by simpa using rv⟩) (fun b u z=>by have z':(none:Option HO)=some u:=z;cases z') (fun b z=>absurd rfl z) fun z=>absurd rfl z
 | none=>
  refine core (fun b=>if b=a then some (.frz { cls:=.type "list",data:=.seq vs.toArray } (.lst (ns.map V.int))) else none) (fun b=>?_) (.inl (.inr ⟨{ cls:=.type "list",data:=.seq vs.toArray },if_pos rfl⟩)) (fun b u z=>?_) (fun b z=>?_) fun _=>hk
  ·by_cases hb:b=a
   ·exact .inr ⟨_,_,if_pos hb⟩
   exact .inl (if_neg hb)
  ·by_cases hb:b=a
   ·have z':=(if_pos hb).symm.trans z;cases z';subst hb;exact⟨ha,by rw[length_map];exact hl,vs,_,rv,ha⟩
   have z':=(if_neg hb).symm.trans z;cases z'
  by_cases hb:b=a
  ·exact hb
  exact absurd (if_neg hb) z
theorem HB {l:PySem.W.OpenLaw}{n k:Nat}{q:Program}{loose:List Str}{XP:(Str->Option Value)->Heap->Prop}{YP:World->Heap->Prop}{d:DefRec}{K:Params->PySem.W.Frag}{CX:World->CXT}{sp:World->Sp}{x:Str}
  (hn:l.most=some n) (hn2:n<=sizeLine) (hdf:d.params.defaults=[]) (hr:iT k callerA)
  (hY:∀(w:World)(h:Heap),YP w h->(K w.params).In h)
  (F:∀(w:World)(mg:Str->Option Value)(fa:Addr)(h:Heap),(K w.params).In h->h.Ns mainGlobals mg->mg d.name=some (.ref fa) ->
   ∃fd:FuncData,(∀(s:Shared)(u:Value),BindsTo s fd ⟨[u],[]⟩ [(x,u)]) /\
    ∀base:Heap,(K w.params).In base->base.Ns mainGlobals mg->dN l.prog w (K w.params) mg base (CX w) k fa fd [x] (sp w))
  (hsp:∀(w:World)(H:Hp)(a:Addr)(ns:List Int),ns.length<=n->Only H->SqL (K w.params) H a (ns.map V.int)->sp w [.ref a] H (fun v _=>v=.bl true) fun _ _ _=>False)
  (hCX:∀(w:World)(H:Hp)(s:Shared)(e:Value)(s':Shared),CX w [] H s (fun _ _ _=>False) e s'->False) :
  PySem.W.WalkO q loose XP YP l.row.toRowW d [] (fun f vs=>PySem.call f vs):=by
 refine Att.xT hn hdf fun w s₀ s₁ mg mb fa o pm cd doc a vs ns G Y ho hd hcd hmg hobj hints hlen hg=>?_;have KX:=hY w _ Y;obtain⟨fd,hb,hF⟩:=F w mg fa _ KX G.T.g hmg;exact Gw KX G.T.g G.T.b G.T.builtins G.T.nolimit hg hobj hints (le_trans hlen hn2) hr hF hb (fun H hO hS=>hsp w H a ns hlen hO hS) fun H e s'=>hCX w H s₁ e s'
noncomputable def bG (s:Stmt):Arguments:=match s with
 | .FunctionDef _ a _ _ _ _ _ _ _ _=>a
 | _=>{ posonlyargs:=[],args:=[],vararg:=none,kwonlyargs:=[],kw_defaults:=[],kwarg:=none,defaults:=[] }
noncomputable def bC (s:Stmt):List Stmt:=match s with
 | .FunctionDef _ _ b _ _ _ _ _ _ _=>b
 | _=>[]
noncomputable def ak (s:Stmt):Scope:=match s with
 | .FunctionDef _ _ _ _ _ _ sc _ _ _=>sc
 | _=>{ kind:=.function,names:=[],isGenerator:=false,isCoroutine:=false }
noncomputable abbrev CX0:CXT:=fun _ _ _ _ _ _=>False
noncomputable abbrev E0:XK:=fun _ _ _=>False
theorem Ou {X:Cx}:zx CX0 X E0:=fun _ _ _ _ _ _ _ h=>h.elim
structure Fun (K:PySem.W.Frag)(x qual:Str)(st:Stmt)(f:Addr)(fd:FuncData):Prop where
 ex:∃(oc:Value)(od:Option Addr)(kV doc pm:Value)(an:Option Addr)(cdv ct:Value)(osl:Array (Option Value)),
  fd=fnOf x qual (bG st) (bC st) (ak st) .none kV doc pm an cdv ct/\K.lookup f=some ⟨oc,od,.func fd,osl⟩/\codeIn K cdv qual=true
 kp:keepIn K (.ref f)=true
section
variable {P:Program}{w:World}{K:PySem.W.Frag}{mg:Str->Option Value}{base:Heap}
theorem Fun.ok {x qual:Str}{st:Stmt}{f:Addr}{fd:FuncData}{N ps:List Str}{k:Nat}{sp:Sp}(F:Fun K x qual st f fd)(S:bK N ps (ak st))(len:∀vs H Q E,sp vs H Q E->vs.length=ps.length)
  (hbody:∀(cdv:Value)(A:Around)(outer:List Env)(s:Shared)(H:Hp)(vs:List V)(Q:VK)(E:XK),iT k (A.deeper (envOfC qual (ak st) s.heap.objs.size f cdv))->sp vs H Q E ->
   ∃t,PSs (yZ CX0 P w K mg base N qual (ak st) f cdv A outer s H E).nox (bC st) t/\t { nx:=fun _ H'=>Q .non H',rt:=Q } (start N vs) H):dN P w K mg base CX0 (k+1) f fd ps sp:=by
 obtain⟨oc,od,kV,doc,pm,an,cdv,ct,osl,rfl,lk,hcd⟩:=F.ex;refine O7 lk hcd S len fun A outer s H vs Q E hr hsp=>?_;obtain⟨t,h,q⟩:=hbody cdv A outer s H vs Q E hr hsp;exact⟨t,h.nox,q⟩
theorem Fun.binds {x qual:Str}{st:Stmt}{f:Addr}{fd:FuncData}{ps:List Str}(F:Fun K x qual st f fd)
  (h:∀(kV doc pm:Value)(an:Option Addr)(cdv ct:Value)(us:List Value),us.length=ps.length->bindArgs (fnOf x qual (bG st) (bC st) (ak st) .none kV doc pm an cdv ct) ⟨us,[]⟩=pure (ps.zip us)):Binds K fd ps []:=by
 obtain⟨oc,od,kV,doc,pm,an,cdv,ct,osl,rfl,lk,hcd⟩:=F.ex;exact .all (h kV doc pm an cdv ct)
theorem G4 {x qual:Str}{st:Stmt}{f:Addr}{oc:Value}{od an:Option Addr}{osl:Array (Option Value)}{kV doc pm cdv ct:Value}(l:K.lookup f=some ⟨oc,od,.func (fnOf x qual (bG st) (bC st) (ak st) .none kV doc pm an cdv ct),osl⟩)
  (c:codeIn K cdv qual=true) (k:keepIn K (.ref f)=true):Fun K x qual st f (fnOf x qual (bG st) (bC st) (ak st) .none kV doc pm an cdv ct):=⟨⟨oc,od,kV,doc,pm,an,cdv,ct,osl,rfl,l,c⟩,k⟩
end
noncomputable def Same (H H':Hp):Prop:=∀b o,H b=some o->H' b=some o
theorem Same.refl (H:Hp):Same H H:=fun _ _ h=>h
theorem Same.trans {H H1 H2:Hp}(a:Same H H1)(b:Same H1 H2):Same H H2:=fun c o h=>b c o (a c o h)
theorem Same.seq {K:PySem.W.Frag}{H H':Hp}{a:Addr}{xs:List V}(e:Same H H')(h:SqL K H a xs):SqL K H' a xs:=by
 rcases h with(h|⟨o,h⟩)|h
 ·exact .inl (.inl (e _ _ h))
 ·exact .inl (.inr ⟨o,e _ _ h⟩)
 exact .inr h
end L2
set_option maxHeartbeats 4000000
namespace L2
open PySem PySem.Spec PyProof.Rows
theorem rR {env:Env}:∀(names:List (Str×NameKind)) (acc:List (Str×Addr)),
  (∀y∈names,y.2=.free->∃c,env.cells.lookup y.1=some c)->(∀x c,acc.lookup x=some c->env.cells.lookup x=some c) ->
  ∃cl,(forIn names acc fun(y:Str×NameKind)(r:List (Str×Addr))=>(match y with
   | (name,kind)=>if (kind == .free)=true then (do let a <- cellOf env name;pure (ForInStep.yield ((name,a)::r))) else pure (ForInStep.yield r):Sem (ForInStep (List (Str×Addr)))))=pure cl /\
   (∀x c,cl.lookup x=some c->env.cells.lookup x=some c)/\(∀y∈names,y.2=.free->∃c,cl.lookup y.1=some c)/\(∀x c,acc.lookup x=some c->∃c',cl.lookup x=some c')
 | [],acc,_,ha=>⟨acc,rfl,ha,fun _ h=>(nomatch h),fun x c h=>⟨c,h⟩⟩
 | (n,k)::r,acc,hf,ha=>by
  have hf':∀y∈r,y.2=.free->∃c,env.cells.lookup y.1=some c:=fun y hy=>hf y (mem_cons_of_mem _ hy);by_cases hk:k=.free
  ·subst hk;obtain⟨c0,e0⟩:=hf (n,.free) mem_cons_self rfl;have hce:cellOf env n=pure c0:=by unfold cellOf;rw[e0]
   have ha2:∀x c,((n,c0)::acc).lookup x=some c->env.cells.lookup x=some c:=fun x c h=>by
    rw[lookup_cons] at h;cases hx:x == n with
    | true=>
     rw[hx] at h;have e1:x=n:=by simpa using hx
     rw[e1,e0];exact h
    | false=>
     rw[hx] at h;exact ha x c h
   obtain⟨cl,e,h1,h2,h3⟩:=rR r ((n,c0)::acc) hf' ha2;refine⟨cl,?_,h1,fun y hy hz=>?_,fun x c h=>?_⟩
   ·rw[List.forIn_cons];simp only[beq_self_eq_true,if_true,hce];exact e
   ·rcases mem_cons.mp hy with q|q
    ·subst q;exact h3 n c0 (by simp)
    exact h2 y q hz
   cases hx:x == n with
   | true=>exact h3 x c0 (by rw[lookup_cons,hx])
   | false=>exact h3 x c (by rw[lookup_cons,hx];exact h)
  have hb:(k == NameKind.free)=false:=by simpa using hk
  obtain⟨cl,e,h1,h2,h3⟩:=rR r acc hf' ha;refine⟨cl,?_,h1,fun y hy hz=>?_,h3⟩
  ·rw[List.forIn_cons];simp only[hb,Bool.false_eq_true,if_false];exact e
  rcases mem_cons.mp hy with q|q
  ·subst q;exact absurd hz hk
  exact h2 y q hz
theorem Bb {env:Env}{scope:Scope}(hf:∀y∈scope.names,y.2=.free->∃c,env.cells.lookup y.1=some c) :
  ∃cl,closureFor scope env=pure cl/\(∀x c,cl.lookup x=some c->env.cells.lookup x=some c)/\(∀y∈scope.names,y.2=.free->∃c,cl.lookup y.1=some c):=by
 obtain⟨cl,e,h1,h2,_⟩:=rR (env:=env) scope.names [] hf (fun x c h=>by simp at h);refine⟨cl,?_,h1,h2⟩;unfold closureFor;show(forIn scope.names [] _ >>= fun r=>pure r)=_;rw[show(forIn scope.names ([]:List (Str×Addr)) fun(y:Str×NameKind)(r:List (Str×Addr))=>(match y with
   | (name,kind)=>if (kind == .free)=true then (do let a <- cellOf env name;pure (ForInStep.yield ((name,a)::r))) else pure (ForInStep.yield r):Sem (ForInStep (List (Str×Addr)))))=pure cl from e]
 rfl
section
variable {prog:Program}{w:World}{A:Around}{R:Result->Shared->Prop}{s:Shared}
theorem uo {elt tg iter:Expr}{ifs:List Expr}{scope:Scope}{pos:Pos}{it acc:Value}{env:Env}(J:Nat->Shared->Prop)
  (turn:∀n s,J n s->wpAny (model prog w) A (pyNext it) (fun r s1=>match r with
   | none=>R (.ok .next) s1
   | some v=>wpAny (model prog w) A (letOwnedTupleGo tg it v) (fun _ s1'=>wpAny (model prog w) A (assign tg env v) (fun _ s2=>
     wpAny (model prog w) A (forIn ifs true fun c r=>if r=true then do let ok <- isTrue c env (eval c env);pure (ForInStep.yield ok) else pure (ForInStep.yield r)) (fun ok s3=>
      if ok=true then wpAny (model prog w) A (eval elt env) (fun x s4=>
       wpAny (model prog w) A (call (.builtin "list.append") [acc,x]) (fun _ s5=>∃m,m<n/\J m s5) (notedBy (model prog w) A env fun e z=>R (.error e) z) s4) (notedBy (model prog w) A env fun e z=>R (.error e) z) s3
      else ∃m,m<n/\J m s3) (notedBy (model prog w) A env fun e z=>R (.error e) z) s2) (notedBy (model prog w) A env fun e z=>R (.error e) z) s1') (notedBy (model prog w) A env fun e z=>R (.error e) z) s1) (notedBy (model prog w) A env fun e z=>R (.error e) z) s)
  (n:Nat) (h:J n s):codeAny (model prog w) A (.compLoop (.ListComp elt [⟨tg,iter,ifs,0⟩] scope pos) 0 it acc env) R s:=by
 refine codeAny_loop rfl J (fun n z hJ=>?_) n h;show wpAny _ A ((compTurn (.ListComp elt [⟨tg,iter,ifs,0⟩] scope pos) 0 it acc env).onRaise (fun y=>do noteFrame y env;theTreesLotGoes y)) _ _ z;refine wpAny_noted ?_;rw[compTurn_list];refine wpAny_bind (wpAny_standAt (wpAny_bind (wpAny_mono (turn n z hJ) (fun r s1 h1=>?_) fun _ _ q=>q)));cases r with
 | none=>exact wpAny_pure h1
 | some v=>
  refine wpAny_bind (wpAny_mono h1 (fun _ s1' h1'=>?_) fun _ _ q=>q);refine wpAny_bind (wpAny_mono h1' (fun _ s2 h2=>wpAny_bind (wpAny_mono h2 (fun ok s3 h3=>?_) fun _ _ q=>q)) fun _ _ q=>q);cases ok with
  | false=>exact wpAny_pure ⟨rfl,h3⟩
  | true=>
   exact wpAny_bind (wpAny_bind (wpAny_mono h3 (fun x s4 h4=>wpAny_bind (wpAny_mono h4 (fun _ s5 h5=>wpAny_pure (wpAny_pure ⟨rfl,h5⟩)) fun _ _ q=>q)) fun _ _ q=>q))
end
noncomputable def jY (mp:List (Option Nat))(σ:St):St:=mp.map fun o=>match o with
 | some j=>(σ[j]?).join
 | none=>none
noncomputable def cA (X:Cx)(N:List Str)(scope:Scope)(cl:List (Str×Addr))(C:Addr)(s:Shared)(H:Hp)(fp:List Addr):Cx:=
 { X with N:=N,s₀:=s,H₀:=H,env:=compEnvC scope cl C X.env,outer:=X.stack,stack:=X.stack,ex:=fp,fn:=fun _=>false,pn:=[],xe:=fun _ _=>False }
noncomputable def mC (NX:List Str)(names:List (Str×NameKind)):List Str->List (Option Nat)->Bool
 | [],[]=>true
 | x::r,o::q=>(match o with
   | none=>names.lookup x == some .local
   | some j=>NX[j]? == some x&&names.lookup x == some .free)&&mC NX names r q
 | _,_=>false
theorem ud {NX:List Str}{names:List (Str×NameKind)}:∀{N:List Str}{mp:List (Option Nat)}{i j:Nat}{x:Str},mC NX names N mp=true->N[i]?=some x->mp[i]?=some (some j)->NX[j]?=some x/\names.lookup x=some .free
 | [],_,i,_,_,_,h,_=>by simp at h
 | _::_,[],_,_,_,h,_,_=>by simp [mC] at h
 | y::r,o::q,0,j,x,h,h1,h2=>by
  simp at h1 h2;subst h1 h2;unfold mC at h;simp only[and_eq_true,beq_iff_eq] at h;exact h.1
 | y::r,o::q,i+1,j,x,h,h1,h2=>by
  unfold mC at h;rw[and_eq_true] at h;exact ud (i:=i) h.2 (by simpa using h1) (by simpa using h2)
theorem uc {NX:List Str}{names:List (Str×NameKind)}:∀{N:List Str}{mp:List (Option Nat)},mC NX names N mp=true->mp.length=N.length
 | [],[],_=>rfl
 | [],_::_,h=>by simp [mC] at h
 | _::_,[],h=>by simp [mC] at h
 | _::r,_::q,h=>by
  unfold mC at h;rw[and_eq_true] at h;simp [uc h.2]
structure uE (NX:List Str)(kX:List (Str×NameKind))(N:List Str)(mp:List (Option Nat))(scope:Scope):Prop where
 kind:scope.kind=.function
 nocell:∀y∈scope.names,y.2≠.cell
 locs:∀y∈scope.names,y.2=.local->scope.names.lookup y.1=some .local
 fre:∀y∈scope.names,y.2=.free->kX.lookup y.1=some .cell\/kX.lookup y.1=some .free
 map:mC NX scope.names N mp=true
noncomputable def PTs (X:Cx)(cs:List Expr)(t:TT):Prop:=
 ∀(pins:List (Addr×Obj)) (s:Shared) (σ:St) (H:Hp) (Q:Bool->Hp->Prop),Inv X pins σ H s->t σ H Q ->
  wpAny (model X.prog X.w) X.A (forIn cs true fun c r=>if r=true then do let ok <- isTrue c X.env (eval c X.env);pure (ForInStep.yield ok) else pure (ForInStep.yield r)) (TP X pins σ Q) X.xe s
noncomputable def HS:TT:=fun _ H Q=>Q true H
theorem Jd {X:Cx}:PTs X [] HS:=fun _ _ _ H _ I h=>wpAny_tests_nil ⟨H,I,h⟩
theorem Jc {X:Cx}{c:Expr}{t:TT}(h:PT X c t):PTs X [c] t:=fun pins s σ H Q I q=>wpAny_tests_one (h pins s σ H Q I q)
noncomputable def tO (mp:List (Option Nat))(wi:TI)(g:TG)(tc:TT)(te:TE):TE:=fun σ H Q=>wi σ H fun J H1=>
 ∃W:Nat->Nat->List V->St->Hp->Prop,(∃m,W 0 m [] (jY mp σ) H1)/\∀i m acc τ H2,W i m acc τ H2 ->
  (J.stop i H2/\∀d,H2 d=none->Q (.ref d) (upd H2 d (.lst acc))) \/
  (J.go i H2/\acc.length<sizeLine/\∃N:List V->St->Hp->Prop,(∀acc' τ' H',N acc' τ' H'->∃m',m'<m/\W (i+1) m' acc' τ' H')/\∀x H3,J.yld i H2 x H3->g x τ H3 fun τ1 H4=>tc τ1 H4 fun b H5=>
   if b=true then te τ1 H5 fun v H6=>N (acc++[v]) τ1 H6 else N acc τ1 H5)
theorem fW {env:Env}:∀{names:List (Str×NameKind)}{x:Str}{k:NameKind},(names.map fun(n,k)=>if (k == NameKind.free&&env.scope.kind == .function&&env.kindOf n == some .cell) then (n,NameKind.cell) else (n,k)).lookup x=some k ->
  names.lookup x=some k\/(k=.cell/\names.lookup x=some .free)
 | [],_,_,h=>by simp at h
 | (n,k0)::r,x,k,h=>by
  have ih:=@fW env r x k;rw[map_cons] at h;by_cases hc:(k0 == NameKind.free&&env.scope.kind == .function&&env.kindOf n == some .cell)=true
  ·simp only[hc,if_true] at h;cases hx:x == n with
   | true=>
    rw[lookup_cons,hx] at h;have hk:k0=.free:=by
     rw[and_eq_true,and_eq_true] at hc;simpa using hc.1.1
    right;refine⟨(Option.some.inj h).symm,?_⟩;rw[lookup_cons,hx,hk]
   | false=>
    rw[lookup_cons,hx] at h;rw[lookup_cons,hx];exact ih h
  simp only[hc,if_false] at h;cases hx:x == n with
  | true=>
   rw[if_neg (by simp),lookup_cons,hx] at h;rw[lookup_cons,hx];exact .inl h
  | false=>
   rw[if_neg (by simp),lookup_cons,hx] at h;rw[lookup_cons,hx];exact ih h
theorem na0 {b D E:Nat}(h:b<E)(hD:E=D):b≠D:=by omega
theorem na1 {b D E C:Nat}(h:b<E)(hD:E=D)(hC:C=D+1):b≠C:=by omega
theorem na2 {C D:Nat}(hC:C=D+1):D≠C:=by omega
theorem na3 {C D E:Nat}(hD:E=D)(hC:C=D+1):E<=C:=by omega
theorem na4 {D E:Nat}(hD:E=D):E<=D:=by omega
section
variable {X:Cx}{NX N:List Str}{kX:List (Str×NameKind)}{mp:List (Option Nat)}{scope:Scope}{pins:List (Addr×Obj)}{σ:St}{s s':Shared}{H:Hp}{fp:List Addr}{cl:List (Str×Addr)}{C:Addr}
theorem za (hkX:X.env.scope.names=kX)(S:uE NX kX N mp scope)(I:Inv X pins σ H s)(hfp:∀b∈fp,qj X pins H b)(hold:∀b∈fp,b<s.heap.objs.size)(hC:s.heap.objs.size<=C)
  (hsub:∀x c,cl.lookup x=some c->X.env.cells.lookup x=some c) (hhas:∀y∈scope.names,y.2=.free->∃c,cl.lookup y.1=some c):(cA X N scope cl C s H fp).Ok where
 mod:=I.ok.mod
 kind:=S.kind
 glob:=I.ok.glob
 blt:=I.ok.blt
 above:=hC
 inj:=fun x y c h1 h2=>I.ok.inj x y c (hsub x c h1) (hsub y c h2)
 has:=fun x h=>by
  have key:scope.names.lookup x=some .free:=by
   rcases h with h|h
   ·rcases fW (env:=X.env) (names:=scope.names) h with q|⟨_,q⟩
    ·exact absurd rfl (S.nocell _ (PySem.mem_of_lookup q))
    exact q
   rcases fW (env:=X.env) (names:=scope.names) h with q|⟨q,_⟩
   ·exact q
   cases q
  exact hhas _ (PySem.mem_of_lookup key) rfl
 cab:=fun x c h=>by cases h
 hd:=I.ok.hd
 frames:=I.ok.frames
 stk:=.inl rfl
 exf:=fun b hb=>⟨ne_of_lt (lt_of_lt_of_le (hold b hb) hC),fun x c e=>(hfp b hb).2.2.2.2.1 x c (hsub x c e)⟩
 bs:=I.bs
 bsz:=le_trans I.ok.bsz I.sz
 noex:=fun b o e hb=>by
  rcases(hfp b hb).2.2.2.1 with q|q
  ·exact I.ok.noex b o e q
  exact absurd (lt_of_lt_of_le (lt_of_lt_of_le (lt_size e) I.ok.bsz) q) (lt_irrefl _)
 exfs:=fun b hb hz=>by
  obtain⟨_,h1,h2,_⟩:=hfp b hb;rcases mem_cons.mp (I.qx b hz) with q|q
  ·exact h1 q
  exact h2 q
 qi:=I.stack
 frf:=I.zJ
theorem Ba (hNX:X.N=NX)(hkX:X.env.scope.names=kX)(S:uE NX kX N mp scope)(I:Inv X pins σ H s)(hfp:∀b∈fp,qj X pins H b)(hold:∀b∈fp,b<s.heap.objs.size)(hC:s.heap.objs.size<=C)
  (hsub:∀x c,cl.lookup x=some c->X.env.cells.lookup x=some c) (hhas:∀y∈scope.names,y.2=.free->∃c,cl.lookup y.1=some c)
  (ho:s'.os=s.os) (hg:s'.gens=s.gens) (hn:∃m,s'.heap.Ns C m) (hk:∀b o,s.heap.get? b=some o->s'.heap.get? b=some o) {pl:List (Addr×Obj)}
  (hp:∀p∈pl,s'.heap.get? p.1=some p.2/\H p.1=none/\p.1≠C/\p.1∉frs X.stack/\∀v,p.2.data≠.cell v) :
  Inv (cA X N scope cl C s H fp) pl (jY mp σ) H s' where
 ok:=za hkX S I hfp hold hC hsub hhas
 os:=ho
 bare:=by rw[hg];exact I.bare
 base:=Un.kept hk
 loc:=by
  obtain⟨m,hm⟩:=hn;refine⟨m,hm,fun i x v h1 h2 h3=>?_⟩;have h2':(mp.map fun o=>match o with|some j=>(σ[j]?).join|none=>none)[i]?=some (some v):=h2
  rw[getElem?_map] at h2';cases e:mp[i]? with
  | none=>rw[e] at h2';cases h2'
  | some o=>
   rw[e] at h2';cases o with
   | none=>cases h2'
   | some j=>
    have h4:(σ[j]?).join=some v:=by simpa using h2'
    have h5:σ[j]?=some (some v):=by
     cases q:σ[j]? with
     | none=>rw[q] at h4;cases h4
     | some z=>rw[q] at h4;rw[show z=some v from h4]
    obtain⟨g1,g2⟩:=ud S.map h1 e;have fk:=S.fre _ (PySem.mem_of_lookup g2) rfl;obtain⟨m0,_,hl⟩:=I.loc;have vis:Vis X.env.scope x:=by
     rcases fk with q|q
     ·exact .inr (.inl (by rw[hkX];exact q))
     exact .inr (.inr (by rw[hkX];exact q))
    obtain⟨u,r,l⟩:=hl j x v (by rw[hNX];exact g1) h5 vis;refine⟨u,r,.inr ?_⟩;have l':∃c,X.env.cells.lookup x=some c/\s.heap.IsCell c (some u):=by
     rcases l with⟨q,_⟩|⟨_,q⟩
     ·have q':X.env.scope.names.lookup x=some .local:=q;rw[hkX] at q';rcases fk with z|z
      ·rw[q'] at z;cases z
      rw[q'] at z;cases z
     exact q
    obtain⟨c,hc,oc,hoc,hd⟩:=l';obtain⟨c',hc'⟩:=hhas _ (PySem.mem_of_lookup g2) rfl;have ec:c'=c:=by
     have:=hsub x c' hc';rw[hc] at this;exact(Option.some.inj this).symm
    subst ec;refine⟨?_,c',hc',oc,hk _ _ hoc,hd⟩;rcases h3 with q|q|q
    ·rcases fW (env:=X.env) (names:=scope.names) q with z|⟨z,_⟩
     ·rw[g2] at z;cases z
     cases z
    ·exact .inl q
    exact .inr q
 cell:=fun x c e=>by
  obtain⟨v,o,h1,h2⟩:=I.cell x c (hsub x c e);exact⟨v,o,hk _ _ h1,h2⟩
 free:=I.hok.fresh hC
 freeC:=fun x c e=>I.freeC x c (hsub x c e)
 pin:=fun p hpp=>hp p (by simpa [cA] using hpp)
 hok:=I.hok.kept hk
 len:=by
  show(mp.map _).length=N.length;rw[length_map];exact uc S.map
set_option maxHeartbeats 8000000 in
theorem Jx {tg iter elt:Expr}{ifs:List Expr}{pos:Pos}{wi:TI}{g:TG}{tc:TT}{te:TE}(N:List Str)(mp:List (Option Nat))(hNX:X.N=NX)(hkX:X.env.scope.names=kX)(S:uE NX kX N mp scope)(hc:X.calm=true)
  (hi:PI X tg iter wi) (hg:∀cl C s H fp,PG (cA X N scope cl C s H fp) tg g) (ht:∀cl C s H fp,PTs (cA X N scope cl C s H fp) ifs tc) (he:∀cl C s H fp,PE (cA X N scope cl C s H fp) elt te)
  (hs:∀x,foldedSetIterable iter X.env x=pure x:=by intro _;rfl):PE X (.ListComp elt [⟨tg,iter,ifs,0⟩] scope pos) (tO mp wi g tc te):=by
 intro pins s σ H Q I h;obtain⟨cl,hcl,hsub,hhas⟩:=Bb (env:=X.env) (scope:=scope) fun y hy hf=>I.ok.has y.1 (by
  rcases S.fre y hy hf with q|q
  ·exact .inl (show X.env.scope.names.lookup y.1=_ by rw[hkX];exact q)
  exact .inr (show X.env.scope.names.lookup y.1=_ by rw[hkX];exact q))
 rw[eval_ListComp];refine wpAny_comprehension_free (use:=none) rfl hs hcl S.kind S.locs ?_;refine thn (hi pins s σ H _ I h) fun v s1 h1=>thn h1 fun itv s2 h2=>?_;obtain⟨it,fp,tn,J,H2,e,I2,T,st2,f2,W,⟨m0,w0⟩,turn⟩:=h2;subst e;refine wpAny_newObj_type (wpAny_newFunctionEnv S.nocell (by intro y hy;simp at hy) (fun h3 hns hsb=>?_) S.kind);dsimp only at hns hsb |-;have hold:∀b∈fp,b<s2.heap.objs.size:=fun b hb=>by
  obtain⟨o,q,_⟩:=T.obj _ _ st2 b hb;exact lt_size q
 generalize hD:s2.heap.objs.size=D at hns hsb;generalize hH2:s2.heap.push { cls:=.type "list",dict:=none,data:=.seq ([]:List Value).toArray }=P2 at hns hsb |-;have hC:P2.objs.size=D+1:=by rw[<- hH2,size_push,hD]
 generalize hC':P2.objs.size=C at hns hsb |-;rw[hC'] at hC;have old:∀b o,s2.heap.get? b=some o->h3.get? b=some o:=fun b o q=>by
  have hb:=lt_size q;exact hsb.extBut b o (na1 hb hD hC) (get?_push_of_some _ (hH2 ▸ get?_push_of_some _ q))
 have accD:h3.get? D=some { cls:=.type "list",data:=.seq ([]:List Value).toArray }:=
  hsb.extBut _ _ (na2 hC) (get?_push_of_some _ (by rw[<- hH2,<- hD];exact get?_push_size _ rfl))
 have hfr:D∉frs X.stack:=fun z=>by
  rcases mem_cons.mp (I2.qx D z) with q|q
  ·exact na0 I2.lt hD q.symm
  exact I2.MT (na4 hD) q
 have I0:Inv (cA X N scope cl C s2 H2 fp) [(D,{ cls:=.type "list",data:=.seq ([]:List Value).toArray })] (jY mp σ) H2 { s2 with heap:=h3,toks:=s2.toks+([]:List (Str×Value)).length }:=
  Ba (s':={ s2 with heap:=h3,toks:=s2.toks+([]:List (Str×Value)).length }) hNX hkX S I2 f2 hold (na3 hD hC) hsub hhas rfl rfl ⟨_,hns⟩ old fun p hp=>by
   have ep:=mem_singleton.mp hp;subst ep;exact⟨accD,I2.hok.fresh (na4 hD),na2 hC,hfr,fun v z=>by cases z⟩
 have T0:tn 0 h3:=T.keep _ _ _ st2 fun b _ o q=>old b o q;have loop:∀z:Shared,z={ s2 with heap:=h3,toks:=s2.toks+([]:List (Str×Value)).length } ->
   codeAny (model X.prog X.w) X.A (.compLoop (.ListComp elt [⟨tg,iter,ifs,0⟩] scope pos) 0 (.ref it) (.ref D) (compEnvC scope cl C X.env))
    (compPost (model X.prog X.w) X.A X.xe none (EP X pins σ Q) (.ref D) C) z:=by
  rintro z rfl;have stat:∀{H':Hp}{pl:List (Addr×Obj)},(∀b∈fp,H' b=none)->(∀p∈pl,p.1=D)->∀b∈fp,qj (cA X N scope cl C s2 H2 fp) pl H' b:=fun hn hp b hb=>by
   have hb2:=hold b hb;refine⟨hn b hb,na1 hb2 hD hC,(za hkX S I2 f2 hold (na3 hD hC) hsub hhas).exfs b hb,.inl hb,fun x c q=>(f2 b hb).2.2.2.2.1 x c (hsub x c q),fun p hpp=>?_⟩;have hpD:=hp p (by simpa [cA] using hpp);rw[hpD];exact(na0 hb2 hD).symm
  refine uo (env:=compEnvC scope cl C X.env) (fun n z=>∃i acc τ H' its k,Inv (cA X N scope cl C s2 H2 fp) [(D,{ cls:=.type "list",data:=.seq (List.toArray its) k })] τ H' z/\tn i z.heap/\(∀b∈fp,H' b=none)/\Vals acc its/\acc.length<=sizeLine/\W i n acc τ H')
   ?_ m0 ⟨0,[],_,H2,[],0,I0,T0,fun b hb=>(f2 b hb).1,.nil,zero_le _,w0⟩
  rintro n s5 ⟨i,acc,τ,H5,its,k,I5,st5,fr5,va,hz,w5⟩;rcases turn i n acc τ H5 w5 with⟨stop,qn⟩|⟨go,hz2,N9,hN9,step⟩
  ·refine thn (T.done (cA X N scope cl C s2 H2 fp) rfl rfl rfl hc i _ s5 τ H5 _ I5 (stat fr5 (by simp)) st5 stop) fun r s6 ⟨hr,I6⟩=>?_;subst hr;obtain⟨m6,hn6,_⟩:=I6.loc;refine⟨m6,hn6,fun h' sb=>?_⟩;obtain⟨dD,nD,_,_,_⟩:=I6.pin (D,_) (mem_append_right _ (mem_singleton.mpr rfl));have U:=I6.base;have nC:H5 C=none:=I6.free;have ne:∀b o,s2.heap.get? b=some o->b≠C/\b≠D:=fun b o q=>by
    exact⟨na1 (lt_size q) hD hC,na0 (lt_size q) hD⟩
   have keepC:∀b o,b≠C->s6.heap.get? b=some o->h'.get? b=some o:=fun b o hb q=>(sb.2 b hb).trans q;have U':Un (frs X.stack) fp H2 (upd H5 D (.lst acc)) s2.heap h':=by
    refine⟨fun b o q n1 hb hx=>keepC b o (ne b o q).1 (U.keep b o q n1 hb hx),fun b o q n1 hb hx=>?_,fun b o q n1 hx=>?_,fun b o q hx=>?_,fun b xs q=>?_,fun b o xs q=>?_,fun b ps q=>?_⟩
    ·obtain⟨sl,z⟩:=U.slot b o q n1 hb hx;exact⟨sl,keepC b _ (ne b o q).1 z⟩
    ·rw[aZ (ne b o q).2];exact U.free b o q n1 hx
    ·obtain⟨o',z⟩:=U.there b o q hx;exact⟨o',keepC b _ (ne b o q).1 z⟩
    ·have z:=U.tups b xs q;rw[aZ (aM z nD)];exact z
    ·have z:=U.frzs b o xs q;rw[aZ (aM z nD)];exact z
    obtain⟨more,z⟩:=U.tbls b ps q;exact⟨more,by rw[aZ (aM z nD)];exact z⟩
   have hok:HOk X.prog X.w (upd H5 D (.lst acc)) h':=fun b u q=>by
    by_cases hb:b=D
    ·subst hb;rw[aB] at q;cases q;exact⟨hz,its,k,va,keepC _ _ (na2 hC) dD⟩
    rw[aZ hb] at q;refine(I6.hok b u q).stay (fun c v hcc z=>keepC c v ?_ z) (fun c z=>by rw[aZ (aM z nD)];exact z) fun c xs z=>by rw[aZ (aM z nD)];exact z
    rcases hcc with z1|z1
    ·subst z1;exact aM q nC
    exact aM z1 nC
   have I7:Inv X pins σ (upd H5 D (.lst acc)) { s6 with heap:=h' }:=I2.call' (s':={ s6 with heap:=h' }) (ch:=fp) I6.os U' hok I6.bare fun b hb=>by
    obtain⟨_,a2,_,a4,a5,a6⟩:=f2 b hb;exact⟨a4,a2,a5,a6⟩
   exact⟨.ref D,_,I7,rfl,qn D nD⟩
  refine thn (T.item (cA X N scope cl C s2 H2 fp) rfl rfl rfl hc i _ s5 τ H5 _ I5 (stat fr5 (by simp)) st5 go) fun r s6 ⟨u,hr,h6⟩=>?_;subst hr;refine thn h6 fun _ s7 ⟨x,H7,I7,r7,y7,st7,fr7⟩=>?_;have I7':=I7.pinned (stat fr7 (by simp)) (T.obj _ _ st7);have no:∀{α:Type}{t:Sem α}{Q1 Q2:α->Shared->Prop}{E:Value->Shared->Prop}{z:Shared},wpAny (model X.prog X.w) X.A t Q1 (fun _ _=>False) z->(∀a z,Q1 a z->Q2 a z)->wpAny (model X.prog X.w) X.A t Q2 E z:=
   fun q f=>wpAny_mono q f fun _ _ z=>z.elim
  refine no (hg cl C s2 H2 fp _ s7 τ H7 x u _ I7' r7 (step x H7 y7)) fun _ s8 ⟨τ1,H8,I8,q8⟩=>?_;refine no (ht cl C s2 H2 fp _ s8 τ1 H8 _ I8 q8) fun ok s9 ⟨H9,I9,q9⟩=>?_;have again:∀{H':Hp}{z:Shared}{its':List Value}{k':Nat},Inv (cA X N scope cl C s2 H2 fp) ([(D,{ cls:=.type "list",data:=.seq (List.toArray its') k' })]++jh fp s7.heap) τ1 H' z ->
    tn (i+1) z.heap/\(∀b∈fp,H' b=none)/\Inv (cA X N scope cl C s2 H2 fp) [(D,{ cls:=.type "list",data:=.seq (List.toArray its') k' })] τ1 H' z:=fun {H' z its' k'} Iz=>by
   have get:∀b∈fp,∀o,s7.heap.get? b=some o->z.heap.get? b=some o/\H' b=none:=fun b hb o q=>by
    obtain⟨a1,a2,_⟩:=Iz.pin (b,o) (mem_append_right _ (mem_append_right _ (jH hb q)));exact⟨a1,a2⟩
   refine⟨T.keep _ _ _ st7 fun b hb o q=>(get b hb o q).1,fun b hb=>?_,Iz.jX⟩;obtain⟨o,q,_⟩:=T.obj _ _ st7 b hb;exact(get b hb o q).2
  cases ok with
  | false=>
   rw[if_neg Bool.false_ne_true] at q9 |-;obtain⟨m',hm,w9⟩:=hN9 _ _ _ q9;obtain⟨a1,a2,a3⟩:=again I9;exact⟨m',hm,i+1,acc,τ1,H9,its,k,a3,a1,a2,va,hz,w9⟩
  | true=>
   rw[if_pos rfl] at q9 |-;refine no (he cl C s2 H2 fp _ s9 τ1 H9 _ I9 q9) fun y s10 ⟨v,H10,I10,rv,q10⟩=>?_;obtain⟨m',hm,w10⟩:=hN9 _ _ _ q10;obtain⟨a1,a2,a3⟩:=again I10;obtain⟨dD,nD,_,_,_⟩:=a3.pin (D,_) (mem_append_right _ (mem_singleton.mpr rfl));have hlen:=va.length;refine call_meets F.slot_list_append ⟨_,dD,rfl⟩ F.entry_list_append (F.args_list_append_2 _ _) (PySem.list_append D its.toArray k y (by rw[size_toArray];omega)) ⟨dD,?_⟩;obtain⟨k',q⟩:∃k',(s10.heap.update D (Obj.mapSeq fun a=>a.push y)).get? D=some { cls:=.type "list",data:=.seq (its++[y]).toArray k' }:=by
    have q:=PySem.IsL.update dD (fun a=>a.push y);rw[show its.toArray.push y=(its++[y]).toArray by simp] at q;exact⟨_,q⟩
   have a4:Inv (cA X N scope cl C s2 H2 fp) (jh fp s7.heap) τ1 H10 s10:=I10.lH fun p hp=>I10.pin p (mem_append_right _ (mem_append_right _ hp));have a5:Inv (cA X N scope cl C s2 H2 fp) (jh fp s7.heap) τ1 H10 { s10 with heap:=s10.heap.update D (Obj.mapSeq fun a=>a.push y),toks:=s10.toks }:=
    a4.turned (it:=D) (fun b o hb z=>(get?_update_other _ _ (Ne.symm hb)).trans z) nD (na2 hC) (.inr (na4 hD))
     (fun x c z=>by
      obtain⟨_,o,h1,_⟩:=I2.cell x c (hsub x c z);exact na0 (lt_size h1) hD) fun p hp=>by
      have hb:=(oK (by simpa [cA] using hp)).1;exact na0 (hold _ hb) hD
   obtain⟨b1,b2,b3⟩:=(show tn (i+1) (s10.heap.update D (Obj.mapSeq fun a=>a.push y))/\(∀b∈fp,H10 b=none)/\True from
    ⟨T.keep _ _ _ a1 fun b hb o z=>(get?_update_other _ _ (na0 (hold b hb) hD).symm).trans z,a2,trivial⟩)
   refine⟨m',hm,i+1,acc++[v],τ1,H10,its++[y],k',a5.lH fun p hp=>?_,b1,b2,va.append (.cons rv .nil),by rw[length_append,length_singleton];omega,w10⟩;have ep:=mem_singleton.mp hp;subst ep;exact⟨q,nD,na2 hC,hfr,fun v z=>by cases z⟩
 have e1:{ newEnv scope C X.env.globals cl X.env.qual none .none (some X.env) X.env.builtins with scope:=relabel scope X.env }=compEnvC scope cl C X.env:=rfl;exact codeAny_compStart_list (loop _ rfl) (T.self _ 0 _ _ _ T0 (loop _ rfl))
end
section
variable {X:Cx}{pins:List (Addr×Obj)}{σ:St}{H:Hp}{s:Shared}
theorem Inv.Kw {ch:List Addr}{h':Heap}{t':Nat}(I:Inv X pins σ H s)(hf:∀b∈ch,qj X pins H b)(k:∀b o,b∉ch->s.heap.get? b=some o->h'.get? b=some o):Inv X pins σ H { s with heap:=h',toks:=t' }:=by
 have nit:∀b u,H b=some u->b∉ch:=fun b u e z=>by rw[(hf b z).1] at e;cases e
 refine I.step (g':=s.gens) (d':=s.drawn) (ch:=ch) (fun b hb=>?_) (fun b o _ _ hc e _=>k b o hc e) (fun b o _ _ hc e _=>⟨o.slots,k b o hc e⟩) (fun _ _ _ _ n=>n)
  (fun b o hc e=>⟨o,k b o hc e⟩) (fun _ _ e=>e) (fun _ _ _ e=>e) (fun b ps e=>⟨#[],by rw[e];simp⟩) (fun m hm=>?_) (fun b u e=>?_) I.bare
 ·obtain⟨_,a2,_,a4,a5,a6⟩:=hf b hb;exact⟨a4,a2,a5,a6⟩
 ·obtain⟨o,es,ep,ho,r⟩:=hm;exact⟨o,es,ep,k _ o (fun z=>(hf _ z).2.1 rfl) ho,r⟩
 refine(I.hok b u e).stay (fun c v hc q=>k c v ?_ q) (fun _ q=>q) fun _ _ q=>q;rcases hc with z|z
 ·rw[z];exact nit b u e
 exact nit c _ z
theorem Inv.Kv {ch:List Addr}{h':Heap}{t':Nat}{p:Addr}{o:HO}(I:Inv X pins σ H s)(hf:∀b∈ch,qj X pins H b)(k:∀b o,b∉ch->s.heap.get? b=some o->h'.get? b=some o)(hp:s.heap.objs.size<=p)
  (new:dU X.prog X.w (upd H p o) h' p o):Inv X pins σ (upd H p o) { s with heap:=h',toks:=t' }:=by
 have hn:H p=none:=I.hok.fresh hp;have nit:∀b u,H b=some u->b∉ch:=fun b u e z=>by rw[(hf b z).1] at e;cases e
 have lt:∀b u,s.heap.get? b=some u->b≠p:=fun b u e=>ne_of_lt (lt_of_lt_of_le (lt_size e) hp);refine I.step (g':=s.gens) (d':=s.drawn) (ch:=ch) (fun b hb=>?_) (fun b o _ _ hc e _=>k b o hc e) (fun b o _ _ hc e _=>⟨o.slots,k b o hc e⟩) (fun b o _ e n=>by rw[aZ (lt b o e)];exact n)
  (fun b o hc e=>⟨o,k b o hc e⟩) (fun b xs e=>by rw[aZ (aM e hn)];exact e) (fun b u xs e=>by rw[aZ (aM e hn)];exact e) (fun b ps e=>⟨#[],by rw[aZ (aM e hn),e];simp⟩) (fun m hm=>?_) (fun b u e=>?_) I.bare
 ·obtain⟨_,a2,_,a4,a5,a6⟩:=hf b hb;exact⟨a4,a2,a5,a6⟩
 ·obtain⟨o,es,ep,ho,r⟩:=hm;exact⟨o,es,ep,k _ o (fun z=>(hf _ z).2.1 rfl) ho,r⟩
 by_cases hb:b=p
 ·subst hb;rw[aB] at e;cases e;exact new
 rw[aZ hb] at e;refine(I.hok b u e).stay (fun c v hc q=>k c v ?_ q) (fun c q=>by rw[aZ (aM q hn)];exact q) fun c xs q=>by rw[aZ (aM q hn)];exact q
 rcases hc with z|z
 ·rw[z];exact nit b u e
 exact nit c _ z
end
noncomputable def Ite (K:PySem.W.Frag)(a:Addr):It:=
 ⟨fun i H=>∃xs x,SqL K H a xs/\xs[i]?=some x,
  fun i H v H'=>∃p x,v=.ref p/\H p=none/\H'=upd H p (.tup [.int (i:Nat),x])/\∀xs,SqL K H a xs->xs[i]?=some x,
  fun i H=>∃xs,SqL K H a xs/\xs[i]?=none⟩
theorem Bh {P:Program}{w:World}{K:PySem.W.Frag}{es:List Expr}{kk:Nat}{tpos:Pos}{e it l:Addr}(hne:e≠it) :
  Turn P w K (.Tuple es kk tpos) (Ite K l) [e,it] e (fun i h=>(∃old,IsEnum h e it ((i:Nat):Int) old)/\h.IsListIter it l i) where
 mem:=by simp
 obj:=fun i h st b hb=>by
  obtain⟨⟨old,he⟩,⟨o1,e1,c1,d1⟩⟩:=st;simp only[mem_cons,not_mem_nil,or_false] at hb;rcases hb with rfl|rfl
  ·exact⟨_,he,fun v q=>by cases q⟩
  exact⟨o1,e1,fun v q=>by rw[d1] at q;cases q⟩
 keep:=fun i h h' st k=>by
  obtain⟨⟨old,he⟩,h1⟩:=st;exact⟨⟨old,k e (by simp) _ he⟩,h1.at fun o q=>k it (by simp) o q⟩
 item:=by
  intro X hP hw hK hc i pins s σ H E I hf st hg;subst hP hw hK;obtain⟨xs,x,q1,hx⟩:=hg;obtain⟨its1,rv1,p1,hz1⟩:=I.list q1;obtain⟨u1,hu1,ru1⟩:=rv1.get hx;obtain⟨⟨old,he⟩,h1⟩:=st;refine wpAny_pyNext_enum_item he h1 p1.isList (x:=u1) (by simpa using hu1) hne fun h' a1 a2 a3 a4 hk=>?_;have new:dU X.prog X.w (upd H s.heap.objs.size (.tup [.int (i:Nat),x])) h' s.heap.objs.size (.tup [.int (i:Nat),x]):=⟨by show 2<=sizeLine;decide,[.int (i:Nat) s.toks,u1],.cons ⟨_,rfl⟩ (.cons ru1 .nil),_,a3,rfl,_,rfl⟩;have I1:Inv X pins σ (upd H s.heap.objs.size (.tup [.int (i:Nat),x])) { s with heap:=h',toks:=s.toks+1 }:=I.Kv (ch:=[e,it]) hf
   (fun b o hb q=>hk b o (fun z=>hb (by simp [z])) (fun z=>hb (by simp [z])) q) (le_refl _) new
  have hsz:∀b,b∈[e,it]->b≠s.heap.objs.size:=fun b hb=>by
   have lt:∃o,s.heap.get? b=some o:=by
    simp only[mem_cons,not_mem_nil,or_false] at hb;rcases hb with rfl|rfl
    ·exact⟨_,he⟩
    obtain⟨o,q,_⟩:=h1;exact⟨o,q⟩
   obtain⟨o,q⟩:=lt;exact ne_of_lt (lt_size q)
  refine⟨_,rfl,wpAny_letOwnedTupleGo_enum (s:={ s with heap:=h',toks:=s.toks+1 }) a1 fun h'' z2 sb=>?_⟩;have fz:=hf e (by simp);have I2:Inv X pins σ (upd H s.heap.objs.size (.tup [.int (i:Nat),x])) { s with heap:=h'',toks:=s.toks+1 }:=Inv.turned (s:={ s with heap:=h',toks:=s.toks+1 }) (it:=e) I1 (fun b o hb q=>(sb.2 b hb).trans q) (by rw[aZ (hsz e (by simp))];exact fz.1) fz.2.1 fz.2.2.2.1 fz.2.2.2.2.1 fz.2.2.2.2.2;refine⟨.ref s.heap.objs.size,_,I2,rfl,⟨_,x,rfl,I.fresh,rfl,fun xs' q=>by rw[I.wU q q1];exact hx⟩,
   ⟨⟨_,by simpa using z2⟩,a2.extBut sb.extBut hne.symm⟩,fun b hb=>by rw[aZ (hsz b hb)];exact(hf b hb).1⟩
 done:=by
  intro X hP hw hK hc i pins s σ H E I hf st hg;subst hP hw hK;obtain⟨xs,q1,hx⟩:=hg;obtain⟨its1,rv1,p1,hz1⟩:=I.list q1;obtain⟨⟨old,he⟩,h1⟩:=st;refine wpAny_pyNext_enum_end (I.ok.hd hc) he h1 p1.isList (by simpa using rv1.none_of hx) fun h' hk=>⟨rfl,?_⟩;exact I.Kw (t':=s.toks) (ch:=[e,it]) hf (fun b o hb q=>hk b o (fun z=>hb (by simp [z])) q)
 self:=fun _ _ _ _ _ st h=>by
  obtain⟨⟨old,he⟩,_⟩:=st;exact wpAny_pyIter_enum he h
theorem Vals.bools:∀{bs:List Bool}{us:List Value},Vals (bs.map V.bl) us->us=bs.map Value.bool
 | [],_,.nil=>rfl
 | _::_,_,.cons r t=>by rw[Vals.bools t,(show _=Value.bool _ from r)];rfl
section
variable {X:Cx}
theorem Dc (bs:List Bool):((List.range bs.length).any fun i=>(bs[i]?).getD false)=bs.any id:=by
 rw[Bool.eq_iff_iff,any_eq_true,any_eq_true];constructor
 ·intro⟨i,hi,h⟩;have hi':=mem_range.mp hi;rw[getElem?_eq_getElem hi'] at h;exact⟨_,getElem_mem hi',h⟩
 intro⟨b,hb,h⟩;obtain⟨i,hi,rfl⟩:=List.getElem_of_mem hb;exact⟨i,mem_range.mpr hi,by rw[getElem?_eq_getElem hi];exact h⟩
noncomputable def La (K:PySem.W.Frag)(f:List Bool->Bool):List V->Hp->VK->Prop:=fun xs H Q=>∃p bs,xs=[.ref p]/\SqL K H p (List.map V.bl bs)/\Q (.bl (f bs)) H
theorem Hq (hc:X.calm=true):eE X (.builtin "any") (La X.K fun bs=>bs.any id):=by
 intro pins s σ H xs us Q I r h;obtain⟨p,bs,rfl,hq,q⟩:=h;cases r with
 | cons r rr=>
  cases rr;cases r;obtain⟨its,rv,pl,hz⟩:=I.list hq;have e:=rv.bools;subst e;have lt:p<s.heap.objs.size:=by obtain⟨_,e,_⟩:=pl.isList;exact lt_size e
  refine call_any_walk (wpAny_pyIter_list pl.isList ?_);refine⟨s.heap.objs.size,[s.heap.objs.size,p],[s.heap.objs.size],(bs.map Value.bool).toArray.size,_,_,fun i=>(bs[i]?).getD false,rfl,Walks.list (A:=X.A.in1) (I.ok.hd hc) _ p (ne_of_lt lt) _,
   ⟨⟨_,get?_push_size _ rfl,rfl,rfl⟩,pl.isList.push _⟩,fun i v s' Q' E' hP hQ=>?_,fun h' tk hk=>?_⟩
  ·have e:(bs.map Value.bool)[i]?=some v:=by simpa using hP
   rw[getElem?_map] at e;cases z:bs[i]? with
   | none=>rw[z] at e;cases e
   | some b=>
    rw[z] at e;have e':Value.bool b=v:=Option.some.inj e;subst e';dsimp only at hQ;rw[z] at hQ;exact wpAny_truthy_bool hQ
  rw[size_toArray,length_map,Dc];refine⟨.bl _,H,I.kept fun b o e=>hk b o (fun hm=>?_) (get?_push_of_some _ e),rfl,q⟩;rw[mem_singleton.mp hm] at e;exact lt_irrefl _ (lt_size e)
noncomputable def Pz (K:PySem.W.Frag):List V->Hp->VK->Prop:=fun xs H Q=>∃x T t b,xs=[x,.ty T]/\nZ K H x t/\kitOne K t (.type T)=some b/\Q (.bl b) H
theorem Ho:eE X (.builtin "isinstance") (Pz X.K):=by
 intro pins s σ H xs us Q I r h;obtain⟨x,T,t,b,rfl,ty,e,q⟩:=h;cases r with
 | cons r rr=>
  cases rr with
  | cons r' rr=>
   cases rr;cases (show _=Value.type T from r');exact Cj I r ty e fun tk=>⟨.bl b,H,I.tok tk,rfl,q⟩
end
inductive Tn (H:Hp):V->String->Prop where
 | non:Tn H .non "NoneType"
 | bl (b:Bool):Tn H (.bl b) "bool"
 | int (i:Int):Tn H (.int i) "int"
 | str (x:Str):Tn H (.str x) "str"
 | lst {a:Addr} {xs:List V} (e:H a=some (.lst xs)):Tn H (.ref a) "list"
 | tup {a:Addr} {xs:List V} (e:H a=some (.tup xs)):Tn H (.ref a) "tuple"
theorem Tn.ty {K:PySem.W.Frag}{H:Hp}{x:V}{t:String}(h:Tn H x t):nZ K H x (.type t):=by
 cases h with
 | non=>exact .non
 | bl b=>exact .bl b
 | int i=>exact .int i
 | str x=>exact .str x
 | lst e=>exact .lst e
 | tup e=>exact .tup e
noncomputable def jU (t T:String):Bool:=t == T||(t == "bool" && T == "int")
noncomputable def iM:List String:=["NoneType","bool","int","str","list","tuple"]
theorem J3 (K:PySem.W.Frag):∀t∈iM,∀T∈iM,kitOne K (.type t) (.type T)=some (jU t T):=by
 intro t ht T hT;simp only[iM,mem_cons,not_mem_nil,or_false] at ht hT;rcases ht with rfl|rfl|rfl|rfl|rfl|rfl <;> rcases hT with rfl|rfl|rfl|rfl|rfl|rfl <;> first|rfl|kernel_rfl
theorem Tn.known {H:Hp}{x:V}{t:String}(h:Tn H x t):t∈iM:=by cases h <;> decide
section
variable {X:Cx}
theorem CV:eE X (.builtin "isinstance") (fun xs H Q=>∃x T t,xs=[x,.ty T]/\Tn H x t/\T∈iM/\Q (.bl (jU t T)) H):=by
 intro pins s σ H xs us Q I r h;obtain⟨x,T,t,rfl,ty,hT,q⟩:=h;exact Ho pins s σ H _ us Q I r ⟨x,T,_,_,rfl,ty.ty,J3 X.K t ty.known T hT,q⟩
noncomputable def KH (i j:Int):Prop:=0<j/\j<2^70
theorem wz:OpR X (binaryOp .FloorDiv) (rI KH fun i j=>.int (i/j)):=opI fun i j _ _ _ _ _ hc q=>by
 have h1:(0:Int)<j:=hc.1;have h2:j<2^70:=hc.2;refine floordiv_int ω (by rw[Int.fdiv_eq_ediv_of_nonneg i ω];exact q) (.inl (PyProof.noPylong_of_log2 ?_));have h3:j.natAbs≠0:=ω;have h4:j.natAbs.log2<70:=(Nat.log2_lt h3).mpr ω;omega
end
noncomputable def cg (p:Addr)(H H':Hp):Prop:=∀b o,b≠p->H b=some o->H' b=some o
theorem cg.refl (p:Addr)(H:Hp):cg p H H:=fun _ _ _ h=>h
theorem cg.trans {p:Addr}{H H1 H2:Hp}(a:cg p H H1)(b:cg p H1 H2):cg p H H2:=fun c o n h=>b c o n (a c o n h)
theorem cg.upd {p:Addr}{H:Hp}{o:HO}:cg p H (upd H p o):=fun b u n h=>by rw[aZ n];exact h
theorem Same.x {p:Addr}{H H':Hp}(h:Same H H'):cg p H H':=fun b o _ q=>h b o q
theorem au {H:Hp}{p:Addr}{o:HO}(h:H p=none):Same H (upd H p o):=fun b u q=>by rw[aZ (aM q h)];exact q
structure Cal (P:Program)(w:World)(K:PySem.W.Frag)(mg:Str->Option Value)(base:Heap)(x:Str)(k:Nat)(ps:List Str)(sp:Sp):Prop where
 ex:∃(f:Addr)(fd:FuncData),dN P w K mg base CX0 k f fd ps sp/\Binds K fd ps []/\keepIn K (.ref f)=true/\mg x=some (.ref f)
section
variable {X:Cx}{k:Nat}{ps:List Str}{sp:Sp}{x:Str}{p pos:Pos}{e:Expr}{es:List Expr}{t:TA}
theorem Mi (C:Cal X.prog X.w X.K X.mg X.base x k ps sp) (hr:iT k X.A) (hg:Gl X x) (ha:PA X (e::es) t) (hdb:(x == ("__debug__" : Str))=false:=by decide)
  (he:starEach (e::es) X.env=(false,eval e X.env)::starEach es X.env:=by rfl) (hpl:(backTo pos (starEach es X.env)).any (·.1)=false:=by rfl):PE X (.Call (.Name x p) (e::es) [] pos) (qw sp [] E0 t):=by
 obtain⟨f,fd,F,b,kp,hm⟩:=C.ex;exact JB F hr hg hm kp b .nil Ou ha hdb he hpl
end
structure N6 (K:PySem.W.Frag)(mg:Str->Option Value)(x:Str)(st:Stmt)(ps:List Str)(f:Addr)(fd:FuncData):Prop where
 fn:Fun K x x st f fd
 bd:Binds K fd ps []
 nm:mg x=some (.ref f)
theorem N6.cal {P:Program}{w:World}{K:PySem.W.Frag}{mg:Str->Option Value}{base:Heap}{x:Str}{st:Stmt}{ps:List Str}{f:Addr}{fd:FuncData}{k:Nat}{sp:Sp}(D:N6 K mg x st ps f fd)(F:dN P w K mg base CX0 k f fd ps sp):Cal P w K mg base x k ps sp:=
 ⟨f,fd,F,D.bd,D.fn.kp,D.nm⟩
theorem Ek (i j:Int):El (.int i) (.int j)=true:=rfl
theorem Ig (i j:Bool):El (.bl i) (.bl j)=true:=rfl
theorem Ej (i j:Str):El (.str i) (.str j)=true:=rfl
theorem Pg {α:Type}(a:α)(r:List α):atI (a::r) 0=some a:=cU (j:=0) rfl
theorem Pb {α:Type}(a b:α)(r:List α):atI (a::b::r) 1=some b:=cU (j:=1) rfl
theorem Pa {α:Type}(a b c:α)(r:List α):atI (a::b::c::r) 2=some c:=cU (j:=2) rfl
theorem GD:ixN 3 0=some 0/\ixN 3 1=some 1/\ixN 3 2=some 2:=⟨δ,δ,δ⟩
theorem aQ {n:Nat}(h:n<=1000000):n<=sizeLine:=le_trans h δ
noncomputable def ixq (o:Option HO)(i:Int)(H:Hp)(Q:VK):Prop:=match o with
 | some (.lst xs)=>∃v,atI xs i=some v/\Q v H
 | some (.tup xs)=>∃v,atI xs i=some v/\Q v H
 | _=>False
noncomputable def stq (o:Option HO)(p:Addr)(k:Int)(v:V)(H:Hp)(Q:Hp->Prop):Prop:=match o with
 | some (.lst xs)=>∃j,ixN xs.length k=some j/\Q (upd H p (.lst (xs.set j v)))
 | _=>False
noncomputable def lnq (o:Option HO)(H:Hp)(Q:VK):Prop:=match o with
 | some (.lst ys)=>Q (.int ys.length) H
 | some (.tup ys)=>Q (.int ys.length) H
 | _=>False
noncomputable def Lg:R2:=fun x y H Q=>match x,y with
 | .ref p,.int i=>ixq (H p) i H Q
 | _,_=>False
noncomputable def Es:V->V->V->Hp->(Hp->Prop)->Prop:=fun o i v H Q=>match o,i with
 | .ref p,.int k=>stq (H p) p k v H Q
 | _,_=>False
noncomputable def Fb:List V->Hp->VK->Prop:=fun xs H Q=>match xs with
 | [.ref p]=>lnq (H p) H Q
 | _=>False
theorem Fd (p:Addr)(i:Int)(H:Hp)(Q:VK):Lg (.ref p) (.int i) H Q=ixq (H p) i H Q:=rfl
theorem Bu (p:Addr)(k:Int)(v:V)(H:Hp)(Q:Hp->Prop):Es (.ref p) (.int k) v H Q=stq (H p) p k v H Q:=rfl
theorem Bv (p:Addr)(H:Hp)(Q:VK):Fb [.ref p] H Q=lnq (H p) H Q:=rfl
theorem HY (xs:List V)(p:Addr)(k:Int)(v:V)(H:Hp)(Q:Hp->Prop):stq (some (.lst xs)) p k v H Q=∃j,ixN xs.length k=some j/\Q (upd H p (.lst (xs.set j v))):=rfl
theorem J0 (xs:List V)(H:Hp)(Q:VK):lnq (some (.lst xs)) H Q=Q (.int xs.length) H:=rfl
theorem JZ (xs:List V)(H:Hp)(Q:VK):lnq (some (.tup xs)) H Q=Q (.int xs.length) H:=rfl
section
variable {X:Cx}
theorem aR:IxR X Lg:=by
 intro value slice pins s σ H x y v u Q I rx ry h hs;unfold Lg at h;split at h
 ·rename_i p i;unfold ixq at h;split at h
  ·rename_i xs e;obtain⟨z,hz,q⟩:=h;exact Ag value slice pins s σ H _ _ v u Q I rx ry ⟨p,xs,i,z,rfl,rfl,SqL.of e,hz,q⟩ hs
  ·rename_i xs e;obtain⟨z,hz,q⟩:=h;exact Nq value slice pins s σ H _ _ v u Q I rx ry ⟨p,xs,i,z,rfl,rfl,SqT.of e,hz,q⟩ hs
  exact h.elim
 exact h.elim
theorem Ei:Ks X Es:=by
 intro pins s σ H o i v ov iv u Q I ro ri rv h;unfold Es at h;split at h
 ·rename_i p k;unfold stq at h;split at h
  ·rename_i xs e;obtain⟨j,hj,q⟩:=h;exact set_list pins s σ H _ _ v ov iv u Q I ro ri rv ⟨p,xs,k,j,rfl,rfl,e,hj,q⟩
  exact h.elim
 exact h.elim
theorem aY:eE X (.builtin "len") Fb:=by
 intro pins s σ H xs us Q I r h;unfold Fb at h;split at h
 ·rename_i p;unfold lnq at h;split at h
  ·rename_i ys e;exact gY pins s σ H _ us Q I r ⟨p,ys,rfl,.inl (SqL.of e),h⟩
  ·rename_i ys e;exact gY pins s σ H _ us Q I r ⟨p,ys,rfl,.inr (SqT.of e),h⟩
  exact h.elim
 exact h.elim
end
noncomputable def Fi:List V->Hp->VK->Prop:=fun xs H Q=>match xs with
 | [.int i]=>Q (.int i) H
 | [.bl k]=>Q (.int (if k then 1 else 0)) H
 | _=>False
theorem Ik (k:Bool)(H:Hp)(Q:VK):Fi [.bl k] H Q=Q (.int (if k then 1 else 0)) H:=rfl
theorem mW {X:Cx}:eE X (.type "int") Fi:=by
 intro pins s σ H xs us Q I r h;unfold Fi at h;split at h
 ·exact ur pins s σ H _ us Q I r (.inl ⟨_,rfl,h⟩)
 ·exact ur pins s σ H _ us Q I r (.inr ⟨_,rfl,h⟩)
 exact h.elim
theorem aU {t u:TS}{D:Ends}{σ:St}{H:Hp}(h:∀k,k=u D->t { D with nx:=k } σ H):Bo t u D σ H:=h _ rfl
theorem wZ {wi:TI}{g:TG}{tb:TS}{D:Ends}{σ:St}{H:Hp}(h:∀R:It->Hp->Prop,R=(fun J H1=>∃W:Nat->Nat->St->Hp->Prop,(∃m,W 0 m σ H1)/\∀i m σ H,W i m σ H ->
  (J.stop i H/\D.nx σ H)\/(J.go i H/\∃N:St->Hp->Prop,(∀σ' H',N σ' H'->∃m',m'<m/\W (i+1) m' σ' H')/\∀x H',J.yld i H x H'->g x σ H' fun σ2 H2=>tb { D with nx:=N,ct:=N,bk:=D.nx } σ2 H2))->wi σ H R):K1 wi g tb D σ H:=h _ rfl
theorem G7 {lo:Int}{n:Nat}{g:TG}{tb:TS}{D:Ends}{σ:St}{H:Hp}{R:It->Hp->Prop}(hR:R=(fun J H1=>∃W:Nat->Nat->St->Hp->Prop,(∃m,W 0 m σ H1)/\∀i m σ H,W i m σ H ->
  (J.stop i H/\D.nx σ H)\/(J.go i H/\∃N:St->Hp->Prop,(∀σ' H',N σ' H'->∃m',m'<m/\W (i+1) m' σ' H')/\∀x H',J.yld i H x H'->g x σ H' fun σ2 H2=>tb { D with nx:=N,ct:=N,bk:=D.nx } σ2 H2)))
  (Pv:Nat->St->Hp->Prop) (h0:Pv 0 σ H) (hs:∀i σ H,i<n->Pv i σ H->g (.int (lo+i)) σ H fun σ2 H2=>tb { D with nx:=Pv (i+1),ct:=Pv (i+1),bk:=D.nx } σ2 H2) (hd:∀σ H,Pv n σ H->D.nx σ H):R (Itr lo n) H:=by
 subst hR;exact Cu Pv h0 hs hd
theorem KD {K:PySem.W.Frag}{a:Addr}{xs:List V}{g:TG}{tb:TS}{D:Ends}{σ:St}{H:Hp}{R:It->Hp->Prop}(hR:R=(fun J H1=>∃W:Nat->Nat->St->Hp->Prop,(∃m,W 0 m σ H1)/\∀i m σ H,W i m σ H ->
  (J.stop i H/\D.nx σ H)\/(J.go i H/\∃N:St->Hp->Prop,(∀σ' H',N σ' H'->∃m',m'<m/\W (i+1) m' σ' H')/\∀x H',J.yld i H x H'->g x σ H' fun σ2 H2=>tb { D with nx:=N,ct:=N,bk:=D.nx } σ2 H2)))
  (Pv:Nat->St->Hp->Prop) (h0:Pv 0 σ H) (hl:∀i σ H,i<=xs.length->Pv i σ H->SqL K H a xs) (hs:∀i x σ H,xs[i]?=some x->Pv i σ H->g x σ H fun σ2 H2=>tb { D with nx:=Pv (i+1),ct:=Pv (i+1),bk:=D.nx } σ2 H2) (hd:∀σ H,Pv xs.length σ H->D.nx σ H):R (Itl K a) H:=by
 subst hR;exact G8 Pv h0 hl hs hd
noncomputable def zE (mp:List (Option Nat))(g:TG)(tc:TT)(te:TE)(σ:St)(Q:VK)(J:It)(H1:Hp):Prop:=∃W:Nat->Nat->List V->St->Hp->Prop,(∃m,W 0 m [] (jY mp σ) H1)/\∀i m acc τ H2,W i m acc τ H2 ->
  (J.stop i H2/\∀d,H2 d=none->Q (.ref d) (upd H2 d (.lst acc))) \/
  (J.go i H2/\acc.length<sizeLine/\∃N:List V->St->Hp->Prop,(∀acc' τ' H',N acc' τ' H'->∃m',m'<m/\W (i+1) m' acc' τ' H')/\∀x H3,J.yld i H2 x H3->g x τ H3 fun τ1 H4=>tc τ1 H4 fun b H5=>
   if b=true then te τ1 H5 fun v H6=>N (acc++[v]) τ1 H6 else N acc τ1 H5)
theorem cF {mp:List (Option Nat)}{wi:TI}{g:TG}{tc:TT}{te:TE}{σ:St}{H:Hp}{Q:VK}(h:∀R:It->Hp->Prop,R=zE mp g tc te σ Q->wi σ H R):tO mp wi g tc te σ H Q:=h _ rfl
theorem Az {J:It}{mp:List (Option Nat)}{g:TG}{tc:TT}{te:TE}{σ:St}{H:Hp}{Q:VK}{R:It->Hp->Prop}(hR:R=zE mp g tc te σ Q)(n:Nat)(hz:n<=sizeLine)(Pv:Nat->List V->St->Hp->Prop)(h0:Pv 0 [] (jY mp σ) H)
  (hl:∀i acc τ H,Pv i acc τ H->acc.length<=i) (hgo:∀i acc τ H,i<n->Pv i acc τ H->J.go i H) (hst:∀acc τ H,Pv n acc τ H->J.stop n H)
  (hs:∀i acc τ H x H3,i<n->Pv i acc τ H->J.yld i H x H3->g x τ H3 fun τ1 H4=>tc τ1 H4 fun b H5=>if b=true then te τ1 H5 fun v H6=>Pv (i+1) (acc++[v]) τ1 H6 else Pv (i+1) acc τ1 H5)
  (hd:∀acc τ H d,Pv n acc τ H->H d=none->Q (.ref d) (upd H d (.lst acc))):R J H:=by
 subst hR;refine⟨fun i m acc τ H2=>m=n-i/\i<=n/\Pv i acc τ H2,⟨_,rfl,zero_le _,h0⟩,?_⟩;rintro i m acc τ H2 ⟨rfl,hi,p⟩;have q3:=hl i acc τ H2 p;by_cases hlt:i<n
 ·exact .inr ⟨hgo i acc τ H2 hlt p,ω,Pv (i+1),fun acc' τ' H' q=>⟨_,ω,rfl,hlt,q⟩,fun x H3 y=>hs i acc τ H2 x H3 hlt p y⟩
 have e:i=n:=ω;subst e;exact .inl ⟨hst acc τ H2 p,fun d hd'=>hd acc τ H2 d p hd'⟩
structure Nm (N:List Str)(sc:Scope)(i:Nat)(x:Str):Prop where
 hN:N[i]?=some x
 hv:Loc sc x
 hd:(x == ("__debug__" : Str))=false
 hcd:(x == ("__classdict__" : Str))=false
noncomputable def OJ (N:List Str) (sc:Scope) (i:Nat) (x:Str):Bool:=decide (N[i]?=some x)&&(decide (sc.names.lookup x=some .local)||decide (sc.names.lookup x=some .cell)) && !(x == ("__debug__" : Str)) && !(x == ("__classdict__" : Str))
theorem Nm.of {N:List Str}{sc:Scope}{i:Nat}{x:Str}(h:OJ N sc i x=true):Nm N sc i x:=by
 unfold OJ at h;rw[and_eq_true,and_eq_true,and_eq_true,Bool.or_eq_true] at h;obtain⟨⟨⟨h1,h2⟩,h3⟩,h4⟩:=h;exact⟨of_decide_eq_true h1,h2.elim (fun z=>.inl (of_decide_eq_true z)) (fun z=>.inr (of_decide_eq_true z)),by simpa using h3,by simpa using h4⟩
structure Bn (x:Str):Prop where
 hn:x ≠ "__name__"
 hd:(x == ("__debug__" : Str))=false
section
variable {X:Cx}{i:Nat}{x:Str}{pos pos' p:Pos}{e:Expr}{es:List Expr}{te:TE}{t:TA}{k:Nat}{ps:List Str}{sp:Sp}{id T:String}{r:List V->Hp->VK->Prop}
theorem pn (n:Nm X.N X.env.scope i x):PE X (.Name x pos) (Dm i):=FP n.hN (n.hv.elim .inl fun z=>.inr (.inl z)) n.hd n.hcd
theorem Od (n:Nm X.N X.env.scope i x)(hN:X.N.Nodup)(he:PE X e te)(hs:swapsWith e (some (.Name x pos')) pos.line X.env=pure false:=by rfl)(hf:X.fn x=true\/X.env.scope.names.lookup x=some .local:=by exact .inl rfl) :
  PS X (.Assign [.Name x pos'] e pos) (rZ te (jR i)):=Lr hN n.hN n.hv he hs hf
theorem Og (n:Nm X.N X.env.scope i x)(hN:X.N.Nodup)(hf:X.fn x=true\/X.env.scope.names.lookup x=some .local:=by exact .inl rfl):PG X (.Name x pos) (jR i):=zY hN n.hN n.hv hf
theorem Om (C:Cal X.prog X.w X.K X.mg X.base x k ps sp)(hr:iT k X.A)(hg:Gl X x)(hdb:Bn x)(ha:PA X (e::es) t)
  (he:starEach (e::es) X.env=(false,eval e X.env)::starEach es X.env:=by rfl) (hpl:(backTo pos (starEach es X.env)).any (·.1)=false:=by rfl):PE X (.Call (.Name x p) (e::es) [] pos) (qw sp [] E0 t):=
 Mi C hr hg ha hdb.hd he hpl
theorem Oo (hc:eE X (.builtin id) r)(hg:Gl X x)(hm:X.mg x=none)(hv:bootBuiltins x=some (.builtin id))(b:Bn x)(ha:PA X (e::es) t)
  (he:starEach (e::es) X.env=(false,eval e X.env)::starEach es X.env:=by rfl) (hpl:(backTo pos (starEach es X.env)).any (·.1)=false:=by rfl):PE X (.Call (.Name x p) (e::es) [] pos) (tCB r t):=Ga hc hg hm hv ha b.hn b.hd he hpl
theorem Ol (hc:eE X (.type T) r)(hg:Gl X x)(hm:X.mg x=none)(hv:bootBuiltins x=some (.type T))(b:Bn x)(ha:PA X (e::es) t)
  (he:starEach (e::es) X.env=(false,eval e X.env)::starEach es X.env:=by rfl) (hpl:(backTo pos (starEach es X.env)).any (·.1)=false:=by rfl):PE X (.Call (.Name x p) (e::es) [] pos) (tCB r t):=BL hc hg hm hv ha b.hn b.hd he hpl
theorem Oq (n:String)(hg:Gl X x)(hm:X.mg x=none)(hv:bootBuiltins x=some (.type n))(b:Bn x):PE X (.Name x pos) (tC (.ty n)):=JC hg hm hv rfl b.hn b.hd
end
theorem cu:Bn "len" := ⟨ψ,ψ⟩
theorem Hs:Bn "abs" := ⟨ψ,ψ⟩
theorem Hr:Bn "min" := ⟨ψ,ψ⟩
theorem zf:Bn "max" := ⟨ψ,ψ⟩
theorem NP:Bn "any" := ⟨ψ,ψ⟩
theorem cN:Bn "isinstance" := ⟨ψ,ψ⟩
theorem rT:Bn "int" := ⟨ψ,ψ⟩
theorem Ko:Bn "list" := ⟨ψ,ψ⟩
theorem xM:Bn "tuple" := ⟨ψ,ψ⟩
theorem NK:Bn "str" := ⟨ψ,ψ⟩
theorem vH:Bn "bool" := ⟨ψ,ψ⟩
noncomputable def tyO:Option HO->Option String
 | some (.lst _)=>some "list"
 | some (.tup _)=>some "tuple"
 | _=>none
noncomputable def tyN (x:V)(H:Hp):Option String:=match x with
 | .non=>some "NoneType"
 | .bl _=>some "bool"
 | .int _=>some "int"
 | .str _=>some "str"
 | .ref a=>tyO (H a)
 | _=>none
theorem Tn.of {x:V}{H:Hp}{t:String}(h:tyN x H=some t):Tn H x t:=by
 cases x with
 | non=>cases h;exact .non
 | bl b=>cases h;exact .bl b
 | int i=>cases h;exact .int i
 | str s=>cases h;exact .str s
 | ref a=>
  have h':tyO (H a)=some t:=h;cases e:H a with
  | none=>rw[e] at h';cases h'
  | some o=>
   rw[e] at h';cases o with
   | lst xs=>cases h';exact .lst e
   | tup xs=>cases h';exact .tup e
   | _=>cases h'
 | _=>cases h
noncomputable def Fg:List V->Hp->VK->Prop:=fun xs H Q=>match xs with
 | [x,.ty T]=>∃t,tyN x H=some t/\iM.contains T=true/\Q (.bl (jU t T)) H
 | _=>False
theorem fD {X:Cx}:eE X (.builtin "isinstance") Fg:=by
 intro pins s σ H xs us Q I r h;unfold Fg at h;split at h
 ·obtain⟨t,e,k,q⟩:=h;exact CV pins s σ H _ us Q I r ⟨_,_,t,rfl,Tn.of e,by simpa using k,q⟩
 exact h.elim
theorem Fe (x:V)(T:String)(H:Hp)(Q:VK):Fg [x,.ty T] H Q=∃t,tyN x H=some t/\iM.contains T=true/\Q (.bl (jU t T)) H:=rfl
theorem Gy:iM.contains "tuple" = true:=by decide
theorem Np:iM.contains "int" = true:=by decide
theorem Nk:iM.contains "str" = true:=by decide
theorem kc_bool:iM.contains "bool" = true:=by decide
theorem ty_int (i:Int) (H:Hp):tyN (.int i) H=some "int" := rfl
theorem N8 (i:Bool) (H:Hp):tyN (.bl i) H=some "bool" := rfl
theorem ty_str (i:Str) (H:Hp):tyN (.str i) H=some "str" := rfl
theorem KN (H:Hp):tyN .non H=some "NoneType" := rfl
theorem KJ (p:Addr)(H:Hp):tyN (.ref p) H=tyO (H p):=rfl
theorem HF (xs:List V):tyO (some (.lst xs))=some "list" := rfl
theorem HD (xs:List V):tyO (some (.tup xs))=some "tuple" := rfl
theorem oF:jU "NoneType" "bool" = false:=by decide
theorem pW:jU "NoneType" "int" = false:=by decide
theorem uM:jU "bool" "bool" = true:=by decide
theorem v7:jU "bool" "int" = true:=by decide
theorem v5:jU "int" "bool" = false:=by decide
theorem yq:jU "int" "int" = true:=by decide
theorem vY:jU "str" "bool" = false:=by decide
theorem yp:jU "str" "int" = false:=by decide
theorem yo:jU "str" "str" = true:=by decide
theorem uL:jU "list" "bool" = false:=by decide
theorem vZ:jU "list" "int" = false:=by decide
theorem sE:jU "tuple" "bool" = false:=by decide
theorem uK:jU "tuple" "int" = false:=by decide
theorem qG:jU "tuple" "tuple" = true:=by decide
noncomputable def gtq (o:Option HO)(n:Nat)(t:TGs)(σ:St)(H:Hp)(Q:St->Hp->Prop):Prop:=match o with
 | some (.tup xs)=>xs.length=n/\t xs σ H Q
 | _=>False
noncomputable def Al (n:Nat)(t:TGs):TG:=fun v σ H Q=>match v with
 | .ref a=>gtq (H a) n t σ H Q
 | _=>False
theorem Cq (n:Nat)(t:TGs)(a:Addr)(σ:St)(H:Hp)(Q:St->Hp->Prop):Al n t (.ref a) σ H Q=gtq (H a) n t σ H Q:=rfl
theorem J9 (xs:List V)(n:Nat)(t:TGs)(σ:St)(H:Hp)(Q:St->Hp->Prop):gtq (some (.tup xs)) n t σ H Q=(xs.length=n/\t xs σ H Q):=rfl
noncomputable def qtq (o:Option HO)(f:List Bool->Bool)(H:Hp)(Q:VK):Prop:=match o with
 | some (.lst xs)=>∃bs,xs=List.map V.bl bs/\Q (.bl (f bs)) H
 | _=>False
noncomputable def uQ (f:List Bool->Bool):List V->Hp->VK->Prop:=fun xs H Q=>match xs with
 | [.ref p]=>qtq (H p) f H Q
 | _=>False
theorem wg (f:List Bool->Bool)(p:Addr)(H:Hp)(Q:VK):uQ f [.ref p] H Q=qtq (H p) f H Q:=rfl
theorem Iw (f:List Bool->Bool)(xs:List V)(H:Hp)(Q:VK):qtq (some (.lst xs)) f H Q=∃bs,xs=List.map V.bl bs/\Q (.bl (f bs)) H:=rfl
section
variable {X:Cx}{es:List Expr}{k:Nat}{t:TGs}{n:Nat}{pos:Pos}
theorem Js (hc:X.calm=true)(h:PGs X es t)(hn:(assignEach es X.env).length=n:=by rfl)(hst:(assignEach es X.env).findIdx? (·.1)=none:=by rfl):PG X (.Tuple es k pos) (Al n t):=by
 intro pins s σ H v u Q I r hw;unfold Al at hw;split at hw
 ·rename_i a;unfold gtq at hw;split at hw
  ·rename_i xs e;exact LC hc h hn hst pins s σ H _ u Q I r ⟨a,xs,rfl,SqT.of e,hw.1,hw.2⟩
  exact hw.elim
 exact hw.elim
theorem CW (hc:X.calm=true):eE X (.builtin "any") (uQ fun bs=>bs.any id):=by
 intro pins s σ H xs us Q I r h;unfold uQ at h;split at h
 ·rename_i p;unfold qtq at h;split at h
  ·rename_i ys e;obtain⟨bs,rfl,q⟩:=h;exact Hq hc pins s σ H _ us Q I r ⟨p,bs,rfl,SqL.of e,q⟩
  exact h.elim
 exact h.elim
end
noncomputable def Ey:List V->Hp->VK->Prop:=fun xs H Q=>match xs with
 | [.int i,.int j]=>Q (.int (if j<i then j else i)) H
 | _=>False
noncomputable def EY:List V->Hp->VK->Prop:=fun xs H Q=>match xs with
 | [.int i,.int j]=>Q (.int (if j>i then j else i)) H
 | _=>False
theorem Ew (i j:Int)(H:Hp)(Q:VK):Ey [.int i,.int j] H Q=Q (.int (if j<i then j else i)) H:=rfl
theorem Ez (i j:Int)(H:Hp)(Q:VK):EY [.int i,.int j] H Q=Q (.int (if j>i then j else i)) H:=rfl
theorem CK {X:Cx}(hc:X.calm=true):eE X (.builtin "min") Ey:=by
 intro pins s σ H xs us Q I r h;unfold Ey at h;split at h
 ·exact CN hc pins s σ H _ us Q I r ⟨_,_,rfl,h⟩
 exact h.elim
theorem uq {X:Cx}(hc:X.calm=true):eE X (.builtin "max") EY:=by
 intro pins s σ H xs us Q I r h;unfold EY at h;split at h
 ·exact CQ hc pins s σ H _ us Q I r ⟨_,_,rfl,h⟩
 exact h.elim
structure QE (X:Cx)(e:Expr)(t:TE):Prop where
 h:PE X e t
structure QT (X:Cx)(e:Expr)(t:TT):Prop where
 h:PT X e t
structure QW (X:Cx)(e:Expr)(t:TT):Prop where
 h:PW X e t
structure QA (X:Cx)(es:List Expr)(t:TA):Prop where
 h:PA X es t
structure QS (X:Cx)(st:Stmt)(t:TS):Prop where
 h:PS X st t
structure QB (X:Cx)(st:List Stmt)(t:TS):Prop where
 h:PSs X st t
structure QG (X:Cx)(e:Expr)(t:TG):Prop where
 h:PG X e t
structure QGs (X:Cx)(es:List Expr)(t:TGs):Prop where
 h:PGs X es t
structure QI (X:Cx)(tg e:Expr)(t:TI):Prop where
 h:PI X tg e t
structure QC (X:Cx)(cs:List Expr)(t:TT):Prop where
 h:PTs X cs t
section
variable {X:Cx}{i:Nat}{x:Str}{pos pos' p tpos:Pos}{e a b c o:Expr}{es rest:List Expr}{te ta tb tc to ti:TE}{tA tB':TT}{t:TA}{k n kk:Nat}{ps:List Str}{sp:Sp}{id T:String}{r:List V->Hp->VK->Prop}{st:Stmt}{sts:List Stmt}{ts us:TS}{tg iter:Expr}{wi:TI}{g:TG}{gs:TGs}
theorem PX (h:Nm X.N X.env.scope i x):QE X (.Name x pos) (Dm i):=⟨pn h⟩
theorem PN (i:Nat) {x:Str}{pos:Pos}(hN:X.N[i]?=some x:=by rfl) (hv:Vis X.env.scope x:=by first|exact Or.inl rfl|exact Or.inr (Or.inl rfl)|exact Or.inr (Or.inr rfl)) (hd:(x == ("__debug__" : Str))=false:=by decide)
  (hcd:(x == ("__classdict__" : Str))=false:=by decide):QE X (.Name x pos) (Dm i):=⟨FP hN hv hd hcd⟩
theorem aq {i j pos}:QE X (.Constant (.int i) j pos) (tC (.int i)):=⟨Mh⟩
theorem fP {b j pos}:QE X (.Constant (.bool b) j pos) (tC (.bl b)):=⟨Ot⟩
theorem bT {x j pos}:QE X (.Constant (.str x) j pos) (tC (.str x)):=⟨LR⟩
theorem aN {op:Operator}{r:R2}(ho:OpR X (binaryOp op) r)(ha:QE X a ta)(hb:QE X b tb):QE X (.BinOp a op b pos) (tOp r ta tb):=⟨Oi ho ha.h hb.h⟩
theorem j8 {op:UnaryOp}{r:V->Hp->VK->Prop}(ho:UnR X (unaryOp op) r)(ha:QE X a ta):QE X (.UnaryOp op a pos) (tUn r ta):=⟨Oh ho ha.h⟩
theorem Li (ha:QE X a ta):QE X (.UnaryOp .Not a pos) (Du ta):=⟨Mf ha.h⟩
theorem dG {op:CmpOp}{r:R2}(ho:OpR X (compareOp op) r)(ha:QE X a ta)(hb:QE X b tb)(hm:behindInMarks op b=false):QE X (.Compare a [op] [b] pos) (tOp r ta tb):=⟨Jz ho ha.h hb.h hm⟩
theorem aK {op:CmpOp}{r:R2}(ho:OpR X (compareOp op) r)(ha:QE X a ta)(hb:QE X b tb)(hm:behindInMarks op b=false):QT X (.Compare a [op] [b] pos) (qt (tOp r ta tb)):=⟨Je ho ha.h hb.h hm⟩
theorem Ft {op op':CmpOp}{r r':R2}(ho:OpR X (compareOp op) r)(ho':OpR X (compareOp op') r')(ha:QE X a ta)(hb:QE X b tb)(hc:QE X c tc)
  (hm:lastMarks [op,op'] [b,c]=false:=by with_unfolding_all rfl):QE X (.Compare a [op,op'] [b,c] pos) (qu r r' ta tb tc):=⟨FZ ho ho' ha.h hb.h hc.h hm⟩
theorem Fo {op op':CmpOp}{r r':R2}(ho:OpR X (compareOp op) r)(ho':OpR X (compareOp op') r')(ha:QE X a ta)(hb:QE X b tb)(hc:QE X c tc)
  (hm:lastMarks [op,op'] [b,c]=false:=by with_unfolding_all rfl):QT X (.Compare a [op,op'] [b,c] pos) (qt (qu r r' ta tb tc)):=⟨Fv ho ho' ha.h hb.h hc.h hm⟩
theorem jz {op}(h:QE X a ta):QE X (.BoolOp op [a] pos) ta:=⟨Ma h.h⟩
theorem jA (ha:QE X a ta)(hb:QE X (.BoolOp .And (b::rest) pos) tb):QE X (.BoolOp .And (a::b::rest) pos) (DQ ta tb):=⟨Mj ha.h hb.h⟩
theorem zU (hc:QT X c tA)(ha:QE X a ta)(hb:QE X b tb):QE X (.IfExp c a b pos) (tIf tA ta tb):=⟨FW hc.h ha.h hb.h⟩
theorem aH {r:R2}(hr:IxR X r)(ha:QE X a ta)(hb:QE X b tb)(hs:Bf b):QE X (.Subscript a b pos) (tOp r ta tb):=⟨Oj hr ha.h hb.h hs⟩
theorem cJ (h:QA X es t):QE X (.List es pos) (Dy t):=⟨Mg h.h⟩
theorem b8 {x1}(h:QA X es t):QE X (.Tuple es x1 pos) (Dp t):=⟨LQ h.h⟩
theorem aA:QA X [] Dw:=⟨Ml⟩
theorem aj (ha:QE X e te)(hr:QA X es t)(hs:starEach (e::es) X.env=(false,eval e X.env)::starEach es X.env:=by rfl):QA X (e::es) (vP te t):=⟨JF ha.h hr.h hs⟩
theorem aX (C:Cal X.prog X.w X.K X.mg X.base x k ps sp)(hr:iT k X.A)(hg:Gl X x)(hdb:Bn x)(ha:QA X (e::es) t)
  (he:starEach (e::es) X.env=(false,eval e X.env)::starEach es X.env:=by rfl) (hpl:(backTo pos (starEach es X.env)).any (·.1)=false:=by rfl):QE X (.Call (.Name x p) (e::es) [] pos) (qw sp [] E0 t):=⟨Om C hr hg hdb ha.h he hpl⟩
theorem bN (hc:eE X (.builtin id) r)(hg:Gl X x)(hm:X.mg x=none)(hv:bootBuiltins x=some (.builtin id))(b:Bn x)(ha:QA X (e::es) t)
  (he:starEach (e::es) X.env=(false,eval e X.env)::starEach es X.env:=by rfl) (hpl:(backTo pos (starEach es X.env)).any (·.1)=false:=by rfl):QE X (.Call (.Name x p) (e::es) [] pos) (tCB r t):=⟨Oo hc hg hm hv b ha.h he hpl⟩
theorem zW (hc:eE X (.type T) r)(hg:Gl X x)(hm:X.mg x=none)(hv:bootBuiltins x=some (.type T))(b:Bn x)(ha:QA X (e::es) t)
  (he:starEach (e::es) X.env=(false,eval e X.env)::starEach es X.env:=by rfl) (hpl:(backTo pos (starEach es X.env)).any (·.1)=false:=by rfl):QE X (.Call (.Name x p) (e::es) [] pos) (tCB r t):=⟨Ol hc hg hm hv b ha.h he hpl⟩
theorem pG (n:String)(hg:Gl X x)(hm:X.mg x=none)(hv:bootBuiltins x=some (.type n))(b:Bn x):QE X (.Name x pos) (tC (.ty n)):=⟨Oq n hg hm hv b⟩
theorem jf (ha:QT X a tA):QT X (.UnaryOp .Not a pos) (Dv tA):=⟨Lq ha.h⟩
theorem iB (h:QE X e te)(he:∀whole,isTrue e X.env whole=(do let v <- whole;standAt e.pos;holding [v] (truthy v)):=by intro _;rfl):QT X e (tB te):=⟨Ln h.h he⟩
theorem jy (ha:QT X a tA):QW X (.BoolOp .And [a] pos) tA:=⟨Jb ha.h⟩
theorem fK (ha:QT X a tA):QW X (.BoolOp .Or [a] pos) tA:=⟨Lj ha.h⟩
theorem j6 (ha:QT X a tA)(hb:QW X (.BoolOp .And (b::rest) pos) tB'):QW X (.BoolOp .And (a::b::rest) pos) (HX tA tB'):=⟨Lk ha.h hb.h⟩
theorem fZ (ha:QT X a tA)(hb:QW X (.BoolOp .Or (b::rest) pos) tB'):QW X (.BoolOp .Or (a::b::rest) pos) (tOr tA tB'):=⟨Oc ha.h hb.h⟩
theorem je (h:QW X e tA):QT X e tA:=⟨h.h.pt⟩
theorem bx:QB X [] vO:=⟨Jg⟩
theorem aL (h:QS X st ts):QB X [st] ts:=⟨Jf h.h⟩
theorem aD (h:QS X st ts)(h2:QB X sts us):QB X (st::sts) (Bo ts us):=⟨Fw h.h h2.h⟩
theorem aO (he:QE X e te):QS X (.Return (some e) pos) (Dq te):=⟨Ls he.h⟩
theorem bM {c:Expr}{a b:List Stmt}{tc:TT}(hc:QT X c tc)(ha:QB X a ts)(hb:QB X b us):QS X (.If c a b pos) (Bp tc ts us):=⟨Oe hc.h ha.h hb.h⟩
theorem uR (he:QE X e te)(hs:swapsWith e none pos.line X.env=pure false:=by rfl):QS X (.Expr e pos) (DK te):=⟨Ji he.h hs⟩
theorem bV (h:Nm X.N X.env.scope i x)(hN:X.N.Nodup)(he:QE X e te)(hs:swapsWith e (some (.Name x pos')) pos.line X.env=pure false:=by rfl)(hf:X.fn x=true\/X.env.scope.names.lookup x=some .local:=by exact .inl rfl) :
  QS X (.Assign [.Name x pos'] e pos) (rZ te (jR i)):=⟨Od h hN he.h hs hf⟩
theorem j7 (he:QE X e te)(hg:QG X tg g)(hs:swapsWithSole [tg] e pos.line X.env=pure false:=by rfl)(hw:swappedStores [tg] e X.env=pure none:=by rfl)
  (h1:(assignEach [tg] X.env).map (·.2)=[assign tg X.env]:=by rfl):QS X (.Assign [tg] e pos) (rZ te g):=⟨Ly he.h hg.h hs hw h1⟩
theorem Fq {i j:Nat}{x y:Str}{a b:Expr}{ta:TA}{px py pt:Pos}{kt k2 pt2}(hc:X.calm=true)(hN:X.N.Nodup)(hi:X.N[i]?=some x)(hj:X.N[j]?=some y)(hij:i≠j)
  (hx:X.env.scope.names.lookup x=some .local) (hy:X.env.scope.names.lookup y=some .local) (ha:QA X [a,b] ta)
  (hw:swappedStores [.Tuple [.Name x px,.Name y py] kt pt] (.Tuple [a,b] k2 pt2) X.env=pure (some [x,y]))
  (hs:swapsWithSole [.Tuple [.Name x px,.Name y py] kt pt] (.Tuple [a,b] k2 pt2) pos.line X.env=pure false:=by rfl) :
  QS X (.Assign [.Tuple [.Name x px,.Name y py] kt pt] (.Tuple [a,b] k2 pt2) pos) (KZ i j ta):=⟨Lw hc hN hi hj hij hx hy ha.h hw hs⟩
theorem Fp {c:Expr}{body:List Stmt}{tc:TT}(hp:PassesOwn (model X.prog X.w) X.A X.env X.xe)(hc:QT X c tc)(hb:QB X body ts):QS X (.While c body [] pos) (Dl tc ts):=⟨Fx hp hc.h hb.h⟩
theorem qH {body:List Stmt}(hp:PassesOwn (model X.prog X.w) X.A X.env X.xe)(hc:X.calm=true)(hi:QI X tg iter wi)(hg:QG X tg g)(hb:QB X body ts)
  (hs:∀x,foldedSetIterable iter X.env x=pure x:=by intro _;rfl):QS X (.For tg iter body [] pos) (K1 wi g ts):=⟨Lx hp hc hi.h hg.h hb.h hs⟩
theorem fO (h:Nm X.N X.env.scope i x)(hN:X.N.Nodup)(hf:X.fn x=true\/X.env.scope.names.lookup x=some .local:=by exact .inl rfl):QG X (.Name x pos) (jR i):=⟨Og h hN hf⟩
theorem bI (i:Nat)(hN:X.N.Nodup)(hi:X.N[i]?=some x)(hx:Loc X.env.scope x)(hf:X.fn x=true\/X.env.scope.names.lookup x=some .local:=by first|exact .inl rfl|exact .inr rfl):QG X (.Name x pos) (jR i):=⟨zY hN hi hx hf⟩
theorem gF:QGs X [] Nv:=⟨Jr⟩
theorem bH (h1:QG X e g)(h2:QGs X es gs)(hs:(assignEach (e::es) X.env).map (·.2)=assign e X.env::(assignEach es X.env).map (·.2):=by rfl):QGs X (e::es) (G3 g gs):=⟨FN h1.h h2.h hs⟩
theorem jg {n:Nat}(hc:X.calm=true)(h:QGs X es gs)(hn:(assignEach es X.env).length=n:=by rfl)(hst:(assignEach es X.env).findIdx? (·.1)=none:=by rfl):QG X (.Tuple es k pos) (Al n gs):=⟨Js hc h.h hn hst⟩
theorem Hy (o:Expr)(c j)(p pos:Pos)(env:Env)(v:Value):assign (.Subscript o (.Constant c j p) pos) env v=(do
   let ov <- holding [v] (eval o env)
   let iv <- holding [v,ov] (eval (.Constant c j p) env)
   standAt pos
   holding [v,ov,iv] (setItem ov iv v)
   release [v,ov,iv] []):=rfl
theorem uT {c j}{t:Kr}(ho:QE X o to)(hi:QE X (.Constant c j p) ti)(hs:Ks X t):QG X (.Subscript o (.Constant c j p) pos) (Nt to ti t):=⟨LK ho.h hi.h hs (fun v=>Hy o c j p pos X.env v)⟩
theorem oH (hg:Gl X "range") (hm:X.mg "range" = none) (ha:QA X [a] t) (hs:starEach [a] X.env=[(false,eval a X.env)]:=by rfl):QI X tg (.Call (.Name "range" p) [a] [] pos) (wV t):=⟨BK hg hm ha.h hs⟩
theorem mF:QC X [] HS:=⟨Jd⟩
theorem eH (h:QT X c tA):QC X [c] tA:=⟨Jc h.h⟩
theorem cX {NX:List Str}{kX:List (Str×NameKind)}{scope:Scope}{elt:Expr}{ifs:List Expr}{tc:TT}(N:List Str)(mp:List (Option Nat))(hNX:X.N=NX)(hkX:X.env.scope.names=kX)(S:uE NX kX N mp scope)(hc:X.calm=true)
  (hi:QI X tg iter wi) (hg:∀cl C s H fp,QG (cA X N scope cl C s H fp) tg g) (ht:∀cl C s H fp,QC (cA X N scope cl C s H fp) ifs tc) (he:∀cl C s H fp,QE (cA X N scope cl C s H fp) elt te)
  (hs:∀x,foldedSetIterable iter X.env x=pure x:=by intro _;rfl):QE X (.ListComp elt [⟨tg,iter,ifs,0⟩] scope pos) (tO mp wi g tc te):=
 ⟨Jx N mp hNX hkX S hc hi.h (fun cl C s H fp=>(hg cl C s H fp).h) (fun cl C s H fp=>(ht cl C s H fp).h) (fun cl C s H fp=>(he cl C s H fp).h) hs⟩
end
section
variable {P:Program}{w:World}{K:PySem.W.Frag}{mg:Str->Option Value}{base:Heap}
theorem Fun.okq {x qual:Str}{st:Stmt}{f:Addr}{fd:FuncData}{N ps:List Str}{k:Nat}{sp:Sp}(F:Fun K x qual st f fd)(S:bK N ps (ak st))(len:∀vs H Q E,sp vs H Q E->vs.length=ps.length)
  (hbody:∀(cdv:Value)(A:Around)(outer:List Env)(s:Shared)(H:Hp)(vs:List V)(Q:VK)(E:XK),iT k (A.deeper (envOfC qual (ak st) s.heap.objs.size f cdv))->sp vs H Q E ->
   ∃t,QB (yZ CX0 P w K mg base N qual (ak st) f cdv A outer s H E).nox (bC st) t/\t { nx:=fun _ H'=>Q .non H',rt:=Q } (L2.start N vs) H):dN P w K mg base CX0 (k+1) f fd ps sp:=
 F.ok S len fun cdv A outer s H vs Q E hr hsp=>by
  obtain⟨t,h,q⟩:=hbody cdv A outer s H vs Q E hr hsp;exact⟨t,h.h,q⟩
end
section
variable {X:Cx}
noncomputable def uO (i:Int)(n:Nat):List V:=(List.range n).map fun k=>V.int (i+(k:Nat))
theorem zF:∀{xs:List V}{us:List Value},xs.length=us.length->(∀(i:Nat) x u,xs[i]?=some x->us[i]?=some u->RelV x u)->Vals xs us
 | [],[],_,_=>.nil
 | [],_::_,h,_=>by cases h
 | _::_,[],h,_=>by cases h
 | x::xs,u::us,h,f=>.cons (f 0 x u rfl rfl) (zF (by simpa using h) fun i y v h1 h2=>f (i+1) y v h1 h2)
theorem Nf:sizeLine<=2^24:=by decide
noncomputable def adq (a b:Option HO)(H:Hp)(Q:VK):Prop:=match a,b with
 | some (.lst xs),some (.lst zs)=>xs.length+zs.length<=sizeLine/\∀p,H p=none->Q (.ref p) (upd H p (.lst (xs++zs)))
 | _,_=>False
noncomputable def zT:R2:=fun x y H Q=>match x,y with
 | .int i,.int j=>Q (.int (i+j)) H
 | .ref p,.ref q=>adq (H p) (H q) H Q
 | _,_=>False
theorem Iv (i j:Int)(H:Hp)(Q:VK):zT (.int i) (.int j) H Q=Q (.int (i+j)) H:=rfl
theorem Iu (p q:Addr)(H:Hp)(Q:VK):zT (.ref p) (.ref q) H Q=adq (H p) (H q) H Q:=rfl
theorem zq (xs zs:List V)(H:Hp)(Q:VK):adq (some (.lst xs)) (some (.lst zs)) H Q=(xs.length+zs.length<=sizeLine/\∀p,H p=none->Q (.ref p) (upd H p (.lst (xs++zs)))):=rfl
theorem aV:OpR X (binaryOp .Add) zT:=by
 intro pins s σ H x y v u Q I rx ry h;unfold zT at h;split at h
 ·exact Mz pins s σ H _ _ v u Q I rx ry ⟨_,_,rfl,rfl,h⟩
 ·rename_i p q;unfold adq at h;split at h
  ·rename_i xs zs e1 e2;exact Mx pins s σ H _ _ v u Q I rx ry ⟨p,q,xs,zs,rfl,rfl,e1,e2,h.1,h.2⟩
  exact h.elim
 exact h.elim
noncomputable def eqL:List V->List V->Bool
 | [],[]=>true
 | x::xs,y::ys=>eqV x y&&eqL xs ys
 | _,_=>false
noncomputable def JW (a b:Option HO)(H:Hp)(Q:VK):Prop:=match a,b with
 | some (.lst xs),some (.lst zs)=>xs.all eZ=true/\zs.all eZ=true/\Q (.bl (!eqL xs zs)) H
 | _,_=>False
noncomputable def Et:R2:=fun x y H Q=>match x,y with
 | .ref p,.ref q=>JW (H p) (H q) H Q
 | x,y=>rNe x y H Q
theorem Lb (p q:Addr)(H:Hp)(Q:VK):Et (.ref p) (.ref q) H Q=JW (H p) (H q) H Q:=rfl
theorem Ld (i j:Int)(H:Hp)(Q:VK):Et (.int i) (.int j) H Q=rNe (.int i) (.int j) H Q:=rfl
theorem Le (i j:Bool)(H:Hp)(Q:VK):Et (.bl i) (.bl j) H Q=rNe (.bl i) (.bl j) H Q:=rfl
theorem JV (xs zs:List V)(H:Hp)(Q:VK):JW (some (.lst xs)) (some (.lst zs)) H Q=(xs.all eZ=true/\zs.all eZ=true/\Q (.bl (!eqL xs zs)) H):=rfl
theorem Ar:∀(xs zs:List V),xs.length=zs.length->((List.range xs.length).all fun j=>match xs[j]?,zs[j]? with|some a,some b=>eqV a b|_,_=>true)=eqL xs zs
 | [],[],_=>rfl
 | [],_::_,h=>by cases h
 | _::_,[],h=>by cases h
 | x::xs,z::zs,h=>by
  have ih:=Ar xs zs (by simpa using h);rw[length_cons,List.range_succ_eq_map,all_cons,all_map];show(eqV x z&&_)=(eqV x z&&eqL xs zs);rw[<- ih];rfl
theorem Aq:∀(xs zs:List V),xs.length≠zs.length->eqL xs zs=false
 | [],[],h=>absurd rfl h
 | [],_::_,_=>rfl
 | _::_,[],_=>rfl
 | x::xs,z::zs,h=>by
  show(eqV x z&&eqL xs zs)=false;rw[Aq xs zs (by simpa using h),Bool.and_false]
theorem dY (hu:X.A.units<cLine):OpR X (compareOp .NotEq) Et:=by
 intro pins s σ H x y v u Q I rx ry h;unfold Et at h;split at h
 ·rename_i p q;unfold JW at h;split at h
  ·rename_i xs zs e1 e2;obtain⟨f1,f2,q⟩:=h;cases rx;cases ry;obtain⟨its1,r1,pl1,hz1⟩:=I.list (SqL.of e1);obtain⟨its2,r2,pl2,hz2⟩:=I.list (SqL.of e2);have l1:=r1.length;have l2:=r2.length;by_cases hl:xs.length=zs.length
   ·refine SeqAt.RcNeAt.lists (e:=fun j=>match xs[j]?,zs[j]? with|some a,some b=>eqV a b|_,_=>true) pl1.isList pl2.isList (by simp only[size_toArray];omega) hu (fun j h1 h2=>?_) X.prog X.w X.xe (EP X pins σ Q) ?_
    ·have j1:j<xs.length:=by simp only[size_toArray] at h1;omega
     have j2:j<zs.length:=ω;have g1:xs[j]?=some xs[j]:=getElem?_eq_getElem j1;have g2:zs[j]?=some zs[j]:=getElem?_eq_getElem j2;obtain⟨u1,hu1,ru1⟩:=r1.get g1;obtain⟨u2,hu2,ru2⟩:=r2.get g2;have k1:its1.toArray[j]=u1:=by
      have:=List.getElem?_eq_some_iff.mp hu1;obtain⟨_,z⟩:=this;simpa using z
     have k2:its2.toArray[j]=u2:=by
      have:=List.getElem?_eq_some_iff.mp hu2;obtain⟨_,z⟩:=this;simpa using z
     rw[k1,k2,g1,g2];exact Hh ru1 ru2 (all_eq_true.mp f1 _ (getElem_mem j1)) (all_eq_true.mp f2 _ (getElem_mem j2))
    rw[show its1.toArray.size=xs.length by simp only[size_toArray];omega,Ar xs zs hl];exact⟨.bl _,H,I,rfl,q⟩
   rw[Aq xs zs hl] at q;refine SeqAt.RcNeAt.lists_lengths pl1.isList pl2.isList (by simp only[size_toArray,bne_iff_ne,ne_eq];omega) hu X.prog X.w X.xe (EP X pins σ Q) ⟨.bl _,H,I,rfl,q⟩
  exact h.elim
 exact Ov pins s σ H _ _ v u Q I rx ry h
noncomputable def inq (neg:Bool)(o:Option HO)(x:V)(H:Hp)(Q:VK):Prop:=match o with
 | some (.lst xs)=>eZ x=true/\xs.all eZ=true/\Q (.bl (if neg then !inV x xs else inV x xs)) H
 | some (.tup xs)=>eZ x=true/\xs.all eZ=true/\Q (.bl (if neg then !inV x xs else inV x xs)) H
 | _=>False
noncomputable def Fj (neg:Bool):R2:=fun x y H Q=>match y with
 | .ref p=>inq neg (H p) x H Q
 | _=>False
theorem Lh (neg:Bool)(x:V)(p:Addr)(H:Hp)(Q:VK):Fj neg x (.ref p) H Q=inq neg (H p) x H Q:=rfl
theorem O6 (neg:Bool)(x:V)(xs:List V)(H:Hp)(Q:VK):inq neg (some (.lst xs)) x H Q=(eZ x=true/\xs.all eZ=true/\Q (.bl (if neg then !inV x xs else inV x xs)) H):=rfl
theorem O5 (neg:Bool)(x:V)(xs:List V)(H:Hp)(Q:VK):inq neg (some (.tup xs)) x H Q=(eZ x=true/\xs.all eZ=true/\Q (.bl (if neg then !inV x xs else inV x xs)) H):=rfl
theorem GJ {neg:Bool}{o:Option HO}{x:V}{H:Hp}{Q:VK}{p:Addr}{K:PySem.W.Frag}(e:H p=o)(h:inq neg o x H Q):rIn K neg x (.ref p) H Q:=by
 unfold inq at h;split at h
 ·rename_i xs;exact⟨p,xs,rfl,.inl (SqL.of e),h.1,h.2.1,h.2.2⟩
 ·rename_i xs;exact⟨p,xs,rfl,.inr (SqT.of e),h.1,h.2.1,h.2.2⟩
 exact h.elim
theorem Mu:OpR X (compareOp .In) (Fj false):=by
 intro pins s σ H x y v u Q I rx ry h;unfold Fj at h;split at h
 ·exact BP pins s σ H _ _ v u Q I rx ry (GJ rfl h)
 exact h.elim
theorem lK:OpR X (compareOp .NotIn) (Fj true):=by
 intro pins s σ H x y v u Q I rx ry h;unfold Fj at h;split at h
 ·exact uU pins s σ H _ _ v u Q I rx ry (GJ rfl h)
 exact h.elim
end
structure bA (H:Hp)(p:Addr)(B:Int):Prop where
 ex:∃a b c:Int,H p=some (.lst [.int a,.int b,.int c])/\0<=a/\0<=b/\b<2147483629/\0<=c/\c<=B
theorem bA.same {H H':Hp}{p:Addr}{B:Int}(h:bA H p B)(s:Same H H'):bA H' p B:=by
 obtain⟨a,b,c,e,r⟩:=h;exact⟨a,b,c,s _ _ e,r⟩
theorem bA.le {H:Hp}{p:Addr}{B B':Int}(h:bA H p B)(l:B<=B'):bA H p B':=by
 obtain⟨a,b,c,e,r1,r2,r3,r4,r5⟩:=h;exact⟨a,b,c,e,r1,r2,r3,r4,ω⟩
theorem bA.ne {H:Hp}{p q:Addr}{B:Int}(h:bA H p B)(n:H q=none):q≠p:=by
 obtain⟨a,b,c,e,_⟩:=h;exact(aM e n).symm
theorem bA.net {H:Hp}{p q:Addr}{B:Int}{xs:List V}(h:bA H p B)(n:H q=some (.tup xs)):q≠p:=by
 obtain⟨a,b,c,e,_⟩:=h;intro z;rw[z,e] at n;cases n
noncomputable def Ec (K:PySem.W.Frag):Sp:=fun vs H Q _=>∃(a:Addr)(ns:List Int)(k:Int),vs=[.ref a,.int k]/\SqL K H a (ns.map V.int)/\0<=k/\∀v:Int,Q (.int v) H
noncomputable def DX (K:PySem.W.Frag):Sp:=fun vs H Q _=>∃(a:Addr)(ns:List Int)(k:Int),vs=[.ref a,.int k]/\SqL K H a (ns.map V.int)/\0<=k/\k<=100/\∀p H',H p=none->Same H H'->bA H' p 0->Q (.ref p) H'
noncomputable def jd (n:Nat):Sp:=fun vs H Q _=>∃(p:Addr)(m B:Int),vs=[.ref p,.int m]/\bA H p B/\B+(n:Int)<=1000100/\0<m/\m<2^70/\1<=n/\(1000000<=m->2<=n) /\
 ∀r H',0<=r->r<m->cg p H H'->bA H' p (B+n)->Q (.int r) H'
theorem Lz (c:Int):∃v:Int,atI [V.int 2147483587,V.int 2147483579,V.int 2147483563,V.int 2147483549,V.int 2147483543,V.int 2147483497,V.int 2147483489] (c%7)=some (.int v)/\0<v:=by
 have h1:0<=c%7:=emod_nonneg _ δ;have h2:c%7<7:=emod_lt_of_pos _ δ;generalize c%7=d at h1 h2;have h3:d=0\/d=1\/d=2\/d=3\/d=4\/d=5\/d=6:=ω;rcases h3 with rfl|rfl|rfl|rfl|rfl|rfl|rfl
 ·exact⟨_,cU (j:=0) rfl,δ⟩
 ·exact⟨_,cU (j:=1) rfl,δ⟩
 ·exact⟨_,cU (j:=2) rfl,δ⟩
 ·exact⟨_,cU (j:=3) rfl,δ⟩
 ·exact⟨_,cU (j:=4) rfl,δ⟩
 ·exact⟨_,cU (j:=5) rfl,δ⟩
 exact⟨_,cU (j:=6) rfl,δ⟩
inductive It1 where
 | one (a:Int)
 | rng (a b:Int)
 | bits (m v:Nat)
section
variable {mp:List (Option Nat)}{g:TG}{tc:TT}{te:TE}{σ:St}{H:Hp}{Q:VK}{R:It->Hp->Prop}{K:PySem.W.Frag}
theorem rQ {a:Addr}{xs:List V}(hR:R=zE mp g tc te σ Q)(hz:xs.length<=sizeLine)(Pv:Nat->List V->St->Hp->Prop)(h0:Pv 0 [] (jY mp σ) H)(hl:∀i acc τ H,Pv i acc τ H->acc.length<=i)
  (hq:∀i acc τ H,Pv i acc τ H->SqL K H a xs)
  (hs:∀i x acc τ H,xs[i]?=some x->Pv i acc τ H->g x τ H fun τ1 H4=>tc τ1 H4 fun b H5=>if b=true then te τ1 H5 fun v H6=>Pv (i+1) (acc++[v]) τ1 H6 else Pv (i+1) acc τ1 H5)
  (hd:∀acc τ H d,Pv xs.length acc τ H->H d=none->Q (.ref d) (upd H d (.lst acc))):R (Itl K a) H:=by
 refine Az hR xs.length hz Pv h0 hl (fun i acc τ H hi p=>⟨xs,xs[i],hq i acc τ H p,getElem?_eq_getElem hi⟩) (fun acc τ H p=>⟨xs,hq _ acc τ H p,le_refl _⟩) (fun i acc τ H x H3 hi p y=>?_) hd;obtain⟨rfl,hx⟩:=y;exact hs i x acc τ _ (hx xs (hq i acc τ _ p)) p
theorem Hj {a:Addr}{xs:List V}(hR:R=zE mp g tc te σ Q)(hz:xs.length<=sizeLine)(Pv:Nat->List V->St->Hp->Prop)(h0:Pv 0 [] (jY mp σ) H)(hl:∀i acc τ H,Pv i acc τ H->acc.length<=i)
  (hq:∀i acc τ H,Pv i acc τ H->SqL K H a xs)
  (hs:∀(i:Nat) x acc τ H p,xs[i]?=some x->Pv i acc τ H->H p=none->g (.ref p) τ (upd H p (.tup [.int (i:Nat),x])) fun τ1 H4=>tc τ1 H4 fun b H5=>if b=true then te τ1 H5 fun v H6=>Pv (i+1) (acc++[v]) τ1 H6 else Pv (i+1) acc τ1 H5)
  (hd:∀acc τ H d,Pv xs.length acc τ H->H d=none->Q (.ref d) (upd H d (.lst acc))):R (Ite K a) H:=by
 refine Az hR xs.length hz Pv h0 hl (fun i acc τ H hi p=>⟨xs,xs[i],hq i acc τ H p,getElem?_eq_getElem hi⟩) (fun acc τ H p=>⟨xs,hq _ acc τ H p,List.getElem?_eq_none (le_refl _)⟩) (fun i acc τ H x H3 hi p y=>?_) hd;obtain⟨q,x1,rfl,hq1,rfl,hx⟩:=y;exact hs i x1 acc τ _ q (hx xs (hq i acc τ _ p)) p hq1
end
noncomputable def O2 (l:List Nat):List V:=l.map fun k=>V.int (k:Nat)
theorem J8 (k:Nat)(l:List Nat):inV (.int (k:Nat)) (O2 l)=l.contains k:=by
 unfold inV O2;rw[List.any_map]
 induction l with
 | nil=>rfl
 | cons a r ih=>
  rw[any_cons,List.contains_cons,ih];congr 1;show((a:Int) == (k:Int))=(k == a);rw[Bool.eq_iff_iff,beq_iff_eq,beq_iff_eq];omega
theorem Kc (g:TG)(gs:TGs)(x:V)(xs:List V)(σ:St)(H:Hp)(Q:St->Hp->Prop):G3 g gs (x::xs) σ H Q=g x σ H fun σ1 H1=>gs xs σ1 H1 Q:=
 propext ⟨fun⟨_,_,e,h⟩=>by cases e;exact h,fun h=>⟨x,xs,rfl,h⟩⟩
theorem Nu (σ:St)(H:Hp)(Q:St->Hp->Prop):Nv [] σ H Q=Q σ H:=propext ⟨fun h=>h.2,fun h=>⟨rfl,h⟩⟩
theorem mD {tc:TT}{ts us:TS}{D:Ends}{σ:St}{H:Hp}(h:∀kt ke,kt=ts D->ke=us D->tc σ H fun b H1=>if b=true then kt σ H1 else ke σ H1):Bp tc ts us D σ H:=h _ _ rfl rfl
theorem Ii {p:Addr}{H H':Hp}(h:cg p H H')(e:H p=none):Same H H':=fun b o hb=>h b o (aM hb e) hb
section
variable {X:Cx}{e o:Expr}{te to:TE}{pos:Pos}
noncomputable def apq (ob:Option HO)(l:Addr)(y:V)(H:Hp)(Q:VK):Prop:=match ob with
 | some (.lst xs)=>xs.length<sizeLine/\Q .non (upd H l (.lst (xs++[y])))
 | _=>False
noncomputable def isq (ob:Option HO):Prop:=match ob with
 | some (.lst _)=>True
 | _=>False
theorem Ai (xs:List V):isq (some (.lst xs))=True:=rfl
theorem vK (xs:List V)(l:Addr)(y:V)(H:Hp)(Q:VK):apq (some (.lst xs)) l y H Q=(xs.length<sizeLine/\Q .non (upd H l (.lst (xs++[y])))):=rfl
noncomputable def NT (x:V)(te:TE)(σ:St)(H1:Hp)(Q:VK):Prop:=match x with
 | .ref l=>isq (H1 l)/\te σ H1 fun y H2=>apq (H2 l) l y H2 Q
 | _=>False
noncomputable def DP (to te:TE):TE:=fun σ H Q=>to σ H fun x H1=>NT x te σ H1 Q
theorem DN (to te:TE)(σ:St)(H:Hp)(Q:VK):DP to te σ H Q=to σ H fun x H1=>NT x te σ H1 Q:=rfl
theorem Hz (l:Addr)(te:TE)(σ:St)(H1:Hp)(Q:VK):NT (.ref l) te σ H1 Q=(isq (H1 l)/\te σ H1 fun y H2=>apq (H2 l) l y H2 Q):=rfl
theorem JD {apos cpos:Pos}(ho:PE X o to)(he:PE X e te)
  (hbase:attributeBase o "append" X.env (eval o X.env)=eval o X.env:=by rfl)
  (hfew:((backTo cpos (starEach [e] X.env)).all (fun x=>!x.1)&&(backToKw cpos (keywordEach [] X.env)).all (fun x=>x.1.isSome)
   && decide ([e].length+([]:List Keyword).length+(if ([]:List Keyword).isEmpty then 0 else 1)<30))=true:=by rfl)
  (hline:(apos.endLine == cpos.line)=true:=by rfl) (hs:starEach [e] X.env=(false,eval e X.env)::starEach [] X.env:=by rfl) (hplain:(backTo cpos (starEach [] X.env)).any (·.1)=false:=by rfl) :
  PE X (.Call (.Attribute o "append" apos) [e] [] cpos) (DP to te):=by
 intro pins s σ H Q I h;refine wpAny_Call_method_late hbase hfew hline rfl (thE (ho pins s σ H _ I h) fun v s1 x H1 I1 r1 q=>?_);cases x with
 | ref l=>
  obtain⟨q1,q2⟩:=q;cases el:H1 l with
  | none=>rw[el] at q1;exact q1.elim
  | some ob=>
   cases ob with
   | lst xs=>
    obtain⟨h1,h2⟩:=uG (T := "list") I1 r1 (.inl ⟨rfl,xs,SqL.of el⟩);refine⟨"list","list.append",PySem.F.plainAttrs_list,PySem.F.slot_list_append,PySem.F.type_list_append,h1,h2,?_⟩;rw[hs];refine Calls.callWith_builtin (by show(false||(backTo cpos (starEach [] X.env)).any (·.1))=false;rw[hplain] <;> rfl) (Calls.evalArgs_plain ?_)
    refine Calls.spliced_cons (thE (he pins s1 σ H1 _ I1 q2) fun u s2 y H2 I2 r2 q3=>Calls.spliced_nil ?_);replace q3:apq (H2 l) l y H2 Q:=q3;cases el2:H2 l with
    | none=>rw[el2] at q3;exact q3.elim
    | some ob2=>
     cases ob2 with
     | lst ys=>
      rw[el2] at q3;exact Cd pins s2 σ H2 (.ref l) [y] v [u] Q I2 r1 (.cons r2 .nil) ⟨l,ys,y,rfl,rfl,el2,q3.1,q3.2⟩
     | _=>rw[el2] at q3;exact q3.elim
   | _=>rw[el] at q1;exact q1.elim
 | _=>exact q.elim
theorem zX {apos cpos:Pos}(ho:QE X o to)(he:QE X e te)
  (hbase:attributeBase o "append" X.env (eval o X.env)=eval o X.env:=by rfl)
  (hfew:((backTo cpos (starEach [e] X.env)).all (fun x=>!x.1)&&(backToKw cpos (keywordEach [] X.env)).all (fun x=>x.1.isSome)
   && decide ([e].length+([]:List Keyword).length+(if ([]:List Keyword).isEmpty then 0 else 1)<30))=true:=by rfl)
  (hline:(apos.endLine == cpos.line)=true:=by rfl) (hs:starEach [e] X.env=(false,eval e X.env)::starEach [] X.env:=by rfl) (hplain:(backTo cpos (starEach [] X.env)).any (·.1)=false:=by rfl) :
  QE X (.Call (.Attribute o "append" apos) [e] [] cpos) (DP to te):=⟨JD ho.h he.h hbase hfew hline hs hplain⟩
noncomputable def slq (ob:Option HO)(lo hi:Option Int)(H:Hp)(Q:VK):Prop:=match ob with
 | some (.lst xs)=>∀p,H p=none->Q (.ref p) (upd H p (.lst (jj xs lo hi)))
 | some (.tup xs)=>¬(HT.sIx xs.length 0 lo=0/\HT.sIx xs.length xs.length hi=xs.length)/\∀p,H p=none->Q (.ref p) (upd H p (.tup (jj xs lo hi)))
 | _=>False
noncomputable def K9:V->Option Int->Option Int->Hp->VK->Prop:=fun x lo hi H Q=>match x with
 | .ref p=>slq (H p) lo hi H Q
 | _=>False
theorem Er (p:Addr)(lo hi:Option Int)(H:Hp)(Q:VK):K9 (.ref p) lo hi H Q=slq (H p) lo hi H Q:=rfl
theorem Ib (xs:List V)(lo hi:Option Int)(H:Hp)(Q:VK):slq (some (.lst xs)) lo hi H Q=∀p,H p=none->Q (.ref p) (upd H p (.lst (jj xs lo hi))):=rfl
theorem qC:SlR X K9:=by
 intro pins s σ H x v vl vu lo hi sl Q I rx hs pl pu h;unfold K9 at h;split at h
 ·rename_i p;unfold slq at h;split at h
  ·rename_i xs e;exact Ie pins s σ H _ v vl vu lo hi sl Q I rx hs pl pu ⟨p,xs,rfl,SqL.of e,h⟩
  ·rename_i xs e;exact K4 pins s σ H _ v vl vu lo hi sl Q I rx hs pl pu ⟨p,xs,rfl,SqT.of e,h.1,h.2⟩
  exact h.elim
 exact h.elim
structure QO (X:Cx)(e:Option Expr)(t:TO):Prop where
 h:PO X e t
theorem fM:QO X none uH:=⟨Jm⟩
theorem fL (h:QE X e te):QO X (some e) (Dt te):=⟨Jl h.h⟩
theorem dX {r:V->Option Int->Option Int->Hp->VK->Prop}{lo hi:Option Expr}{tl th:TO}{p2:Pos}(hr:SlR X r)(he:QE X e te)(hl:QO X lo tl)(hu:QO X hi th):QE X (.Subscript e (.Slice lo hi none p2) pos) (tSl r te tl th):=⟨FQ hr he.h hl.h hu.h⟩
noncomputable def rpq (ob:Option HO)(k:Int)(H:Hp)(Q:VK):Prop:=match ob with
 | some (.lst xs)=>-(2^63)<=k/\k<2^63/\xs.length*k.toNat<=sizeLine/\∀p,H p=none->Q (.ref p) (upd H p (.lst (List.replicate k.toNat xs).flatten))
 | _=>False
noncomputable def Eu:R2:=fun x y H Q=>match x,y with
 | .ref p,.int k=>rpq (H p) k H Q
 | x,y=>rI Di (fun i j=>.int (i*j)) x y H Q
theorem Ij (i j:Int)(H:Hp)(Q:VK):Eu (.int i) (.int j) H Q=rI Di (fun i j=>.int (i*j)) (.int i) (.int j) H Q:=rfl
theorem fQ:OpR X (binaryOp .Mult) Eu:=by
 intro pins s σ H x y v u Q I rx ry h;unfold Eu at h;split at h
 ·rename_i p k;unfold rpq at h;split at h
  ·rename_i xs e;exact Mq pins s σ H _ _ v u Q I rx ry ⟨p,k,xs,rfl,rfl,e,h.1,h.2.1,h.2.2.1,h.2.2.2⟩
  exact h.elim
 exact Ms pins s σ H _ _ v u Q I rx ry h
noncomputable def eqo (ob:Option HO)(H:Hp)(Q:VK):Prop:=match ob with
 | some (.lst _)=>Q (.bl false) H
 | some (.tup _)=>Q (.bl false) H
 | _=>False
noncomputable def Ip:R2:=fun x y H Q=>match x,y with
 | .ref p,.str _=>eqo (H p) H Q
 | x,y=>rEq x y H Q
theorem Io (i j:Int)(H:Hp)(Q:VK):Ip (.int i) (.int j) H Q=rEq (.int i) (.int j) H Q:=rfl
theorem Im (i j:Str)(H:Hp)(Q:VK):Ip (.str i) (.str j) H Q=rEq (.str i) (.str j) H Q:=rfl
theorem bF (hu:X.A.units<cLine):OpR X (compareOp .Eq) Ip:=by
 intro pins s σ H x y v u Q I rx ry h;unfold Ip at h;split at h
 ·rename_i p z;cases rx;obtain⟨t,rfl⟩:=ry;unfold eqo at h;split at h
  ·rename_i xs e;obtain⟨its,r,pl,hz⟩:=I.list (SqL.of e);exact SeqAt.RcAt.list_str z t pl.isList hu X.prog X.w X.xe (EP X pins σ Q) ⟨.bl false,H,I,rfl,h⟩
  ·rename_i xs e;obtain⟨its,r,pl,hz⟩:=I.tuple (SqT.of e);exact SeqAt.RcAt.tuple_str z t pl hu X.prog X.w X.xe (EP X pins σ Q) ⟨.bl false,H,I,rfl,h⟩
  exact h.elim
 exact Ow pins s σ H _ _ v u Q I rx ry h
theorem zV {x:Str}{v:V}{u:Value}(hg:Gl X x)(hm:X.mg x=some u)(r:RelV v u)(b:Bn x):QE X (.Name x pos) (tC v):=⟨Jv hg hm r b.hd⟩
end
mutual
inductive aF (ok:Addr->Prop)(H:Hp):V->PyData->Prop
 | non:aF ok H .non .none
 | bl (b:Bool):aF ok H (.bl b) (.bool b)
 | int (i:Int):aF ok H (.int i) (.int i)
 | str (x:Str):aF ok H (.str x) (.str x)
 | lst {p:Addr} {xs:List V} {ds:List PyData}:ok p->H p=some (.lst xs)->xs.length<=1000000->aJ ok H xs ds->aF ok H (.ref p) (.list ds)
 | tup {p:Addr} {xs:List V} {ds:List PyData}:ok p->H p=some (.tup xs)->xs.length<=1000000->aJ ok H xs ds->aF ok H (.ref p) (.tuple ds)
inductive aJ (ok:Addr->Prop)(H:Hp):List V->List PyData->Prop
 | nil:aJ ok H [] []
 | cons {x:V} {d:PyData} {xs:List V} {ds:List PyData}:aF ok H x d->aJ ok H xs ds->aJ ok H (x::xs) (d::ds)
end
mutual
theorem aF.keep {ok ok':Addr->Prop}{H H':Hp}(k:∀a o,ok a->H a=some o->ok' a/\H' a=some o):∀{v:V}{d:PyData},aF ok H v d->aF ok' H' v d
 | _,_,.non=>.non
 | _,_,.bl b=>.bl b
 | _,_,.int i=>.int i
 | _,_,.str x=>.str x
 | _,_,.lst o e z t=>.lst (k _ _ o e).1 (k _ _ o e).2 z (aJ.keep k t)
 | _,_,.tup o e z t=>.tup (k _ _ o e).1 (k _ _ o e).2 z (aJ.keep k t)
theorem aJ.keep {ok ok':Addr->Prop}{H H':Hp}(k:∀a o,ok a->H a=some o->ok' a/\H' a=some o):∀{vs:List V}{ds:List PyData},aJ ok H vs ds->aJ ok' H' vs ds
 | _,_,.nil=>.nil
 | _,_,.cons t r=>.cons (aF.keep k t) (aJ.keep k r)
end
theorem aF.same {ok:Addr->Prop}{H H':Hp}{v:V}{d:PyData}(t:aF ok H v d)(s:Same H H'):aF ok H' v d:=t.keep fun a o h e=>⟨h,s a o e⟩
theorem aJ.same {ok:Addr->Prop}{H H':Hp}{v:List V}{d:List PyData}(t:aJ ok H v d)(s:Same H H'):aJ ok H' v d:=t.keep fun a o h e=>⟨h,s a o e⟩
theorem aF.cL {p:Addr}{H H':Hp}{v:V}{d:PyData}(t:aF (·≠p) H v d)(s:cg p H H'):aF (·≠p) H' v d:=t.keep fun a o h e=>⟨h,s a o h e⟩
theorem aJ.cL {p:Addr}{H H':Hp}{v:List V}{d:List PyData}(t:aJ (·≠p) H v d)(s:cg p H H'):aJ (·≠p) H' v d:=t.keep fun a o h e=>⟨h,s a o h e⟩
theorem aJ.length {ok:Addr->Prop}{H:Hp}:∀{vs:List V}{ds:List PyData},aJ ok H vs ds->vs.length=ds.length
 | _,_,.nil=>rfl
 | _,_,.cons _ r=>by rw[length_cons,length_cons,r.length]
theorem aJ.append {ok:Addr->Prop}{H:Hp}:∀{vs ws:List V}{ds es:List PyData},aJ ok H vs ds->aJ ok H ws es->aJ ok H (vs++ws) (ds++es)
 | _,_,_,_,.nil,t=>t
 | _,_,_,_,.cons h r,t=>.cons h (r.append t)
theorem aJ.get {ok:Addr->Prop}{H:Hp}:∀{vs:List V}{ds:List PyData}{i:Nat}{v:V},aJ ok H vs ds->vs[i]?=some v->∃d,ds[i]?=some d/\aF ok H v d
 | _,_,0,_,.cons h _,e=>by cases e;exact⟨_,rfl,h⟩
 | _,_,i+1,_,.cons _ r,e=>aJ.get r (i:=i) e
theorem aJ.take {ok:Addr->Prop}{H:Hp}:∀{vs:List V}{ds:List PyData}(n:Nat),aJ ok H vs ds->aJ ok H (vs.take n) (ds.take n)
 | _,_,0,_=>.nil
 | _,_,_+1,.nil=>.nil
 | _,_,n+1,.cons h r=>.cons h (r.take n)
theorem aJ.drop {ok:Addr->Prop}{H:Hp}:∀{vs:List V}{ds:List PyData}(n:Nat),aJ ok H vs ds->aJ ok H (vs.drop n) (ds.drop n)
 | _,_,0,h=>h
 | _,_,_+1,.nil=>.nil
 | _,_,n+1,.cons _ r=>r.drop n
mutual
noncomputable def nodes:PyData->Nat
 | .list ds=>1+qN ds
 | .tuple ds=>1+qN ds
 | _=>1
noncomputable def qN:List PyData->Nat
 | []=>0
 | d::ds=>nodes d+qN ds
end
mutual
noncomputable def smD:PyData->Bool
 | .none=>true
 | .bool _=>true
 | .int i=>decide (i.natAbs<2^50\/i.natAbs=10^20\/i.natAbs<2^55)
 | .str x=>decide ((reprText x).length<=50)
 | .list ds=>Ef ds
 | .tuple ds=>Ef ds
 | .dict _=>false
noncomputable def Ef:List PyData->Bool
 | []=>true
 | d::ds=>smD d&&Ef ds
end
section
variable {X:Cx}{tg l:Expr}{tl:TE}
noncomputable def itq (K:PySem.W.Frag)(ob:Option HO)(a:Addr)(H:Hp)(R:It->Hp->Prop):Prop:=match ob with
 | some (.lst _)=>R (Itl K a) H
 | some (.tup _)=>R (Itt K a) H
 | _=>False
noncomputable def itK (K:PySem.W.Frag)(x:V)(H:Hp)(R:It->Hp->Prop):Prop:=match x with
 | .ref a=>itq K (H a) a H R
 | _=>False
noncomputable def GP (K:PySem.W.Frag)(tl:TE):TI:=fun σ H R=>tl σ H fun x H1=>itK K x H1 R
theorem GK (K:PySem.W.Frag)(tl:TE)(σ:St)(H:Hp)(R:It->Hp->Prop):GP K tl σ H R=tl σ H fun x H1=>itK K x H1 R:=rfl
theorem J6 (K:PySem.W.Frag)(a:Addr)(H:Hp)(R:It->Hp->Prop):itK K (.ref a) H R=itq K (H a) a H R:=rfl
theorem J5 (K:PySem.W.Frag)(xs:List V)(a:Addr)(H:Hp)(R:It->Hp->Prop):itq K (some (.lst xs)) a H R=R (Itl K a) H:=rfl
theorem Jq (hl:PE X l tl):PI X tg l (GP X.K tl):=by
 intro pins s σ H R I h;refine thn (hl pins s σ H _ I h) fun v s1 ⟨x,H1,I1,r1,q1⟩=>?_;cases x with
 | ref a=>
  replace q1:itq X.K (H1 a) a H1 R:=q1;cases r1;unfold itq at q1;split at q1
  ·rename_i xs e;obtain⟨its,rv,p,hz⟩:=I1.list (SqL.of e);refine wpAny_pyIter_list p.isList ?_;refine⟨s1.heap.objs.size,[s1.heap.objs.size],_,_,H1,rfl,I1.kept (t':=s1.toks) fun b o e=>get?_push_of_some _ e,Bg a _,⟨_,get?_push_size _ rfl,rfl,rfl⟩,fun b hb=>?_,q1⟩;have e:b=s1.heap.objs.size:=by simpa using hb
   subst e;exact I1.G6 (le_refl _) (I1.hok.fresh (le_refl _))
  ·rename_i xs e;obtain⟨its,rv,p,hz⟩:=I1.tuple (SqT.of e);refine wpAny_pyIter_tuple (show s1.heap.IsTuple a its.toArray from p) ?_;refine⟨s1.heap.objs.size,[s1.heap.objs.size],_,_,H1,rfl,I1.kept (t':=s1.toks) fun b o e=>get?_push_of_some _ e,xY a _,⟨_,get?_push_size _ rfl,rfl,rfl⟩,fun b hb=>?_,q1⟩;have e:b=s1.heap.objs.size:=by simpa using hb
   subst e;exact I1.G6 (le_refl _) (I1.hok.fresh (le_refl _))
  exact q1.elim
 | _=>exact q1.elim
theorem b7 (hl:QE X l tl):QI X tg l (GP X.K tl):=⟨Jq hl.h⟩
end
noncomputable def gh (ok:Addr->Prop)(H0:Hp):Prop:=∀H p,Same H0 H->H p=none->ok p
theorem qO {H0:Hp}{p:Addr}{o:HO}(h:H0 p=some o):gh (·≠p) H0:=fun H q s hq=>(aM (s _ _ h) hq).symm
theorem gh.same {ok:Addr->Prop}{H0 H1:Hp}(n:gh ok H0)(s:Same H0 H1):gh ok H1:=fun H p s2 h=>n H p (s.trans s2) h
noncomputable def oW:PyData->Bool
 | .int _=>true
 | _=>false
noncomputable def Ea:Sp:=fun vs H Q _=>∃v ok d,vs=[v]/\aF ok H v d/\Q (.bl (oW d)) H
section
variable {X:Cx}{NX N:List Str}{kX:List (Str×NameKind)}{mp:List (Option Nat)}{scope:Scope}
set_option maxHeartbeats 8000000 in
theorem Jh {tg iter elt:Expr}{ifs:List Expr}{pos pos' pos2:Pos}{wi:TI}{g:TG}{tc:TT}{te:TE}{i:Nat}{x:Str}(N:List Str)(mp:List (Option Nat))(hn:Nm X.N X.env.scope i x)(hNd:X.N.Nodup)(hNX:X.N=NX)(hkX:X.env.scope.names=kX)(S:uE NX kX N mp scope)(hc:X.calm=true)
  (hi:PI X tg iter wi) (hg:∀cl C s H fp,PG (cA X N scope cl C s H fp) tg g) (ht:∀cl C s H fp,PTs (cA X N scope cl C s H fp) ifs tc) (he:∀cl C s H fp,PE (cA X N scope cl C s H fp) elt te)
  (hf:X.fn x=true\/X.env.scope.names.lookup x=some .local:=by exact .inl rfl)
  (hsw:swapsWithSole [.Name x pos'] (.ListComp elt [⟨tg,iter,ifs,0⟩] scope pos) pos2.line X.env=pure true:=by rfl)
  (h1:(assignEach [.Name x pos'] X.env).map (·.2)=[assign (.Name x pos') X.env]:=by rfl)
  (hs:∀x,foldedSetIterable iter X.env x=pure x:=by intro _;rfl):PS X (.Assign [.Name x pos'] (.ListComp elt [⟨tg,iter,ifs,0⟩] scope pos) pos2) (rZ (tO mp wi g tc te) (jR i)):=by
 intro pins s σ H Dn I h;rw[exec_Assign_arm];refine wpAny_bind (wpAny_standAt ?_);rw[hsw];refine wpAny_bind (wpAny_pure ?_);rw[if_pos rfl,h1];replace h:tO mp wi g tc te σ H (fun v H1=>Dn.nx (σ.set i (some v)) H1):=h;obtain⟨cl,hcl,hsub,hhas⟩:=Bb (env:=X.env) (scope:=scope) fun y hy hf=>I.ok.has y.1 (by
  rcases S.fre y hy hf with q|q
  ·exact .inl (show X.env.scope.names.lookup y.1=_ by rw[hkX];exact q)
  exact .inr (show X.env.scope.names.lookup y.1=_ by rw[hkX];exact q))
 generalize hQ:(fun(v:V)(H1:Hp)=>Dn.nx (σ.set i (some v)) H1)=Q at h
 let QQ:Value->Shared->Prop:=fun _ s'=>∃τ H',Inv X pins τ H' s'/\Dn.nx τ H'
 refine wpAny_bind (wpAny_bind (thn (Q:=QQ) (wpAny_comprehension_free (e:=.ListComp elt [⟨tg,iter,ifs,0⟩] scope pos) (use:=some fun v=>assignAll v [assign (.Name x pos') X.env]) rfl hs hcl S.kind S.locs ?_) fun _ s' ⟨τ,H',I',q'⟩=>wpAny_pure (wpAny_pure ⟨τ,H',I',q'⟩)));refine thn (hi pins s σ H _ I h) fun v s1 h1=>thn h1 fun itv s2 h2=>?_;obtain⟨it,fp,tn,J,H2,e,I2,T,st2,f2,W,⟨m0,w0⟩,turn⟩:=h2;subst e;refine wpAny_newObj_type (wpAny_newFunctionEnv S.nocell (by intro y hy;simp at hy) (fun h3 hns hsb=>?_) S.kind);dsimp only at hns hsb |-;have hold:∀b∈fp,b<s2.heap.objs.size:=fun b hb=>by
  obtain⟨o,q,_⟩:=T.obj _ _ st2 b hb;exact lt_size q
 generalize hD:s2.heap.objs.size=D at hns hsb;generalize hH2:s2.heap.push { cls:=.type "list",dict:=none,data:=.seq ([]:List Value).toArray }=P2 at hns hsb |-;have hC:P2.objs.size=D+1:=by rw[<- hH2,size_push,hD]
 generalize hC':P2.objs.size=C at hns hsb |-;rw[hC'] at hC;have old:∀b o,s2.heap.get? b=some o->h3.get? b=some o:=fun b o q=>by
  have hb:=lt_size q;exact hsb.extBut b o (na1 hb hD hC) (get?_push_of_some _ (hH2 ▸ get?_push_of_some _ q))
 have accD:h3.get? D=some { cls:=.type "list",data:=.seq ([]:List Value).toArray }:=
  hsb.extBut _ _ (na2 hC) (get?_push_of_some _ (by rw[<- hH2,<- hD];exact get?_push_size _ rfl))
 have hfr:D∉frs X.stack:=fun z=>by
  rcases mem_cons.mp (I2.qx D z) with q|q
  ·exact na0 I2.lt hD q.symm
  exact I2.MT (na4 hD) q
 have I0:Inv (cA X N scope cl C s2 H2 fp) [(D,{ cls:=.type "list",data:=.seq ([]:List Value).toArray })] (jY mp σ) H2 { s2 with heap:=h3,toks:=s2.toks+([]:List (Str×Value)).length }:=
  Ba (s':={ s2 with heap:=h3,toks:=s2.toks+([]:List (Str×Value)).length }) hNX hkX S I2 f2 hold (na3 hD hC) hsub hhas rfl rfl ⟨_,hns⟩ old fun p hp=>by
   have ep:=mem_singleton.mp hp;subst ep;exact⟨accD,I2.hok.fresh (na4 hD),na2 hC,hfr,fun v z=>by cases z⟩
 have T0:tn 0 h3:=T.keep _ _ _ st2 fun b _ o q=>old b o q;have loop:∀z:Shared,z={ s2 with heap:=h3,toks:=s2.toks+([]:List (Str×Value)).length } ->
   codeAny (model X.prog X.w) X.A (.compLoop (.ListComp elt [⟨tg,iter,ifs,0⟩] scope pos) 0 (.ref it) (.ref D) (compEnvC scope cl C X.env))
    (compPost (model X.prog X.w) X.A X.xe (some fun v=>assignAll v [assign (.Name x pos') X.env]) QQ (.ref D) C) z:=by
  rintro z rfl;have stat:∀{H':Hp}{pl:List (Addr×Obj)},(∀b∈fp,H' b=none)->(∀p∈pl,p.1=D)->∀b∈fp,qj (cA X N scope cl C s2 H2 fp) pl H' b:=fun hn hp b hb=>by
   have hb2:=hold b hb;refine⟨hn b hb,na1 hb2 hD hC,(za hkX S I2 f2 hold (na3 hD hC) hsub hhas).exfs b hb,.inl hb,fun x c q=>(f2 b hb).2.2.2.2.1 x c (hsub x c q),fun p hpp=>?_⟩;have hpD:=hp p (by simpa [cA] using hpp);rw[hpD];exact(na0 hb2 hD).symm
  refine uo (env:=compEnvC scope cl C X.env) (fun n z=>∃i acc τ H' its k,Inv (cA X N scope cl C s2 H2 fp) [(D,{ cls:=.type "list",data:=.seq (List.toArray its) k })] τ H' z/\tn i z.heap/\(∀b∈fp,H' b=none)/\Vals acc its/\acc.length<=sizeLine/\W i n acc τ H')
   ?_ m0 ⟨0,[],_,H2,[],0,I0,T0,fun b hb=>(f2 b hb).1,.nil,zero_le _,w0⟩
  rintro n s5 ⟨i,acc,τ,H5,its,k,I5,st5,fr5,va,hz,w5⟩;rcases turn i n acc τ H5 w5 with⟨stop,qn⟩|⟨go,hz2,N9,hN9,step⟩
  ·refine thn (T.done (cA X N scope cl C s2 H2 fp) rfl rfl rfl hc i _ s5 τ H5 _ I5 (stat fr5 (by simp)) st5 stop) fun r s6 ⟨hr,I6⟩=>?_;subst hr;obtain⟨m6,hn6,_⟩:=I6.loc;obtain⟨dD,nD,_,_,_⟩:=I6.pin (D,_) (mem_append_right _ (mem_singleton.mpr rfl));have U:=I6.base;have nC:H5 C=none:=I6.free;have ne:∀b o,s2.heap.get? b=some o->b≠C/\b≠D:=fun b o q=>by
    exact⟨na1 (lt_size q) hD hC,na0 (lt_size q) hD⟩
   have key:∀h',Heap.SameBut C s6.heap h'->Inv X pins σ (upd H5 D (.lst acc)) { s6 with heap:=h' }:=fun h' sb=>by
    have keepC:∀b o,b≠C->s6.heap.get? b=some o->h'.get? b=some o:=fun b o hb q=>(sb.2 b hb).trans q;have U':Un (frs X.stack) fp H2 (upd H5 D (.lst acc)) s2.heap h':=by
     refine⟨fun b o q n1 hb hx=>keepC b o (ne b o q).1 (U.keep b o q n1 hb hx),fun b o q n1 hb hx=>?_,fun b o q n1 hx=>?_,fun b o q hx=>?_,fun b xs q=>?_,fun b o xs q=>?_,fun b ps q=>?_⟩
     ·obtain⟨sl,z⟩:=U.slot b o q n1 hb hx;exact⟨sl,keepC b _ (ne b o q).1 z⟩
     ·rw[aZ (ne b o q).2];exact U.free b o q n1 hx
     ·obtain⟨o',z⟩:=U.there b o q hx;exact⟨o',keepC b _ (ne b o q).1 z⟩
     ·have z:=U.tups b xs q;rw[aZ (aM z nD)];exact z
     ·have z:=U.frzs b o xs q;rw[aZ (aM z nD)];exact z
     obtain⟨more,z⟩:=U.tbls b ps q;exact⟨more,by rw[aZ (aM z nD)];exact z⟩
    have hok:HOk X.prog X.w (upd H5 D (.lst acc)) h':=fun b u q=>by
     by_cases hb:b=D
     ·subst hb;rw[aB] at q;cases q;exact⟨hz,its,k,va,keepC _ _ (na2 hC) dD⟩
     rw[aZ hb] at q;refine(I6.hok b u q).stay (fun c v hcc z=>keepC c v ?_ z) (fun c z=>by rw[aZ (aM z nD)];exact z) fun c xs z=>by rw[aZ (aM z nD)];exact z
     rcases hcc with z1|z1
     ·subst z1;exact aM q nC
     exact aM z1 nC
    have I7:Inv X pins σ (upd H5 D (.lst acc)) { s6 with heap:=h' }:=I2.call' (s':={ s6 with heap:=h' }) (ch:=fp) I6.os U' hok I6.bare fun b hb=>by
     obtain⟨_,a2,_,a4,a5,a6⟩:=f2 b hb;exact⟨a4,a2,a5,a6⟩
    exact I7
   have I7:Inv X pins σ (upd H5 D (.lst acc)) s6:=key s6.heap (Heap.SameBut.refl _ _);have lC:X.env.locals≠C:=na1 I2.lt hD hC;have cC:∀y c,X.env.cells.lookup y=some c->c≠C:=fun y c z=>by
    obtain⟨_,o,h1,_⟩:=I2.cell y c z;exact na1 (lt_size h1) hD hC
   show wpAny _ _ (assign (.Name x pos') X.env (.ref D)) _ _ s6;refine wpAny_assign_Name (tQ (v:=.ref D) I7 hNd hn.hN hn.hv rfl (fun s7 I8 ⟨a,sa,ha⟩=>?_) hf);have aC:a≠C:=by
    rcases ha with rfl|ha
    ·exact lC
    exact cC _ _ ha
   obtain⟨o6,es6,ep6,g1,g2,g3,g4⟩:=hn6;refine⟨m6,⟨o6,es6,ep6,(sa.2 C (Ne.symm aC)).trans g1,g2,g3,g4⟩,fun h' sb=>?_⟩;have q9:=qn D nD;rw[<- hQ] at q9;refine⟨_,_,I8.turned (it:=C) (t':=s7.toks) (fun b o hb q=>(sb.2 b hb).trans q) ?_ (Ne.symm lC) (.inr (le_trans I2.sz (na3 hD hC))) cC (fun p hp=>?_),q9⟩
   ·rw[aZ (Ne.symm (na2 hC))];exact nC
   obtain⟨h1,_⟩:=I2.pin p hp;exact na1 (lt_size h1) hD hC
  refine thn (T.item (cA X N scope cl C s2 H2 fp) rfl rfl rfl hc i _ s5 τ H5 _ I5 (stat fr5 (by simp)) st5 go) fun r s6 ⟨u,hr,h6⟩=>?_;subst hr;refine thn h6 fun _ s7 ⟨x,H7,I7,r7,y7,st7,fr7⟩=>?_;have I7':=I7.pinned (stat fr7 (by simp)) (T.obj _ _ st7);have no:∀{α:Type}{t:Sem α}{Q1 Q2:α->Shared->Prop}{E:Value->Shared->Prop}{z:Shared},wpAny (model X.prog X.w) X.A t Q1 (fun _ _=>False) z->(∀a z,Q1 a z->Q2 a z)->wpAny (model X.prog X.w) X.A t Q2 E z:=
   fun q f=>wpAny_mono q f fun _ _ z=>z.elim
  refine no (hg cl C s2 H2 fp _ s7 τ H7 x u _ I7' r7 (step x H7 y7)) fun _ s8 ⟨τ1,H8,I8,q8⟩=>?_;refine no (ht cl C s2 H2 fp _ s8 τ1 H8 _ I8 q8) fun ok s9 ⟨H9,I9,q9⟩=>?_;have again:∀{H':Hp}{z:Shared}{its':List Value}{k':Nat},Inv (cA X N scope cl C s2 H2 fp) ([(D,{ cls:=.type "list",data:=.seq (List.toArray its') k' })]++jh fp s7.heap) τ1 H' z ->
    tn (i+1) z.heap/\(∀b∈fp,H' b=none)/\Inv (cA X N scope cl C s2 H2 fp) [(D,{ cls:=.type "list",data:=.seq (List.toArray its') k' })] τ1 H' z:=fun {H' z its' k'} Iz=>by
   have get:∀b∈fp,∀o,s7.heap.get? b=some o->z.heap.get? b=some o/\H' b=none:=fun b hb o q=>by
    obtain⟨a1,a2,_⟩:=Iz.pin (b,o) (mem_append_right _ (mem_append_right _ (jH hb q)));exact⟨a1,a2⟩
   refine⟨T.keep _ _ _ st7 fun b hb o q=>(get b hb o q).1,fun b hb=>?_,Iz.jX⟩;obtain⟨o,q,_⟩:=T.obj _ _ st7 b hb;exact(get b hb o q).2
  cases ok with
  | false=>
   rw[if_neg Bool.false_ne_true] at q9 |-;obtain⟨m',hm,w9⟩:=hN9 _ _ _ q9;obtain⟨a1,a2,a3⟩:=again I9;exact⟨m',hm,i+1,acc,τ1,H9,its,k,a3,a1,a2,va,hz,w9⟩
  | true=>
   rw[if_pos rfl] at q9 |-;refine no (he cl C s2 H2 fp _ s9 τ1 H9 _ I9 q9) fun y s10 ⟨v,H10,I10,rv,q10⟩=>?_;obtain⟨m',hm,w10⟩:=hN9 _ _ _ q10;obtain⟨a1,a2,a3⟩:=again I10;obtain⟨dD,nD,_,_,_⟩:=a3.pin (D,_) (mem_append_right _ (mem_singleton.mpr rfl));have hlen:=va.length;refine call_meets F.slot_list_append ⟨_,dD,rfl⟩ F.entry_list_append (F.args_list_append_2 _ _) (PySem.list_append D its.toArray k y (by rw[size_toArray];omega)) ⟨dD,?_⟩;obtain⟨k',q⟩:∃k',(s10.heap.update D (Obj.mapSeq fun a=>a.push y)).get? D=some { cls:=.type "list",data:=.seq (its++[y]).toArray k' }:=by
    have q:=PySem.IsL.update dD (fun a=>a.push y);rw[show its.toArray.push y=(its++[y]).toArray by simp] at q;exact⟨_,q⟩
   have a4:Inv (cA X N scope cl C s2 H2 fp) (jh fp s7.heap) τ1 H10 s10:=I10.lH fun p hp=>I10.pin p (mem_append_right _ (mem_append_right _ hp));have a5:Inv (cA X N scope cl C s2 H2 fp) (jh fp s7.heap) τ1 H10 { s10 with heap:=s10.heap.update D (Obj.mapSeq fun a=>a.push y),toks:=s10.toks }:=
    a4.turned (it:=D) (fun b o hb z=>(get?_update_other _ _ (Ne.symm hb)).trans z) nD (na2 hC) (.inr (na4 hD))
     (fun x c z=>by
      obtain⟨_,o,h1,_⟩:=I2.cell x c (hsub x c z);exact na0 (lt_size h1) hD) fun p hp=>by
      have hb:=(oK (by simpa [cA] using hp)).1;exact na0 (hold _ hb) hD
   obtain⟨b1,b2,b3⟩:=(show tn (i+1) (s10.heap.update D (Obj.mapSeq fun a=>a.push y))/\(∀b∈fp,H10 b=none)/\True from
    ⟨T.keep _ _ _ a1 fun b hb o z=>(get?_update_other _ _ (na0 (hold b hb) hD).symm).trans z,a2,trivial⟩)
   refine⟨m',hm,i+1,acc++[v],τ1,H10,its++[y],k',a5.lH fun p hp=>?_,b1,b2,va.append (.cons rv .nil),by rw[length_append,length_singleton];omega,w10⟩;have ep:=mem_singleton.mp hp;subst ep;exact⟨q,nD,na2 hC,hfr,fun v z=>by cases z⟩
 have e1:{ newEnv scope C X.env.globals cl X.env.qual none .none (some X.env) X.env.builtins with scope:=relabel scope X.env }=compEnvC scope cl C X.env:=rfl;exact codeAny_compStart_list (loop _ rfl) (T.self _ 0 _ _ _ T0 (loop _ rfl))
theorem lG {tg iter elt:Expr}{ifs:List Expr}{pos pos' pos2:Pos}{wi:TI}{g:TG}{tc:TT}{te:TE}{i:Nat}{x:Str}(N:List Str)(mp:List (Option Nat))(hn:Nm X.N X.env.scope i x)(hNd:X.N.Nodup)(hNX:X.N=NX)(hkX:X.env.scope.names=kX)(S:uE NX kX N mp scope)(hc:X.calm=true)
  (hi:QI X tg iter wi) (hg:∀cl C s H fp,QG (cA X N scope cl C s H fp) tg g) (ht:∀cl C s H fp,QC (cA X N scope cl C s H fp) ifs tc) (he:∀cl C s H fp,QE (cA X N scope cl C s H fp) elt te)
  (hf:X.fn x=true\/X.env.scope.names.lookup x=some .local:=by exact .inl rfl)
  (hsw:swapsWithSole [.Name x pos'] (.ListComp elt [⟨tg,iter,ifs,0⟩] scope pos) pos2.line X.env=pure true:=by rfl)
  (h1:(assignEach [.Name x pos'] X.env).map (·.2)=[assign (.Name x pos') X.env]:=by rfl)
  (hs:∀x,foldedSetIterable iter X.env x=pure x:=by intro _;rfl):QS X (.Assign [.Name x pos'] (.ListComp elt [⟨tg,iter,ifs,0⟩] scope pos) pos2) (rZ (tO mp wi g tc te) (jR i)):=
 ⟨Jh N mp hn hNd hNX hkX S hc hi.h (fun cl C s H fp=>(hg cl C s H fp).h) (fun cl C s H fp=>(ht cl C s H fp).h) (fun cl C s H fp=>(he cl C s H fp).h) hf hsw h1 hs⟩
end
noncomputable def vN (H0:Hp)(f:PyData->Bool)(ds:List PyData)(ok:St->Prop)(i:Nat)(acc:List V)(τ:St)(H':Hp):Prop:=Same H0 H'/\ok τ/\acc=((ds.take i).map f).map V.bl
section
variable {mp:List (Option Nat)}{g:TG}{te:TE}{σ:St}{H:Hp}{Q:VK}{R:It->Hp->Prop}{K:PySem.W.Frag}{a:Addr}{xs:List V}{ds:List PyData}{ok:Addr->Prop}
theorem take_snoc {α:Type}{l:List α}{i:Nat}{x:α}(h:l[i]?=some x):l.take (i+1)=l.take i++[x]:=by
 rw[List.take_add_one,h];rfl
theorem zc {f:PyData->Bool}{d:PyData}{i:Nat}(h:ds[i]?=some d):((ds.take (i+1)).map f).map V.bl=((ds.take i).map f).map V.bl++[V.bl (f d)]:=by
 rw[take_snoc h,map_append,map_append];rfl
theorem CZ (f:PyData->Bool)(ds:List PyData)(i:Nat):(((ds.take i).map f).map V.bl).length<=i:=by
 simp only[length_map,length_take];omega
theorem vD (f:PyData->Bool)(okT:St->Prop)(hR:R=zE mp g HS te σ Q)(tr:aJ ok H xs ds)(e:H a=some (.lst xs))(hz:xs.length<=1000000)(h0:okT (jY mp σ))
  (hs:∀x d τ H1 (Qn:V->St->Hp->Prop),d∈ds->Same H H1->aF ok H1 x d->okT τ->(∀τ1 H6,okT τ1->Same H1 H6->Qn (.bl (f d)) τ1 H6)->g x τ H1 fun τ1 H4=>te τ1 H4 fun v H6=>Qn v τ1 H6)
  (hd:∀H2 d,Same H H2->H2 d=none->Q (.ref d) (upd H2 d (.lst ((ds.map f).map V.bl)))):R (Itl K a) H:=by
 have hl:=tr.length;refine rQ hR (aQ hz) (vN H f ds okT) ⟨Same.refl _,h0,rfl⟩ (fun i acc τ H1 ⟨_,_,e⟩=>by rw[e];exact CZ f ds i) (fun i acc τ H1 ⟨s,_,_⟩=>SqL.of (s _ _ e)) (fun i x acc τ H1 hx ⟨s,k,ea⟩=>?_) (fun acc τ H1 d ⟨s,k,ea⟩ hn=>?_)
 ·obtain⟨d,hd2,td⟩:=tr.get hx;have z:=hs x d τ H1 (fun v τ1 H6=>vN H f ds okT (i+1) (acc++[v]) τ1 H6) (mem_of_getElem? hd2) s (td.same s) k fun τ1 H6 k1 s6=>⟨s.trans s6,k1,by rw[ea,zc hd2]⟩;show g x τ H1 fun τ1 H4=>if true=true then te τ1 H4 fun v H6=>vN H f ds okT (i+1) (acc++[v]) τ1 H6 else vN H f ds okT (i+1) acc τ1 H4;simp only[if_true];exact z
 rw[ea,hl,List.take_length];exact hd H1 d s hn
end
noncomputable def kZ (d:PyData)(z:Str):Bool:=match d with
 | .str x=>decide (x=z)
 | _=>false
theorem G5 {p c:Addr}{H Hk:Hp}{B:Int}(s:cg p H Hk)(t:bA Hk p B)(h:Hk c=none):c≠p/\H c=none:=by
 have n:=t.ne h;refine⟨n,?_⟩;cases e:H c with
 | none=>rfl
 | some o=>rw[s _ _ n e] at h;cases h
theorem Bs {p c:Addr}{H H':Hp}{o:HO}(s:cg p H H')(h:H c=none):cg p H (upd H' c o):=fun b u n e=>by
 rw[aZ (aM e h)];exact s b u n e
theorem bA.upd {H:Hp}{p c:Addr}{B:Int}{o:HO}(t:bA H p B)(n:c≠p):bA (upd H c o) p B:=by
 obtain⟨a,b,c',e,r⟩:=t;exact⟨a,b,c',by rw[aZ (Ne.symm n)];exact e,r⟩
theorem nW {α:Type}(l:List α)(x:α):atI (l++[x]) (-1)=some x:=by
 unfold atI ixN;rw[if_neg δ,if_pos (by rw[length_append,length_singleton];omega)];show(l++[x])[_]?=some x;rw[getElem?_append_right (by rw[length_append,length_singleton];omega)];rw[show(-1+((l++[x]).length:Int)).toNat-l.length=0 by rw[length_append,length_singleton];omega];rfl
theorem gA {α:Type}(l:List α)(h:0<l.length):∃a b,l=a++[b]:=by
 induction l with
 | nil=>cases h
 | cons x r ih=>
  cases r with
  | nil=>exact⟨[],x,rfl⟩
  | cons y r=>
   obtain⟨a,b,e⟩:=ih (by simp);exact⟨x::a,b,by rw[e];rfl⟩
theorem J4 {n:Nat}{i:Int}(h0:0<=i)(h:i<n):ixN n i=some i.toNat:=by
 unfold ixN;rw[if_pos h0,if_pos h]
theorem bA.newOk {H:Hp}{p:Addr}{B:Int}(t:bA H p B):gh (·≠p) H:=by
 obtain⟨a,b,c,e,_⟩:=t;exact qO e
theorem Cv (t:Addr) (items:Array Value):Meets (Builtin.«enumerate.__new__» { pos:=[Value.type "enumerate",Value.ref t] }) fun _ R s=>
  s.heap.IsTuple t items/\R (.ok (.ret (.ref (s.heap.objs.size+1)))) { s with heap:=(s.heap.push { cls:=.type "tuple_iterator",data:=.fields #[.ref t,.int 0 0] }).push { cls:=.type "enumerate",data:=.fields #[.none,.bool false,.ref s.heap.objs.size,rawInt 0,.none,.none] } }:=by
 refine Meets.of_wp fun prog w A R s h=>?_;obtain⟨ht,hR⟩:=h;unfold Builtin.«enumerate.__new__» Builtin.SmallTypes.newClass;refine wpAny_bind (wpAny_bind (wpAny_pure (wpAny_ite_false rfl (wpAny_bind (wpAny_of_eq sub_enumerate (wpAny_ite_false rfl (wpAny_pure (wpAny_ite_true rfl (wpAny_bind ?_)))))))));unfold Builtin.SmallTypes.calledThroughType;refine wpAny_bind (wpAny_stack_any fun st=>wpAny_pure ?_);have fin:wpAny (model prog w) A.in1 (do
   let it <- pyIter (Value.ref t)
   let r <- Builtin.SmallTypes.newRecord (Value.type "enumerate") (Builtin.SmallTypes.ownedTupleFields++[it,rawInt 0,Value.none,Value.none])
   ret r) (fun fin s'=>∃v,fin=Fin.done (Flow.ret v)/\R (Except.ok (Flow.ret v)) s') (fun e s'=>R (Except.error e) s') s:=by
  refine wpAny_bind (wpAny_pyIter_tuple ht ?_);show wpAny _ _ (newObj (.type "enumerate") (.fields #[.none,.bool false,.ref s.heap.objs.size,rawInt 0,.none,.none]) >>= fun r=>ret r) _ _ _;refine wpAny_bind (wpAny_newObj_type ?_);refine wpAny_pure ⟨_,rfl,?_⟩;have e:(s.heap.push { cls:=Value.type "tuple_iterator",data:=Data.fields #[Value.ref t,Value.int 0 0] }).objs.size=s.heap.objs.size+1:=size_push ..;rw[e];exact hR
 dsimp only;split
 ·split
  ·exact wpAny_bind (wpAny_pure fin)
  exact wpAny_bind (wpAny_pure fin)
 split
 ·exact wpAny_bind (wpAny_pure fin)
 exact wpAny_bind (wpAny_pure fin)
theorem ni {prog:Program}{w:World}{A:Around}{E:Value->Shared->Prop}{s:Shared}{it t:Addr}{i:Nat}{items:Array Value}{x:Value}{Q:Value->Shared->Prop}(hit:s.heap.IsTupleIter it t i)(ht:s.heap.IsTuple t items)(hx:items[i]?=some x)
  (hQ:∀h',h'.IsTupleIter it t (i+1)->Heap.SameBut it s.heap h'->Q x { s with heap:=h' }):wpAny (model prog w) A (Builtin.SmallTypes.nextOf (Value.ref it)) Q E s:=by
 obtain⟨o,ho,hc,hd⟩:=id hit;obtain⟨ol,hol,hcl,nl,hdl⟩:=ht;unfold Builtin.SmallTypes.nextOf;refine wpAny_bind (wpAny_callSpecial?_slot hit.typeIs F.slot_tuple_iterator_next (wpAny_call_entry F.slot_tuple_iterator_next hit.typeIs F.entry_tuple_iterator_next ?_ (F.args_tuple_iterator_next_1 _)));refine wpAny_bind (wpAny_pure (wpAny_bind (wpAny_field ho hd (i:=0) rfl ?_)));refine wpAny_ite_false rfl (wpAny_bind (wpAny_field ho hd (i:=1) rfl ?_));refine wpAny_bind (wpAny_seqItems hol hdl ?_);show wpAny _ _ (match items[(i:Int).toNat]? with
  | some x=>(do setField (.ref it) 1 (rawInt ((i:Int)+1));ret x)
  | none=>_) _ _ _
 rw[toNat_natCast,hx];refine wpAny_bind (wpAny_setField ho hd (lt_succ_self 1) (wpAny_pure ⟨x,rfl,wpAny_pure (hQ _ ?_ ?_)⟩))
 ·refine⟨_,get?_update_self _ ho (Obj.isFreed_of_fields (Obj.data_mapFields hd _)),(Obj.cls_mapFields o _).trans hc,?_⟩;rw[Obj.data_mapFields hd];rfl
 exact Heap.SameBut.update s.heap it _
theorem oM {prog:Program}{w:World}{A:Around}{E:Value->Shared->Prop}{s:Shared}{it t:Addr}{i:Nat}{items:Array Value}{Q:Value->Shared->Prop}(hh:A.handled=none)(hit:s.heap.IsTupleIter it t i)(ht:s.heap.IsTuple t items)(hx:items[i]?=none)
  (hE:∀h' e,Heap.ExtBut it s.heap h'->(∃o,h'.get? e=some o/\o.cls=Value.type "StopIteration")->E (.ref e) { s with heap:=h' }):wpAny (model prog w) A (Builtin.SmallTypes.nextOf (Value.ref it)) Q E s:=by
 obtain⟨o,ho,hc,hd⟩:=id hit;obtain⟨ol,hol,hcl,nl,hdl⟩:=ht;unfold Builtin.SmallTypes.nextOf;refine wpAny_bind (wpAny_callSpecial?_slot hit.typeIs F.slot_tuple_iterator_next (wpAny_call_entry F.slot_tuple_iterator_next hit.typeIs F.entry_tuple_iterator_next ?_ (F.args_tuple_iterator_next_1 _)));refine wpAny_bind (wpAny_pure (wpAny_bind (wpAny_field ho hd (i:=0) rfl ?_)));refine wpAny_ite_false rfl (wpAny_bind (wpAny_field ho hd (i:=1) rfl ?_));refine wpAny_bind (wpAny_seqItems hol hdl ?_);show wpAny _ _ (match items[(i:Int).toNat]? with
  | some x=>_
  | none=>(do rule (toString "tuple_iterator.__next__" ++ toString ".end");setField (.ref it) 0 .none;Builtin.SmallTypes.stopIteration)) _ _ _
 rw[toNat_natCast,hx];refine wpAny_bind (wpAny_rule (wpAny_bind (wpAny_setField ho hd (Nat.zero_lt_succ 1) ?_)));unfold Builtin.SmallTypes.stopIteration newExc;refine wpAny_bind (wpAny_bind (wpAny_newObj_type ?_));refine wpAny_bind (wpAny_of_eq (a:=.none) rfl ?_);refine wpAny_newObj_type ?_;refine wpAny_raiseNew_none hh (hE _ _ ?_ ?_)
 ·exact fun b ob hb e=>get?_push_of_some _ (get?_push_of_some _ ((get?_update_other _ _ (Ne.symm hb)).trans e))
 exact⟨_,get?_push_size _ rfl,rfl⟩
theorem pP {prog:Program}{w:World}{A:Around}(hh:A.handled=none)(it t:Addr)(hne:t≠it)(items:Array Value):Draws prog w A it [it,t] items.size (fun i v=>items[i]?=some v) fun i h=>h.IsTupleIter it t i/\h.IsTuple t items where
 live:=fun _ _ st=>by
  obtain⟨⟨o,ho,_⟩,_⟩:=st;exact⟨o,ho⟩
 frame:=fun _ _ _ st hk=>by
  obtain⟨h1,⟨o,e,r⟩⟩:=st;exact⟨h1.at fun o e=>hk it (by simp) o e,o,hk t (by simp) o e,r⟩
 item:=fun i s Q E hi st hQ=>by
  have e:items[i]?=some items[i]:=by simp [hi]
  refine ni st.1 st.2 e fun h' h1 sb=>hQ _ _ s.toks e ⟨h1,?_⟩ sb;obtain⟨o,g,r⟩:=st.2;exact⟨o,(sb.2 t hne).trans g,r⟩
 done:=fun s Q E st hE=>oM hh st.1 st.2 (by simp) hE
noncomputable def Iet (K:PySem.W.Frag)(a:Addr):It:=
 ⟨fun i H=>∃xs x,SqT K H a xs/\xs[i]?=some x,
  fun i H v H'=>∃p x,v=.ref p/\H p=none/\H'=upd H p (.tup [.int (i:Nat),x])/\∀xs,SqT K H a xs->xs[i]?=some x,
  fun i H=>∃xs,SqT K H a xs/\xs.length=i⟩
theorem yc {P:Program}{w:World}{K:PySem.W.Frag}{es:List Expr}{kk:Nat}{tpos:Pos}{e it l:Addr}(hne:e≠it) :
  Turn P w K (.Tuple es kk tpos) (Iet K l) [e,it] e (fun i h=>(∃old,IsEnum h e it ((i:Nat):Int) old)/\h.IsTupleIter it l i) where
 mem:=by simp
 obj:=fun i h st b hb=>by
  obtain⟨⟨old,he⟩,⟨o1,e1,c1,d1⟩⟩:=st;simp only[mem_cons,not_mem_nil,or_false] at hb;rcases hb with rfl|rfl
  ·exact⟨_,he,fun v q=>by cases q⟩
  exact⟨o1,e1,fun v q=>by rw[d1] at q;cases q⟩
 keep:=fun i h h' st k=>by
  obtain⟨⟨old,he⟩,h1⟩:=st;exact⟨⟨old,k e (by simp) _ he⟩,h1.at fun o q=>k it (by simp) o q⟩
 item:=by
  intro X hP hw hK hc i pins s σ H E I hf st hg;subst hP hw hK;obtain⟨xs,x,q1,hx⟩:=hg;obtain⟨its1,rv1,p1,hz1⟩:=I.tuple q1;obtain⟨u1,hu1,ru1⟩:=rv1.get hx;obtain⟨⟨old,he⟩,h1⟩:=st;have hel:e≠l:=fun z=>by
   obtain⟨ol,g1,g2,_⟩:=p1;rw[<- z,he] at g1;cases g1;injection g2 with g2;exact absurd g2 δ
  have hil:l≠it:=fun z=>by
   obtain⟨ol,g1,g2,_⟩:=p1;obtain⟨oi,g3,g4,_⟩:=h1;rw[z,g3] at g1;cases g1;rw[g4] at g2;injection g2 with g2;exact absurd g2 δ
  have hsz1:i<its1.toArray.size:=by
   obtain⟨z,_⟩:=List.getElem?_eq_some_iff.mp hu1;simpa using z
  refine wpAny_pyNext_enum_itemD (pP (A:=X.A.in1) (I.ok.hd hc) it l hil its1.toArray) he ⟨h1,p1⟩ hsz1 hne (by simp [hne,hel]) fun x1 h' tk hP a1 a2 a3 a4 hk=>?_;have ex:x1=u1:=by
   have hP':its1[i]?=some x1:=by simpa using hP
   rw[hu1] at hP';exact(Option.some.inj hP').symm
  subst ex;obtain⟨a2,_⟩:=a2;have new:dU X.prog X.w (upd H s.heap.objs.size (.tup [.int (i:Nat),x])) h' s.heap.objs.size (.tup [.int (i:Nat),x]):=⟨by show 2<=sizeLine;decide,[.int (i:Nat) tk,x1],.cons ⟨_,rfl⟩ (.cons ru1 .nil),_,a3,rfl,_,rfl⟩;have I1:Inv X pins σ (upd H s.heap.objs.size (.tup [.int (i:Nat),x])) { s with heap:=h',toks:=tk+1 }:=I.Kv (ch:=[e,it]) hf
   (fun b o hb q=>hk b o (fun z=>hb (by simp [z])) (fun z=>hb (by simp [z])) q) (le_refl _) new
  have hsz:∀b,b∈[e,it]->b≠s.heap.objs.size:=fun b hb=>by
   have lt:∃o,s.heap.get? b=some o:=by
    simp only[mem_cons,not_mem_nil,or_false] at hb;rcases hb with rfl|rfl
    ·exact⟨_,he⟩
    obtain⟨o,q,_⟩:=h1;exact⟨o,q⟩
   obtain⟨o,q⟩:=lt;exact ne_of_lt (lt_size q)
  refine⟨_,rfl,wpAny_letOwnedTupleGo_enum (s:={ s with heap:=h',toks:=tk+1 }) a1 fun h'' z2 sb=>?_⟩;have fz:=hf e (by simp);have I2:Inv X pins σ (upd H s.heap.objs.size (.tup [.int (i:Nat),x])) { s with heap:=h'',toks:=tk+1 }:=Inv.turned (s:={ s with heap:=h',toks:=tk+1 }) (it:=e) I1 (fun b o hb q=>(sb.2 b hb).trans q) (by rw[aZ (hsz e (by simp))];exact fz.1) fz.2.1 fz.2.2.2.1 fz.2.2.2.2.1 fz.2.2.2.2.2;refine⟨.ref s.heap.objs.size,_,I2,rfl,⟨_,x,rfl,I.fresh,rfl,fun xs' q=>by rw[I.tM q q1];exact hx⟩,
   ⟨⟨_,by simpa using z2⟩,a2.extBut sb.extBut hne.symm⟩,fun b hb=>by rw[aZ (hsz b hb)];exact(hf b hb).1⟩
 done:=by
  intro X hP hw hK hc i pins s σ H E I hf st hg;subst hP hw hK;obtain⟨xs,q1,hx⟩:=hg;obtain⟨its1,rv1,p1,hz1⟩:=I.tuple q1;obtain⟨⟨old,he⟩,h1⟩:=st;have hil:l≠it:=fun z=>by
   obtain⟨ol,g1,g2,_⟩:=p1;obtain⟨oi,g3,g4,_⟩:=h1;rw[z,g3] at g1;cases g1;rw[g4] at g2;injection g2 with g2;exact absurd g2 δ
  have hl1:=rv1.length;have hsi:its1.toArray.size=i:=by rw[size_toArray];omega
  refine wpAny_pyNext_enum_endD (pP (A:=X.A.in1) (I.ok.hd hc) it l hil its1.toArray) he (by rw[hsi];exact⟨h1,p1⟩) fun h' hk=>⟨rfl,?_⟩;exact I.Kw (t':=s.toks) (ch:=[e,it]) hf (fun b o hb q=>hk b o (fun z=>hb (by simp [z])) q)
 self:=fun _ _ _ _ _ st h=>by
  obtain⟨⟨old,he⟩,_⟩:=st;exact wpAny_pyIter_enum he h
noncomputable def ieq (K:PySem.W.Frag)(ob:Option HO)(a:Addr)(H:Hp)(R:It->Hp->Prop):Prop:=match ob with
 | some (.lst _)=>R (Ite K a) H
 | some (.tup _)=>R (Iet K a) H
 | _=>False
noncomputable def ieK (K:PySem.W.Frag)(vs:List V)(H:Hp)(R:It->Hp->Prop):Prop:=match vs with
 | [.ref a]=>ieq K (H a) a H R
 | _=>False
noncomputable def yO (K:PySem.W.Frag)(ta:TA):TI:=fun σ H R=>ta σ H fun vs H1=>ieK K vs H1 R
theorem ug (K:PySem.W.Frag)(ta:TA)(σ:St)(H:Hp)(R:It->Hp->Prop):yO K ta σ H R=ta σ H fun vs H1=>ieK K vs H1 R:=rfl
theorem Ak (K:PySem.W.Frag)(a:Addr)(H:Hp)(R:It->Hp->Prop):ieK K [.ref a] H R=ieq K (H a) a H R:=rfl
theorem Aj (K:PySem.W.Frag)(xs:List V)(a:Addr)(H:Hp)(R:It->Hp->Prop):ieq K (some (.lst xs)) a H R=R (Ite K a) H:=rfl
section
variable {X:Cx}
theorem FJ {es:List Expr}{kk:Nat}{tpos:Pos}{a:Expr}{ta:TA}{p pos:Pos}(hg:Gl X "enumerate") (hm:X.mg "enumerate" = none) (ha:PA X [a] ta) (hs:starEach [a] X.env=[(false,eval a X.env)]:=by rfl) :
  PI X (.Tuple es kk tpos) (.Call (.Name "enumerate" p) [a] [] pos) (yO X.K ta):=by
 intro pins s σ H R I h;refine Call_ (jK I hg hm PyProof.Rows.Boot.«enumerate» (PyProof.Rows.callWith_type1 (thA (ha pos pins s σ H _ I h) fun us s1 vs H1 I1 r1 q1=>?_) hs rfl));replace q1:ieK X.K vs H1 R:=q1;unfold ieK at q1;split at q1
 ·rename_i l1;cases r1 with
  | cons r rr=>
   cases rr;cases r;unfold ieq at q1;split at q1
   ·rename_i xs e;obtain⟨its1,rv1,p1,hz1⟩:=I1.list (SqL.of e);refine call_enumerate_list p1.isList fun h' b1 b2 b3 hk=>?_;refine wpAny_pyIter_enum (s:={ s1 with heap:=h' }) b1 ?_;have I2:Inv X pins σ H1 { s1 with heap:=h' }:=I1.kept (t':=s1.toks) hk;refine⟨_,_,_,_,H1,rfl,I2,Bh (ne_of_gt (lt_succ_self _)),⟨⟨_,b1⟩,b2⟩,fun b hb=>?_,q1⟩;have hle:s1.heap.objs.size<=b:=by
     simp only[mem_cons,not_mem_nil,or_false] at hb;rcases hb with rfl|rfl <;> simp
    exact I1.G6 hle (I1.hok.fresh hle)
   ·rename_i xs e;obtain⟨its1,rv1,p1,hz1⟩:=I1.tuple (SqT.of e);refine callType_new F.called_enumerate δ (F.typeCall_enumerate_1 _) (F.newCall_enumerate_1 _) (fun obj=>F.args_object_init_2 obj _) F.entry_enumerate_new (Cv l1 its1.toArray) ⟨p1,?_⟩;have hz:(s1.heap.push { cls:=Value.type "tuple_iterator",data:=Data.fields #[Value.ref l1,Value.int 0 0] }).objs.size=s1.heap.objs.size+1:=size_push ..;have b1:((s1.heap.push { cls:=Value.type "tuple_iterator",data:=Data.fields #[Value.ref l1,Value.int 0 0] }).push { cls:=Value.type "enumerate",data:=Data.fields #[Value.none,Value.bool false,Value.ref s1.heap.objs.size,rawInt 0,Value.none,Value.none] }).get? (s1.heap.objs.size+1)=some { cls:=Value.type "enumerate",data:=Data.fields #[Value.none,Value.bool false,Value.ref s1.heap.objs.size,rawInt 0,Value.none,Value.none] }:=by
     rw[<- hz];exact get?_push_size _ rfl
    have b2:((s1.heap.push { cls:=Value.type "tuple_iterator",data:=Data.fields #[Value.ref l1,Value.int 0 0] }).push { cls:=Value.type "enumerate",data:=Data.fields #[Value.none,Value.bool false,Value.ref s1.heap.objs.size,rawInt 0,Value.none,Value.none] }).IsTupleIter s1.heap.objs.size l1 0:=
     ⟨_,get?_push_of_some _ (get?_push_size _ rfl),rfl,rfl⟩
    have hk:∀b o,s1.heap.get? b=some o->((s1.heap.push { cls:=Value.type "tuple_iterator",data:=Data.fields #[Value.ref l1,Value.int 0 0] }).push { cls:=Value.type "enumerate",data:=Data.fields #[Value.none,Value.bool false,Value.ref s1.heap.objs.size,rawInt 0,Value.none,Value.none] }).get? b=some o:=fun b o z=>get?_push_of_some _ (get?_push_of_some _ z);refine⟨⟨_,b1,rfl⟩,?_⟩;generalize (s1.heap.push { cls:=Value.type "tuple_iterator",data:=Data.fields #[Value.ref l1,Value.int 0 0] }).push { cls:=Value.type "enumerate",data:=Data.fields #[Value.none,Value.bool false,Value.ref s1.heap.objs.size,rawInt 0,Value.none,Value.none] }=h' at b1 b2 hk;refine wpAny_pyIter_enum (s:={ s1 with heap:=h' }) b1 ?_;have I2:Inv X pins σ H1 { s1 with heap:=h' }:=I1.kept (t':=s1.toks) hk;refine⟨_,_,_,_,H1,rfl,I2,yc (ne_of_gt (lt_succ_self _)),⟨⟨_,b1⟩,b2⟩,fun b hb=>?_,q1⟩;have hle:s1.heap.objs.size<=b:=by
     simp only[mem_cons,not_mem_nil,or_false] at hb;rcases hb with rfl|rfl <;> simp
    exact I1.G6 hle (I1.hok.fresh hle)
   exact q1.elim
 exact q1.elim
theorem wj {es:List Expr}{kk:Nat}{tpos:Pos}{a:Expr}{ta:TA}{p pos:Pos}(hg:Gl X "enumerate") (hm:X.mg "enumerate" = none) (ha:QA X [a] ta) (hs:starEach [a] X.env=[(false,eval a X.env)]:=by rfl) :
  QI X (.Tuple es kk tpos) (.Call (.Name "enumerate" p) [a] [] pos) (yO X.K ta):=⟨FJ hg hm ha.h hs⟩
end
section
variable {X:Cx}{e o:Expr}{te to:TE}{pos:Pos}
noncomputable def exq (ob oc:Option HO)(l:Addr)(H:Hp)(Q:VK):Prop:=match ob,oc with
 | some (.lst xs),some (.lst zs)=>xs.length+zs.length<=sizeLine/\Q .non (upd H l (.lst (xs++zs)))
 | _,_=>False
noncomputable def Hf (l:Addr)(y:V)(H:Hp)(Q:VK):Prop:=match y with
 | .ref b=>exq (H l) (H b) l H Q
 | _=>False
noncomputable def exK (x:V)(te:TE)(σ:St)(H1:Hp)(Q:VK):Prop:=match x with
 | .ref l=>isq (H1 l)/\te σ H1 fun y H2=>Hf l y H2 Q
 | _=>False
noncomputable def DG (to te:TE):TE:=fun σ H Q=>to σ H fun x H1=>exK x te σ H1 Q
theorem Dz (to te:TE)(σ:St)(H:Hp)(Q:VK):DG to te σ H Q=to σ H fun x H1=>exK x te σ H1 Q:=rfl
theorem Kh (l:Addr)(te:TE)(σ:St)(H1:Hp)(Q:VK):exK (.ref l) te σ H1 Q=(isq (H1 l)/\te σ H1 fun y H2=>Hf l y H2 Q):=rfl
theorem G9 (l b:Addr)(H:Hp)(Q:VK):Hf l (.ref b) H Q=exq (H l) (H b) l H Q:=rfl
theorem Ny (xs zs:List V)(l:Addr)(H:Hp)(Q:VK):exq (some (.lst xs)) (some (.lst zs)) l H Q=(xs.length+zs.length<=sizeLine/\Q .non (upd H l (.lst (xs++zs)))):=rfl
theorem Jw {apos cpos:Pos}(ho:PE X o to)(he:PE X e te)
  (hbase:attributeBase o "extend" X.env (eval o X.env)=eval o X.env:=by rfl)
  (hfew:((backTo cpos (starEach [e] X.env)).all (fun x=>!x.1)&&(backToKw cpos (keywordEach [] X.env)).all (fun x=>x.1.isSome)
   && decide ([e].length+([]:List Keyword).length+(if ([]:List Keyword).isEmpty then 0 else 1)<30))=true:=by rfl)
  (hline:(apos.endLine == cpos.line)=true:=by rfl) (hs:starEach [e] X.env=(false,eval e X.env)::starEach [] X.env:=by rfl) (hplain:(backTo cpos (starEach [] X.env)).any (·.1)=false:=by rfl) :
  PE X (.Call (.Attribute o "extend" apos) [e] [] cpos) (DG to te):=by
 intro pins s σ H Q I h;refine wpAny_Call_method_late hbase hfew hline rfl (thE (ho pins s σ H _ I h) fun v s1 x H1 I1 r1 q=>?_);cases x with
 | ref l=>
  obtain⟨q1,q2⟩:=q;cases el:H1 l with
  | none=>rw[el] at q1;exact q1.elim
  | some ob=>
   cases ob with
   | lst xs=>
    obtain⟨h1,h2⟩:=uG (T := "list") I1 r1 (.inl ⟨rfl,xs,SqL.of el⟩);refine⟨"list","list.extend",PySem.F.plainAttrs_list,PySem.F.slot_list_extend,PySem.F.type_list_extend,h1,h2,?_⟩;rw[hs];refine Calls.callWith_builtin (by show(false||(backTo cpos (starEach [] X.env)).any (·.1))=false;rw[hplain] <;> rfl) (Calls.evalArgs_plain ?_)
    refine Calls.spliced_cons (thE (he pins s1 σ H1 _ I1 q2) fun u s2 y H2 I2 r2 q3=>Calls.spliced_nil ?_);replace q3:Hf l y H2 Q:=q3;unfold Hf at q3;split at q3
    ·rename_i b;unfold exq at q3;split at q3
     ·rename_i ys zs e1 e2;exact Ca pins s2 σ H2 (.ref l) [.ref b] v [u] Q I2 r1 (.cons r2 .nil) ⟨l,b,ys,zs,rfl,rfl,e1,e2,q3.1,q3.2⟩
     exact q3.elim
    exact q3.elim
   | _=>rw[el] at q1;exact q1.elim
 | _=>exact q.elim
theorem Ja {apos cpos:Pos}(ho:QE X o to)(he:QE X e te)
  (hbase:attributeBase o "extend" X.env (eval o X.env)=eval o X.env:=by rfl)
  (hfew:((backTo cpos (starEach [e] X.env)).all (fun x=>!x.1)&&(backToKw cpos (keywordEach [] X.env)).all (fun x=>x.1.isSome)
   && decide ([e].length+([]:List Keyword).length+(if ([]:List Keyword).isEmpty then 0 else 1)<30))=true:=by rfl)
  (hline:(apos.endLine == cpos.line)=true:=by rfl) (hs:starEach [e] X.env=(false,eval e X.env)::starEach [] X.env:=by rfl) (hplain:(backTo cpos (starEach [] X.env)).any (·.1)=false:=by rfl) :
  QE X (.Call (.Attribute o "extend" apos) [e] [] cpos) (DG to te):=⟨Jw ho.h he.h hbase hfew hline hs hplain⟩
end
mutual
noncomputable def szD (a:Nat):PyData->Prop
 | .none=>True
 | .bool _=>True
 | .int i=>i.natAbs<=10^20*2^a
 | .str x=>x.length<=30+a/\∀c∈x.cps.toList,c<16^8
 | .list ds=>ds.length<=210*5^a/\DR a ds
 | .tuple ds=>ds.length<=210*5^a/\DR a ds
 | .dict _=>False
noncomputable def DR (a:Nat):List PyData->Prop
 | []=>True
 | d::ds=>szD a d/\DR a ds
end
theorem oG {H H':Hp}{l:Addr}{o:HO}(s:Same H H')(h:H l=none):Same H (upd H' l o):=fun b u e=>by
 rw[aZ (aM e h)];exact s b u e
theorem gh.new {ok:Addr->Prop}{H:Hp}(n:gh ok H){q:Addr}(h:H q=none):ok q:=n H q (Same.refl _) h
theorem J2 {α:Type}(xs:List α)(h:1<=xs.length):∃(i:Nat)(x:α),xs[i]?=some x/\atI xs (-1)=some x:=by
 have h1:xs.length-1<xs.length:=ω;refine⟨xs.length-1,xs[xs.length-1],getElem?_eq_getElem h1,?_⟩;unfold atI ixN;rw[if_neg δ,if_pos ω];show xs[_]?=_;rw[show(-1+(xs.length:Int)).toNat=xs.length-1 by omega];exact getElem?_eq_getElem h1
section
variable {X:Cx}{a:Expr}{ta:TE}
noncomputable def trq (ob:Option HO)(H:Hp)(Q:Bool->Hp->Prop):Prop:=match ob with
 | some (.lst xs)=>Q (!xs.isEmpty) H
 | some (.tup xs)=>Q (!xs.isEmpty) H
 | _=>False
noncomputable def KR (x:V)(H:Hp)(Q:Bool->Hp->Prop):Prop:=match x with
 | .ref p=>trq (H p) H Q
 | .bl b=>Q b H
 | .int i=>Q (i != 0) H
 | .non=>Q false H
 | _=>False
noncomputable def KY (te:TE):TT:=fun σ H Q=>te σ H fun x H1=>KR x H1 Q
theorem HW (te:TE)(σ:St)(H:Hp)(Q:Bool->Hp->Prop):KY te σ H Q=te σ H fun x H1=>KR x H1 Q:=rfl
theorem Dk (p:Addr)(H:Hp)(Q:Bool->Hp->Prop):KR (.ref p) H Q=trq (H p) H Q:=rfl
theorem HN (xs:List V)(H:Hp)(Q:Bool->Hp->Prop):trq (some (.lst xs)) H Q=Q (!xs.isEmpty) H:=rfl
theorem HJ (xs:List V)(H:Hp)(Q:Bool->Hp->Prop):trq (some (.tup xs)) H Q=Q (!xs.isEmpty) H:=rfl
theorem Lp (ha:PE X a ta)(he:∀whole,isTrue a X.env whole=(do let v <- whole;standAt a.pos;holding [v] (truthy v))):PT X a (KY ta):=by
 intro pins s σ H Q I h;refine isTrue_plain (thE (ha pins s σ H _ I h) fun v s1 x H1 I1 r1 q1=>KQ pins s1 σ H1 x v Q I1 r1 ?_) (he _);cases x with
 | ref p=>
  replace q1:trq (H1 p) H1 Q:=q1;unfold trq at q1;split at q1
  ·rename_i xs e;exact⟨_,.inl ⟨xs,SqL.of e,rfl⟩,q1⟩
  ·rename_i xs e;exact⟨_,.inr (.inl ⟨xs,SqT.of e,rfl⟩),q1⟩
  exact q1.elim
 | bl b=>exact⟨_,rfl,q1⟩
 | int i=>exact⟨_,rfl,q1⟩
 | non=>exact⟨_,rfl,q1⟩
 | _=>exact(show False from q1).elim
theorem Fl (h:QE X a ta)(he:∀whole,isTrue a X.env whole=(do let v <- whole;standAt a.pos;holding [v] (truthy v)):=by intro _;rfl):QT X a (KY ta):=⟨Lp h.h he⟩
noncomputable def PK:R2:=fun x y H Q=>∃p q xs,x=.ref p/\y=.ref q/\H p=some (.lst xs)/\H q=some (.lst [])/\Q (.bl xs.isEmpty) H
noncomputable def Px:R2:=fun x y H Q=>∃p q xs,x=.ref p/\y=.ref q/\H p=some (.lst xs)/\H q=some (.lst [])/\Q (.bl (!xs.isEmpty)) H
noncomputable def Pu:R2:=fun x y H Q=>∃p q xs,x=.ref p/\y=.ref q/\H p=some (.lst xs)/\H q=some (.lst xs)/\(∀x∈xs,∃a,x=V.ref a)/\Q (.bl false) H
theorem Mw (hu:X.A.units<cLine):OpR X (compareOp .Eq) PK:=by
 intro pins s σ H x y v u Q I rx ry h;obtain⟨p,q,xs,rfl,rfl,e1,e2,qq⟩:=h;cases rx;cases ry;obtain⟨its1,r1,pl1,hz1⟩:=I.list (SqL.of e1);obtain⟨its2,r2,pl2,hz2⟩:=I.list (SqL.of e2);cases r2;cases xs with
 | nil=>
  cases r1;exact SeqAt.RcAt.lists (e:=fun _=>true) pl1.isList pl2.isList rfl hu (fun j h1 h2=>absurd h2 (not_lt_zero _)) X.prog X.w X.xe (EP X pins σ Q) ⟨.bl true,H,I,rfl,qq⟩
 | cons a b=>
  cases r1;exact SeqAt.RcAt.lists_lengths pl1.isList pl2.isList (by simp) hu X.prog X.w X.xe (EP X pins σ Q) ⟨.bl false,H,I,rfl,qq⟩
theorem yw (hu:X.A.units<cLine):OpR X (compareOp .NotEq) Px:=by
 intro pins s σ H x y v u Q I rx ry h;obtain⟨p,q,xs,rfl,rfl,e1,e2,qq⟩:=h;cases rx;cases ry;obtain⟨its1,r1,pl1,hz1⟩:=I.list (SqL.of e1);obtain⟨its2,r2,pl2,hz2⟩:=I.list (SqL.of e2);cases r2;cases xs with
 | nil=>
  cases r1;exact SeqAt.RcNeAt.lists (e:=fun _=>true) pl1.isList pl2.isList rfl hu (fun j h1 h2=>absurd h2 (not_lt_zero _)) X.prog X.w X.xe (EP X pins σ Q) ⟨.bl false,H,I,rfl,qq⟩
 | cons a b=>
  cases r1;exact SeqAt.RcNeAt.lists_lengths pl1.isList pl2.isList (by simp) hu X.prog X.w X.xe (EP X pins σ Q) ⟨.bl true,H,I,rfl,qq⟩
theorem Mr (hu:X.A.units<cLine):OpR X (compareOp .NotEq) Pu:=by
 intro pins s σ H x y v u Q I rx ry h;obtain⟨p,q,xs,rfl,rfl,e1,e2,hr,qq⟩:=h;cases rx;cases ry;obtain⟨its1,r1,pl1,hz1⟩:=I.list (SqL.of e1);obtain⟨its2,r2,pl2,hz2⟩:=I.list (SqL.of e2);have l1:=r1.length;have l2:=r2.length;refine SeqAt.RcNeAt.lists (e:=fun _=>true) pl1.isList pl2.isList (by simp only[size_toArray];omega) hu (fun j h1 h2=>?_) X.prog X.w X.xe (EP X pins σ Q) ⟨.bl false,H,I,?_,qq⟩
 ·have j1:j<xs.length:=by simp only[size_toArray] at h1;omega
  have g1:xs[j]?=some xs[j]:=getElem?_eq_getElem j1;obtain⟨u1,hu1,ru1⟩:=r1.get g1;obtain⟨u2,hu2,ru2⟩:=r2.get g1;have k1:its1.toArray[j]=u1:=by
   obtain⟨_,z⟩:=List.getElem?_eq_some_iff.mp hu1;simpa using z
  have k2:its2.toArray[j]=u2:=by
   obtain⟨_,z⟩:=List.getElem?_eq_some_iff.mp hu2;simpa using z
  rw[k1,k2];obtain⟨a,ea⟩:=hr xs[j] (getElem_mem j1);rw[ea] at ru1 ru2;cases ru1;cases ru2;exact SeqAt.EqAt.same _
 show Value.bool _=Value.bool _;congr 1;simp
end
noncomputable def stD (s:Int×Int×Int):PyData:=.tuple [.int s.1,.int s.2.1,.int s.2.2]
theorem aF.st {ok:Addr->Prop}{H:Hp}{x:V}{s:Int×Int×Int}(t:aF ok H x (stD s)):∃a,x=.ref a/\ok a/\H a=some (.tup [.int s.1,.int s.2.1,.int s.2.2]):=by
 cases t with
 | tup o e z ts=>
  rename_i p xs;refine⟨p,rfl,o,?_⟩;cases ts with
  | cons t1 ts=>
   cases t1;cases ts with
   | cons t2 ts=>
    cases t2;cases ts with
    | cons t3 ts=>
     cases t3;cases ts;exact e
theorem aJ.st {ok:Addr->Prop}{H:Hp}{xs:List V}{ss:List (Int×Int×Int)}{i:Nat}{x:V}(t:aJ ok H xs (ss.map stD))(h:xs[i]?=some x):∃a s,x=.ref a/\ok a/\ss[i]?=some s/\H a=some (.tup [.int s.1,.int s.2.1,.int s.2.2]):=by
 obtain⟨d,hd,td⟩:=t.get h;rw[getElem?_map] at hd;cases hs:ss[i]? with
 | none=>rw[hs] at hd;cases hd
 | some s=>
  rw[hs] at hd;cases hd;obtain⟨a,h1,h2,h3⟩:=td.st;exact⟨a,s,h1,h2,rfl,h3⟩
theorem j9 {is:List Int}{r:Int}(h0:0<=r)(h:r<is.length):∃i,i∈is/\atI (is.map V.int) r=some (.int i):=by
 have h1:r.toNat<is.length:=ω;refine⟨is[r.toNat],getElem_mem h1,?_⟩;unfold atI;rw[J4 h0 (by rw[length_map];omega)];show(is.map V.int)[r.toNat]?=_;rw[getElem?_map,getElem?_eq_getElem h1];rfl
structure mj (ss:List (Int×Int×Int)):Prop where
 lh:∀(i:Nat) s,ss[i]?=some s->s.1<=s.2.1/\0<=s.2.2/\s.2.2<=9
 nx:∀(i:Nat) s t,ss[i]?=some s->ss[i+1]?=some t->t.1=s.2.1+1
 bd:∀(i:Nat) s,ss[i]?=some s->-(10^12)<=s.1/\s.2.1<=10^9+(10^12+10)*(i+1)
theorem mj.nil:mj []:=⟨fun i s h=>(by cases h),fun i s t h=>(by cases h),fun i s h=>(by cases h)⟩
theorem mj.snoc {ss:List (Int×Int×Int)}(h:mj ss){lo hi b:Int}(h1:lo<=hi)(h2:0<=b/\b<=9)(h3:-(10^12)<=lo/\hi<=10^9+(10^12+10)*(ss.length+1))(h4:∀s,ss[ss.length-1]?=some s->lo=s.2.1+1):mj (ss++[(lo,hi,b)]):=by
 have get:∀(i:Nat) s,(ss++[(lo,hi,b)])[i]?=some s->(i<ss.length/\ss[i]?=some s)\/(i=ss.length/\s=(lo,hi,b)):=fun i s e=>by
  rcases lt_or_ge i ss.length with z|z
  ·rw[List.getElem?_append_left z] at e;exact .inl ⟨z,e⟩
  rw[getElem?_append_right z] at e;cases hk:i-ss.length with
  | zero=>rw[hk] at e;cases e;exact .inr ⟨ω,rfl⟩
  | succ k=>rw[hk] at e;cases e
 refine⟨fun i s e=>?_,fun i s t e1 e2=>?_,fun i s e=>?_⟩
 ·rcases get i s e with⟨z,e⟩|⟨z,rfl⟩
  ·exact h.lh i s e
  exact⟨h1,h2.1,h2.2⟩
 ·rcases get i s e1 with⟨z,e1⟩|⟨z,rfl⟩
  ·rcases get (i+1) t e2 with⟨z2,e2⟩|⟨z2,rfl⟩
   ·exact h.nx i s t e1 e2
   exact h4 s (by rw[show ss.length-1=i by omega];exact e1)
  rcases get (i+1) t e2 with⟨z2,e2⟩|⟨z2,rfl⟩ <;> omega
 rcases get i s e with⟨z,e⟩|⟨z,rfl⟩
 ·exact h.bd i s e
 rw[z];exact h3
structure M1 (X:Cx)(o:Expr)(m:Str)(apos:Pos)(e:Expr)(cpos:Pos):Prop where
 base:attributeBase o m X.env (eval o X.env)=eval o X.env
 few:((backTo cpos (starEach [e] X.env)).all (fun x=>!x.1)&&(backToKw cpos (keywordEach [] X.env)).all (fun x=>x.1.isSome)
  && decide (([e]:List Expr).length+([]:List Keyword).length+(if ([]:List Keyword).isEmpty then 0 else 1)<30))=true
 line:(apos.endLine == cpos.line)=true
 trees:backTo cpos (starEach [e] X.env)=[(false,eval e X.env)]
theorem iT.un1 {k:Nat}{A:Around}(r:iT k A):A.in1.units<cLine:=by
 have:=r.un;show A.units+1<cLine;omega
section
variable {X:Cx}{pos:Pos}
noncomputable def PB:R2:=fun x y H Q=>∃(p:Addr)(ws:List Str)(d:PyData)(ok:Addr->Prop),y=.ref p/\H p=some (.tup (ws.map V.str))/\aF ok H x d/\Q (.bl (ws.any (kZ d))) H
theorem Mt (hu:X.A.in1.units<cLine):OpR X (compareOp .In) PB:=by
 intro pins s σ H x y v u Q I rx ry h;obtain⟨p,ws,d,ok,rfl,e,t,q⟩:=h;cases ry;obtain⟨its,r,pl,hz⟩:=I.tuple (SqT.of e);have key:∀u∈its,∃y t,u=Value.str y t:=fun u hu=>by
  obtain⟨j,hj,ej⟩:=mem_iff_getElem.mp hu;have hl:=r.length;have hx:(ws.map V.str)[j]?=some (ws.map V.str)[j]:=getElem?_eq_getElem ω;obtain⟨u',hu',ru⟩:=r.get hx;rw[getElem?_eq_getElem hj,ej] at hu';cases hu';rw[List.getElem_map] at ru;obtain⟨t,e⟩:=ru;exact⟨_,t,e⟩
 let g:Value->Bool:=fun u=>match u with | .str y _=>kZ d y|_=>false
 refine SeqAt.in_tupleAt g pl (fun w hw=>?_) ⟨.bl _,H,I,rfl,?_⟩
 ·obtain⟨y,t',rfl⟩:=key w (by simpa using hw);cases t with
  | non=>cases rx;exact SeqAt.EqAt.str_none y t'
  | bl b=>cases rx;exact SeqAt.EqAt.str_bool y t' b
  | int i=>obtain⟨t2,rfl⟩:=rx;exact SeqAt.EqAt.str_int y t' i t2
  | str z=>
   obtain⟨t2,rfl⟩:=rx;have h2:=SeqAt.EqAt.str_str (A:=X.A.in1) (s:=s) y t' z t2;have e3:(y == z)=kZ (.str z) y:=by
    show(y == z)=decide (z=y);rw[Bool.beq_eq_decide_eq];exact decide_eq_decide.mpr ⟨Eq.symm,Eq.symm⟩
   rw[e3] at h2;exact h2
  | lst o e1 z1 ts=>
   cases rx;obtain⟨its1,r1,pl1,hz1⟩:=I.list (SqL.of e1);exact SeqAt.EqAt.str_list y t' pl1.isList hu
  | tup o e1 z1 ts=>
   cases rx;obtain⟨its1,r1,pl1,hz1⟩:=I.tuple (SqT.of e1);exact SeqAt.EqAt.str_tuple y t' pl1 hu
 have:∀(ws:List Str)(its:List Value),Vals (ws.map V.str) its->its.any g=ws.any (kZ d):=by
  intro ws
  induction ws with
  | nil=>intro its r;cases r;rfl
  | cons a ws ih=>
   intro its r;cases r with
   | cons r1 r2=>
    obtain⟨t1,rfl⟩:=r1;rw[any_cons,any_cons,ih _ r2]
 rw[show its.toArray.any g=its.any g by simp,this ws its r];exact q
end
theorem aJ.ints {ok:Addr->Prop}{H:Hp}:∀{xs:List V}{is:List Int},aJ ok H xs (is.map PyData.int)->xs=is.map V.int
 | _,[],.nil=>rfl
 | _,i::is,.cons h r=>by
  cases h;rw[r.ints];rfl
noncomputable def PJ:R2:=fun x y H Q=>∃p q xs,x=.ref p/\y=.ref q/\H p=some (.tup xs)/\H q=some (.tup [])/\Q (.bl xs.isEmpty) H
theorem Mv {X:Cx}(hu:X.A.units<cLine):OpR X (compareOp .Eq) PJ:=by
 intro pins s σ H x y v u Q I rx ry h;obtain⟨p,q,xs,rfl,rfl,e1,e2,qq⟩:=h;cases rx;cases ry;obtain⟨its1,r1,pl1,hz1⟩:=I.tuple (SqT.of e1);obtain⟨its2,r2,pl2,hz2⟩:=I.tuple (SqT.of e2);cases r2;refine SeqAt.RcAt.tuples (e:=fun _=>true) pl1 pl2 hu (fun j h1 h2=>absurd h2 (not_lt_zero _)) X.prog X.w X.xe (EP X pins σ Q) ?_;have hl:=r1.length;refine⟨.bl xs.isEmpty,H,I,?_,qq⟩;show Value.bool _=Value.bool _;congr 1;rw[size_toArray,size_toArray];cases xs with
 | nil=>
  cases r1;rfl
 | cons a b=>
  cases r1;rfl
theorem wF:(("is" : Str) = "below")=False:=eq_false ψ
theorem yE:(("is" : Str) = "mask")=False:=eq_false ψ
theorem yD:(("is" : Str) = "pick")=False:=eq_false ψ
theorem wC:(("is" : Str) = "table")=False:=eq_false ψ
theorem pY:(("within" : Str) = "below")=False:=eq_false ψ
theorem qK:(("within" : Str) = "mask")=False:=eq_false ψ
theorem qJ:(("within" : Str) = "pick")=False:=eq_false ψ
theorem pX:(("within" : Str) = "table")=False:=eq_false ψ
theorem sS:(("below" : Str) = "pick")=False:=eq_false ψ
theorem qM:(("below" : Str) = "table")=False:=eq_false ψ
theorem sO:(("mask" : Str) = "below")=False:=eq_false ψ
theorem uW:(("mask" : Str) = "pick")=False:=eq_false ψ
theorem sJ:(("mask" : Str) = "table")=False:=eq_false ψ
theorem sI:(("pick" : Str) = "below")=False:=eq_false ψ
theorem uV:(("pick" : Str) = "mask")=False:=eq_false ψ
theorem sH:(("pick" : Str) = "table")=False:=eq_false ψ
theorem qL:(("table" : Str) = "below")=False:=eq_false ψ
theorem sG:(("table" : Str) = "mask")=False:=eq_false ψ
noncomputable def rdW:=And.intro @wF (And.intro @yE (And.intro @yD (And.intro @wC (And.intro @pY (And.intro @qK (And.intro @qJ (And.intro @pX (And.intro @sS (And.intro @qM (And.intro @sO (And.intro @uW (And.intro @sJ (And.intro @sI (And.intro @uV (And.intro @sH (And.intro @qL @sG))))))))))))))))
theorem jk {H:Hp}{l p:Addr}{o:HO}(h:upd H l o p=none):H p=none/\p≠l:=by
 have hp:p≠l:=fun z=>by rw[z,aB] at h;cases h
 rw[aZ hp] at h;exact⟨h,hp⟩
theorem Same.none {H H':Hp}(s:Same H H'){p:Addr}(h:H' p=none):H p=none:=by
 cases e:H p with
 | none=>rfl
 | some o=>rw[s _ _ e] at h;cases h
mutual
noncomputable def szB:PyData->Bool
 | .none=>true
 | .bool _=>true
 | .int i=>decide (i.natAbs<=10^20)
 | .str x=>decide (x.length<=30)&&x.cps.toList.all fun c=>decide (c<16^8)
 | .list ds=>decide (ds.length<=210)&&K3 ds
 | .tuple ds=>decide (ds.length<=210)&&K3 ds
 | .dict _=>false
noncomputable def K3:List PyData->Bool
 | []=>true
 | d::ds=>szB d&&K3 ds
end
inductive RowC where
 | one (n t:Int)
 | rng (a b t:Int)
 | low (n t:Int)
 | msk (lo wd bits t:Int)
 | tab (lo:Int) (gs:List Int)
 | pik (l:Int)
noncomputable def scV:PyData->Option V
 | .int i=>some (.int i)
 | .str z=>some (.str z)
 | _=>none
theorem aF.sc {ok:Addr->Prop}{H:Hp}{x v:V}{d:PyData}(t:aF ok H x d)(h:scV d=some v):x=v:=by
 cases t with
 | int i=>exact Option.some.inj h
 | str z=>exact Option.some.inj h
 | _=>cases h
theorem aJ.sc {ok:Addr->Prop}{H:Hp}:∀{xs vs:List V}{ds:List PyData},aJ ok H xs ds->ds.map scV=vs.map some->xs=vs
 | _,[],_,.nil,_=>rfl
 | _,v::vs,_,.nil,h=>by cases h
 | _,[],_,.cons _ _,h=>by cases h
 | _,v::vs,_,.cons t ts,h=>by
  rw[map_cons,map_cons] at h;injection h with h1 h2;rw[t.sc h1,ts.sc h2]
theorem aJ.uncons {ok:Addr->Prop}{H:Hp}{xs:List V}{d:PyData}{ds:List PyData}(t:aJ ok H xs (d::ds)):∃x r,xs=x::r/\aF ok H x d/\aJ ok H r ds:=by
 cases t with
 | cons h r=>exact⟨_,_,rfl,h,r⟩
theorem aF.tupOf {ok:Addr->Prop}{H:Hp}{x:V}{ds:List PyData}(t:aF ok H x (.tuple ds)):∃p xs,x=.ref p/\H p=some (.tup xs)/\aJ ok H xs ds:=by
 cases t with
 | tup o e z ts=>exact⟨_,_,rfl,e,ts⟩
theorem Ci (pre:List Int)(j:Int):atI ((pre++[j]).map V.int) (-1)=some (V.int j):=by
 unfold atI ixN;rw[if_neg δ,if_pos (by rw[length_map,length_append,length_singleton];omega)];show((pre++[j]).map V.int)[_]?=_;rw[show(-1+(((pre++[j]).map V.int).length:Int)).toNat=pre.length by rw[length_map,length_append,length_singleton];omega,getElem?_map,getElem?_append_right (le_refl _),sub_self];rfl
section
variable {X:Cx}{e o:Expr}{te to:TE}{pos:Pos}
noncomputable def ppq (ob:Option HO)(l:Addr)(H:Hp)(Q:VK):Prop:=match ob with
 | some (.lst xs)=>∃y,xs[xs.length-1]?=some y/\Q y (upd H l (.lst xs.dropLast))
 | _=>False
noncomputable def ppK (x:V)(H:Hp)(Q:VK):Prop:=match x with
 | .ref l=>ppq (H l) l H Q
 | _=>False
noncomputable def Ds (to:TE):TE:=fun σ H Q=>to σ H fun x H1=>ppK x H1 Q
theorem Dr (to:TE)(σ:St)(H:Hp)(Q:VK):Ds to σ H Q=to σ H fun x H1=>ppK x H1 Q:=rfl
theorem Jk (l:Addr)(H:Hp)(Q:VK):ppK (.ref l) H Q=ppq (H l) l H Q:=rfl
theorem Jj (xs:List V)(l:Addr)(H:Hp)(Q:VK):ppq (some (.lst xs)) l H Q=∃y,xs[xs.length-1]?=some y/\Q y (upd H l (.lst xs.dropLast)):=rfl
theorem Ju {apos cpos:Pos}(ho:PE X o to) (hbase:attributeBase o "pop" X.env (eval o X.env)=eval o X.env:=by rfl) (hline:(apos.endLine == cpos.line)=true:=by rfl) :
  PE X (.Call (.Attribute o "pop" apos) [] [] cpos) (Ds to):=by
 intro pins s σ H Q I h;refine wpAny_Call_method0_late hbase hline (thE (ho pins s σ H _ I h) fun v s1 x H1 I1 r1 q=>?_);cases x with
 | ref l=>
  replace q:ppq (H1 l) l H1 Q:=q;cases el:H1 l with
  | none=>rw[el] at q;exact q.elim
  | some ob=>
   cases ob with
   | lst xs=>
    rw[el] at q;obtain⟨y,hy,q⟩:=q;obtain⟨h1,h2⟩:=uG (T := "list") I1 r1 (.inl ⟨rfl,xs,SqL.of el⟩);exact⟨"list","list.pop",PySem.F.plainAttrs_list,PySem.F.slot_list_pop,PySem.F.type_list_pop,h1,h2,Calls.callWith_builtin rfl (PySem.evalArgs_none (M5 pins s1 σ H1 (.ref l) [] v [] Q I1 r1 .nil ⟨l,xs,y,rfl,rfl,el,hy,q⟩))⟩
   | _=>rw[el] at q;exact q.elim
 | _=>exact q.elim
theorem IW {apos cpos:Pos}(ho:QE X o to) (hbase:attributeBase o "pop" X.env (eval o X.env)=eval o X.env:=by rfl) (hline:(apos.endLine == cpos.line)=true:=by rfl) :
  QE X (.Call (.Attribute o "pop" apos) [] [] cpos) (Ds to):=⟨Ju ho.h hbase hline⟩
noncomputable def ints1 (H:Hp)(p:Addr)(is:List Int):Prop:=H p=some (.lst (is.map V.int))\/H p=some (.tup (is.map V.int))
theorem gj {is:List Int}{its:List Value}(r:Vals (is.map V.int) its)(i:Nat)(v:Value)(h:its.toArray[i]?=some v):∃t,v=Value.int (is.getD i 0) t:=by
 have hl:=r.length;rw[length_map] at hl;have hi:i<its.length:=by
  rcases lt_or_ge i its.length with z|z
  ·exact z
  rw[getElem?_toArray,List.getElem?_eq_none z] at h;cases h
 have hx:(is.map V.int)[i]?=some (V.int (is.getD i 0)):=by
  rw[getElem?_map,getElem?_eq_getElem ω,getD_eq_getElem?_getD,getElem?_eq_getElem ω];rfl
 obtain⟨u,hu,ru⟩:=r.get hx;rw[getElem?_toArray,hu] at h;cases h;exact ru
theorem CP (hc:X.calm=true):eE X (.builtin "min") (fun xs H Q=>∃p is,xs=[.ref p]/\ints1 H p is/\is≠[]/\∀M,M∈is->(∀a∈is,M<=a)->Q (.int M) H):=by
 intro pins s σ H xs us Q I r h;obtain⟨p,is,rfl,hp,hne,q⟩:=h;obtain⟨u,rfl,rv⟩:=vals1 r;cases rv;have hpos:0<is.length:=length_pos_iff.mpr hne;have fin:∀{its:List Value}(rvs:Vals (is.map V.int) its) (v:Value) (h':Heap) (tk:Nat),its.toArray[argBest (fun i j=>decide (is.getD i 0<is.getD j 0)) (its.toArray.size-1)]?=some v->Inv X pins σ H { s with heap:=h',toks:=tk }->EP X pins σ Q v { s with heap:=h',toks:=tk }:=fun {its} rvs v h' tk hv I3=>by
  have hl:=rvs.length;rw[length_map] at hl;obtain⟨t,rfl⟩:=gj rvs _ v hv;have hb:=argBest_lt (fun i=>is.getD i 0) (its.toArray.size-1);rw[size_toArray] at hb |-;refine⟨.int _,H,I3,⟨_,rfl⟩,q _ ?_ ?_⟩
  ·rw[getD_eq_getElem?_getD,getElem?_eq_getElem ω];exact getElem_mem _
  intro a ha;obtain⟨j,hj,e⟩:=mem_iff_getElem.mp ha;have:=hb.2 j ω;rw[show is.getD j 0=a by rw[getD_eq_getElem?_getD,getElem?_eq_getElem hj];exact e] at this;exact this
 have kept:∀{ob:Obj}{h':Heap}{tk:Nat},(∀(b:Addr)(o:Obj),¬b∈[s.heap.objs.size]->(s.heap.push ob).get? b=some o->h'.get? b=some o)->Inv X pins σ H { s with heap:=h',toks:=tk }:=fun {ob h' tk} hk=>
  I.kept (t':=tk) fun b o e=>hk b o (fun z=>ne_of_lt (lt_size e) (mem_singleton.mp z)) (get?_push_of_some _ e)
 rcases hp with hp|hp
 ·obtain⟨its,rvs,pl,hz⟩:=I.list (SqL.of hp);have hl:=rvs.length;rw[length_map] at hl;have pl':s.heap.IsList p its.toArray:=pl.isList;have hlt:p<s.heap.objs.size:=by obtain⟨_,e,_⟩:=pl';exact lt_size e
  refine call_min_walk (wpAny_pyIter_list pl' ?_);refine⟨s.heap.objs.size,_,_,_,_,_,_,rfl,Walks.list (A:=X.A.in1) (I.ok.hd hc) s.heap.objs.size p (ne_of_lt hlt) its.toArray,?_,fun b hb=>?_,?_,CmpOf.ints_lt (fun i=>is.getD i 0) fun i v hv=>gj rvs i v hv,fun v h' tk hv hk=>fin rvs v h' tk hv (kept hk)⟩
  ·obtain⟨ob,e,r⟩:=pl';exact⟨⟨_,get?_push_size _ rfl,rfl,rfl⟩,ob,get?_push_of_some _ e,r⟩
  ·rw[size_push];simp only[mem_cons,not_mem_nil,or_false] at hb;rcases hb with rfl|rfl
   ·exact lt_succ_self _
   exact lt_succ_of_lt hlt
  rw[size_toArray];omega
 obtain⟨its,rvs,pl,hz⟩:=I.tuple (SqT.of hp);have hl:=rvs.length;rw[length_map] at hl;have pl':s.heap.IsTuple p its.toArray:=pl;have hlt:p<s.heap.objs.size:=by obtain⟨_,e,_⟩:=pl';exact lt_size e
 refine call_min_walk (wpAny_pyIter_tuple pl' ?_);refine⟨s.heap.objs.size,_,_,_,_,_,_,rfl,Walks.tuple (A:=X.A.in1) (I.ok.hd hc) s.heap.objs.size p (ne_of_lt hlt) its.toArray,?_,fun b hb=>?_,?_,CmpOf.ints_lt (fun i=>is.getD i 0) fun i v hv=>gj rvs i v hv,fun v h' tk hv hk=>fin rvs v h' tk hv (kept hk)⟩
 ·obtain⟨ob,e,r⟩:=pl';exact⟨⟨_,get?_push_size _ rfl,rfl,rfl⟩,ob,get?_push_of_some _ e,r⟩
 ·rw[size_push];simp only[mem_cons,not_mem_nil,or_false] at hb;rcases hb with rfl|rfl
  ·exact lt_succ_self _
  exact lt_succ_of_lt hlt
 rw[size_toArray];omega
theorem CT (hc:X.calm=true):eE X (.builtin "max") (fun xs H Q=>∃p is,xs=[.ref p]/\ints1 H p is/\is≠[]/\∀M,M∈is->(∀a∈is,a<=M)->Q (.int M) H):=by
 intro pins s σ H xs us Q I r h;obtain⟨p,is,rfl,hp,hne,q⟩:=h;obtain⟨u,rfl,rv⟩:=vals1 r;cases rv;have hpos:0<is.length:=length_pos_iff.mpr hne;have fin:∀{its:List Value}(rvs:Vals (is.map V.int) its) (v:Value) (h':Heap) (tk:Nat),its.toArray[argBest (fun i j=>decide (is.getD i 0>is.getD j 0)) (its.toArray.size-1)]?=some v->Inv X pins σ H { s with heap:=h',toks:=tk }->EP X pins σ Q v { s with heap:=h',toks:=tk }:=fun {its} rvs v h' tk hv I3=>by
  have hl:=rvs.length;rw[length_map] at hl;obtain⟨t,rfl⟩:=gj rvs _ v hv;have hb:=argBest_gt (fun i=>is.getD i 0) (its.toArray.size-1);rw[size_toArray] at hb |-;refine⟨.int _,H,I3,⟨_,rfl⟩,q _ ?_ ?_⟩
  ·rw[getD_eq_getElem?_getD,getElem?_eq_getElem ω];exact getElem_mem _
  intro a ha;obtain⟨j,hj,e⟩:=mem_iff_getElem.mp ha;have:=hb.2 j ω;rw[show is.getD j 0=a by rw[getD_eq_getElem?_getD,getElem?_eq_getElem hj];exact e] at this;exact this
 have kept:∀{ob:Obj}{h':Heap}{tk:Nat},(∀(b:Addr)(o:Obj),¬b∈[s.heap.objs.size]->(s.heap.push ob).get? b=some o->h'.get? b=some o)->Inv X pins σ H { s with heap:=h',toks:=tk }:=fun {ob h' tk} hk=>
  I.kept (t':=tk) fun b o e=>hk b o (fun z=>ne_of_lt (lt_size e) (mem_singleton.mp z)) (get?_push_of_some _ e)
 rcases hp with hp|hp
 ·obtain⟨its,rvs,pl,hz⟩:=I.list (SqL.of hp);have hl:=rvs.length;rw[length_map] at hl;have pl':s.heap.IsList p its.toArray:=pl.isList;have hlt:p<s.heap.objs.size:=by obtain⟨_,e,_⟩:=pl';exact lt_size e
  refine call_max_walk (wpAny_pyIter_list pl' ?_);refine⟨s.heap.objs.size,_,_,_,_,_,_,rfl,Walks.list (A:=X.A.in1) (I.ok.hd hc) s.heap.objs.size p (ne_of_lt hlt) its.toArray,?_,fun b hb=>?_,?_,CmpOf.ints_gt (fun i=>is.getD i 0) fun i v hv=>gj rvs i v hv,fun v h' tk hv hk=>fin rvs v h' tk hv (kept hk)⟩
  ·obtain⟨ob,e,r⟩:=pl';exact⟨⟨_,get?_push_size _ rfl,rfl,rfl⟩,ob,get?_push_of_some _ e,r⟩
  ·rw[size_push];simp only[mem_cons,not_mem_nil,or_false] at hb;rcases hb with rfl|rfl
   ·exact lt_succ_self _
   exact lt_succ_of_lt hlt
  rw[size_toArray];omega
 obtain⟨its,rvs,pl,hz⟩:=I.tuple (SqT.of hp);have hl:=rvs.length;rw[length_map] at hl;have pl':s.heap.IsTuple p its.toArray:=pl;have hlt:p<s.heap.objs.size:=by obtain⟨_,e,_⟩:=pl';exact lt_size e
 refine call_max_walk (wpAny_pyIter_tuple pl' ?_);refine⟨s.heap.objs.size,_,_,_,_,_,_,rfl,Walks.tuple (A:=X.A.in1) (I.ok.hd hc) s.heap.objs.size p (ne_of_lt hlt) its.toArray,?_,fun b hb=>?_,?_,CmpOf.ints_gt (fun i=>is.getD i 0) fun i v hv=>gj rvs i v hv,fun v h' tk hv hk=>fin rvs v h' tk hv (kept hk)⟩
 ·obtain⟨ob,e,r⟩:=pl';exact⟨⟨_,get?_push_size _ rfl,rfl,rfl⟩,ob,get?_push_of_some _ e,r⟩
 ·rw[size_push];simp only[mem_cons,not_mem_nil,or_false] at hb;rcases hb with rfl|rfl
  ·exact lt_succ_self _
  exact lt_succ_of_lt hlt
 rw[size_toArray];omega
noncomputable def ye (ta:TA):TE:=fun σ H Q=>ta σ H fun vs H1=>∃j:Int,vs=[.int j]/\(-(2^62)<=j/\j<2^62)/\(j-0).toNat<=sizeLine/\∀p,H1 p=none->Q (.ref p) (upd H1 p (.lst (uO 0 (j-0).toNat)))
theorem FT {a:Expr}{ta:TA}{p p2 pos pos2:Pos}(hc:X.calm=true) (hgl:Gl X "list") (hml:X.mg "list" = none) (hg:Gl X "range") (hm:X.mg "range" = none) (ha:PA X [a] ta)
  (hs:starEach [a] X.env=[(false,eval a X.env)]:=by rfl)
  (he:starEach [.Call (.Name "range" p2) [a] [] pos2] X.env=[(false,eval (.Call (.Name "range" p2) [a] [] pos2) X.env)]:=by rfl) :
  PE X (.Call (.Name "list" p) [.Call (.Name "range" p2) [a] [] pos2] [] pos) (ye ta):=by
 intro pins s σ H Q I h;refine wpAny_Call_Name_kw (jK I hgl hml boot_list ?_ δ δ);refine PyProof.Rows.callWith_type1 ?_ he rfl;rw[he];show wpAny _ _ (spliced ((false,eval (.Call (.Name "range" p2) [a] [] pos2) X.env)::[])) _ _ s;refine Calls.spliced_cons ?_;refine Call_ (jK I hg hm boot_range (PyProof.Rows.callWith_type1 (thA (ha pos2 pins s σ H _ I h) fun us s1 vs H1 I1 r1 q1=>?_) hs rfl));obtain⟨j,e,⟨q3,q4⟩,hz,q⟩:=q1;have q1:(-(2^62):Int)<=0:=by decide
 have q2:(0:Int)<2^62:=by decide
 subst e;cases r1 with
 | cons r' rr=>
  cases rr;obtain⟨t',rfl⟩:=r';refine call_range_1 (Calls.spliced_nil ?_);refine call_list_range (n:=(j-0).toNat) (I1.ok.hd hc) (IsRange.new ..) (small_one q1 q2 q3 q4) (by rw[rangeSize_one];split <;> omega) (le_trans hz Nf) fun h' tk acc' c' kp e it=>?_
  have I2:Inv X pins σ H1 { s1 with heap:=s1.heap.push { cls:=.type "range",data:=.fields #[.int 0 s1.toks,.int j t',.int 1 (s1.toks+1)] },toks:=s1.toks+1+1 }:=I1.kept fun b o e=>get?_push_of_some _ e;have hf:H1 (s1.heap.push { cls:=.type "range",data:=.fields #[.int 0 s1.toks,.int j t',.int 1 (s1.toks+1)] }).objs.size=none:=I2.hok.fresh (le_refl _);refine⟨.ref _,_,I2.laid (t':=tk) kp (le_refl _) (show dU X.prog X.w _ h' _ (.lst (uO 0 (j-0).toNat)) from⟨?_,acc'.toList,c',?_,by simpa using e⟩),rfl,q _ hf⟩
  ·simpa [uO] using hz
  obtain⟨it1,it2⟩:=it;refine zF (by simp [uO,it1]) fun k x u h1 h2=>?_;have h2':acc'[k]?=some u:=by simpa using h2
  obtain⟨t9,rfl⟩:=it2 k u h2';unfold uO at h1;rw[getElem?_map] at h1;have hk:k<(j-0).toNat:=by
   rcases lt_or_ge k (j-0).toNat with z|z
   ·exact z
   rw[List.getElem?_eq_none (by simpa using z)] at h1;cases h1
  rw[List.getElem?_range hk] at h1;cases h1;exact⟨t9,by rw[Int.mul_one]⟩
theorem m9 {a:Expr}{ta:TA}{p p2 pos pos2:Pos}(hc:X.calm=true) (hgl:Gl X "list") (hml:X.mg "list" = none) (hg:Gl X "range") (hm:X.mg "range" = none) (ha:QA X [a] ta)
  (hs:starEach [a] X.env=[(false,eval a X.env)]:=by rfl)
  (he:starEach [.Call (.Name "range" p2) [a] [] pos2] X.env=[(false,eval (.Call (.Name "range" p2) [a] [] pos2) X.env)]:=by rfl) :
  QE X (.Call (.Name "list" p) [.Call (.Name "range" p2) [a] [] pos2] [] pos) (ye ta):=⟨FT hc hgl hml hg hm ha.h hs he⟩
theorem xW {ws:List Str}{its:List Value}(r:Vals (ws.map V.str) its){i:Nat}{v:Value}(h:its[i]?=some v):∃w t,ws[i]?=some w/\v=Value.str w t:=by
 have hl:=r.length;rw[length_map] at hl;have hi:=(List.getElem?_eq_some_iff.mp h).1;have hx:(ws.map V.str)[i]?=some (V.str ws[i]):=by rw[getElem?_map,getElem?_eq_getElem ω];rfl
 obtain⟨u,hu,ru⟩:=r.get hx;rw[hu] at h;cases h;obtain⟨t,rfl⟩:=ru;exact⟨ws[i],t,getElem?_eq_getElem ω,rfl⟩
end
inductive Pl where
 | pick (l:Int)
 | one (k:Nat) (r:Pl)
 | wit (k:Nat) (r:Pl)
 | low (k:Nat) (a b:Pl)
 | msk (l:Int) (r:Pl)
 | tab
noncomputable def plD:Pl->PyData
 | .pick l=>.tuple [.str "pick",.int l]
 | .one k r=>.tuple [.str "is",.int (k:Int),plD r]
 | .wit k r=>.tuple [.str "within",.int (k:Int),plD r]
 | .low k a b=>.tuple [.str "below",.int (k:Int),plD a,plD b]
 | .msk l r=>.tuple [.str "mask",.int l,plD r]
 | .tab=>.tuple [.str "table"]
noncomputable def dI:Pl->Nat
 | .pick _=>0
 | .one _ r=>dI r+1
 | .wit _ r=>dI r+1
 | .low _ a b=>max (dI a) (dI b)+1
 | .msk _ r=>dI r+1
 | .tab=>0
noncomputable def cD:Pl->Nat
 | .pick _=>1
 | .one _ r=>cD r+1
 | .wit _ r=>cD r+1
 | .low _ a b=>cD a+cD b+1
 | .msk _ r=>cD r+1
 | .tab=>1
noncomputable abbrev Sts:=List (Int×Int×Int)
noncomputable def bh (ss:Sts)(k:Nat):Int×Int×Int:=ss.getD k (0,0,0)
structure Lf (ss:Sts)(left:List Nat):Prop where
 ne:left≠[]
 lt:∀k∈left,k<ss.length
 up:left.Pairwise (· < ·)
noncomputable def kids (ss:Sts):Pl->List Nat->List (List Nat×Pl)
 | .pick _,_=>[]
 | .tab,_=>[]
 | .one k r,left=>[(left.filter (·≠k),r)]
 | .wit k r,left=>[(left.filter (·≠k),r)]
 | .low k a b,left=>[(left.filter (· < k),a),(left.filter (k<=·),b)]
 | .msk l r,left=>[(left.filter fun k=>(bh ss k).2.2≠l,r)]
noncomputable def xV (ss:Sts):Pl->List Nat->Prop
 | .pick _,left=>Lf ss left
 | .tab,left=>Lf ss left
 | .one k r,left=>Lf ss left/\xV ss r (left.filter (·≠k))
 | .wit k r,left=>Lf ss left/\xV ss r (left.filter (·≠k))
 | .low k a b,left=>Lf ss left/\xV ss a (left.filter (· < k))/\xV ss b (left.filter (k<=·))
 | .msk l r,left=>Lf ss left/\xV ss r (left.filter fun k=>(bh ss k).2.2≠l)
theorem xV.lf {ss:Sts}{p:Pl}{left:List Nat}(h:xV ss p left):Lf ss left:=by
 cases p with
 | pick l=>exact h
 | tab=>exact h
 | one k r=>exact h.1
 | wit k r=>exact h.1
 | low k a b=>exact h.1
 | msk l r=>exact h.1
noncomputable def jn (W:List (List Nat×Pl)):Nat:=(W.map fun x=>cD x.2).sum
theorem m5 (A B:List (List Nat×Pl)):jn (A++B)=jn A+jn B:=by
 unfold jn;rw[map_append,List.sum_append]
theorem vV (ss:Sts)(p:Pl)(left:List Nat):jn (kids ss p left)<cD p:=by
 cases p <;> simp [jn,kids,cD]
noncomputable def iK (left:List Nat):PyData:=.list (left.map fun(k:Nat)=>.int (k:Int))
noncomputable def wD (x:List Nat×Pl):PyData:=.tuple [iK x.1,plD x.2]
noncomputable def fY (ss:Sts)(left:List Nat):Int:=(bh ss (left.getLast?.getD 0)).2.1-(bh ss (left.head?.getD 0)).1+1
noncomputable def jm:Sp:=fun vs H Q _=>∃(s l:V)(ok:Addr->Prop)(ss:Sts)(left:List Nat),vs=[s,l]/\aF ok H s (.list (ss.map stD))/\aF ok H l (iK left)/\Lf ss left/\Q (.int (fY ss left)) H
theorem nQ {k:Nat}:∀{left:List Nat},left.Pairwise (· < ·)->left.drop (left.filter (· < k)).length=left.filter (k<=·)
 | [],_=>rfl
 | a::left,h=>by
  rw[pairwise_cons] at h;by_cases ha:a<k
  ·rw[filter_cons_of_pos (by simpa using ha),filter_cons_of_neg (by simpa using ha),length_cons,List.drop_succ_cons];exact nQ h.2
  have h1:left.filter (· < k)=[]:=List.filter_eq_nil_iff.mpr fun b hb=>by have:=h.1 b hb;simp;omega
  have h2:left.filter (k<=·)=left:=List.filter_eq_self.mpr fun b hb=>by have:=h.1 b hb;simp;omega
  rw[filter_cons_of_neg (by simpa using ha),h1,filter_cons_of_pos (by simp;omega),h2];rfl
theorem JX {ok:Addr->Prop}{H:Hp}(left:List Nat):aJ ok H (left.map fun(k:Nat)=>V.int (k:Int)) (left.map fun(k:Nat)=>PyData.int (k:Int)):=by
 induction left with
 | nil=>exact .nil
 | cons a l ih=>exact .cons (.int _) ih
theorem aJ.nats {ok:Addr->Prop}{H:Hp}:∀{xs:List V}{left:List Nat},aJ ok H xs (left.map fun(k:Nat)=>PyData.int (k:Int))->xs=left.map fun(k:Nat)=>V.int (k:Int)
 | _,[],.nil=>rfl
 | _,a::l,.cons h r=>by
  cases h;rw[r.nats];rfl
theorem aF.left {ok:Addr->Prop}{H:Hp}{x:V}{left:List Nat}(t:aF ok H x (iK left)):∃a,x=.ref a/\ok a/\H a=some (.lst (left.map fun(k:Nat)=>V.int (k:Int)))/\left.length<=1000000:=by
 cases t with
 | lst o e z ts=>
  rw[ts.nats] at e z;rw[length_map] at z;exact⟨_,rfl,o,e,z⟩
theorem DW {ss:Sts}{k:Nat}(h:k<ss.length):ss[k]?=some (bh ss k):=by
 unfold bh;rw[getD_eq_getElem?_getD,getElem?_eq_getElem h];rfl
theorem aJ.stN {ok:Addr->Prop}{H:Hp}{xs:List V}{ss:Sts}(t:aJ ok H xs (ss.map stD)){k:Nat}(h:k<ss.length):∃a,atI xs (k:Int)=some (.ref a)/\H a=some (.tup [.int (bh ss k).1,.int (bh ss k).2.1,.int (bh ss k).2.2]):=by
 have hl:=t.length;rw[length_map] at hl;have hx:xs[k]?=some xs[k]:=getElem?_eq_getElem ω;obtain⟨a,s,h1,_,h2,h3⟩:=t.st hx;rw[DW h] at h2;cases h2;refine⟨a,?_,h3⟩;rw[<- h1];exact cU hx
noncomputable def nv (left:List Nat):List V:=left.map fun(k:Nat)=>V.int (k:Int)
theorem dH (left:List Nat):(nv left).length=left.length:=by unfold nv;rw[length_map]
theorem Gj {left:List Nat}{i:Nat}{x:V}(h:(nv left)[i]?=some x):∃k,left[i]?=some k/\x=.int (k:Int):=by
 unfold nv at h;rw[getElem?_map] at h;cases e:left[i]? with
 | none=>rw[e] at h;cases h
 | some k=>rw[e] at h;cases h;exact⟨k,rfl,rfl⟩
theorem Ab {left:List Nat}(h:left≠[]):∃k,left.getLast?=some k/\k∈left/\atI (nv left) (-1)=some (.int (k:Int)):=by
 obtain⟨a,b,rfl⟩:=gA left (length_pos_iff.mpr h);refine⟨b,by simp,by simp,?_⟩;have:=Ci (a.map fun(k:Nat)=>(k:Int)) (b:Int);unfold nv;rw[show((a++[b]).map fun(k:Nat)=>V.int (k:Int))=((a.map fun(k:Nat)=>(k:Int))++[(b:Int)]).map V.int by simp];exact this
theorem Ac {left:List Nat}(h:left≠[]):∃k,left.head?=some k/\k∈left/\atI (nv left) 0=some (.int (k:Int)):=by
 cases left with
 | nil=>exact absurd rfl h
 | cons a l=>exact⟨a,rfl,mem_cons_self,cU (j:=0) (show(nv (a::l))[0]?=_ from rfl)⟩
theorem uh {left:List Nat}{P:Nat->Bool}{i k:Nat}(h:left[i]?=some k):(left.take (i+1)).filter P=(left.take i).filter P++(if P k=true then [k] else []):=by
 rw[take_snoc h,List.filter_append];cases hp:P k with
 | true=>rw[filter_cons_of_pos hp];rfl
 | false=>rw[filter_cons_of_neg (by rw[hp];decide)];rfl
theorem MN (a b:List Nat):nv (a++b)=nv a++nv b:=by unfold nv;rw[map_append]
theorem bf {ok:Addr->Prop}{H:Hp}{a:Addr}{left:List Nat}(h:ok a)(e:H a=some (.lst (nv left)))(hl:left.length<=1000000):aF ok H (.ref a) (iK left):=.lst h e (by rw[dH];exact hl) (JX left)
theorem bQ {K:PySem.W.Frag}{mp:List (Option Nat)}{g:TG}{tc:TT}{te:TE}{σ:St}{H:Hp}{Q:VK}{R:It->Hp->Prop}{a:Addr}{left:List Nat}(P:Nat->Bool)(okT:St->Prop)(hR:R=zE mp g tc te σ Q)(e:H a=some (.lst (nv left)))(hz:left.length<=1000000)(h0:okT (jY mp σ))
  (hs:∀(i k:Nat) τ (acc:List V) (Pn:List V->St->Hp->Prop),left[i]?=some k->okT τ->(P k=true->∀τ1,okT τ1->Pn (acc++[V.int (k:Int)]) τ1 H)->(P k=false->∀τ1,okT τ1->Pn acc τ1 H)->g (.int (k:Int)) τ H fun τ1 H4=>tc τ1 H4 fun b H5=>if b=true then te τ1 H5 fun v H6=>Pn (acc++[v]) τ1 H6 else Pn acc τ1 H5)
  (hd:∀d,H d=none->Q (.ref d) (upd H d (.lst (nv (left.filter P))))):R (Itl K a) H:=by
 refine rQ hR (xs:=nv left) (aQ (by rw[dH];exact hz)) (fun i acc τ H'=>H'=H/\acc=nv ((left.take i).filter P)/\okT τ) ⟨rfl,rfl,h0⟩ ?_ ?_ ?_ ?_
 ·rintro i acc τ H' ⟨_,rfl,_⟩;rw[dH];exact le_trans (length_filter_le _ _) (List.length_take_le _ _)
 ·rintro i acc τ H' ⟨rfl,_,_⟩;exact SqL.of e
 ·rintro i x acc τ H' hx ⟨rfl,rfl,ht⟩;obtain⟨k,hk,rfl⟩:=Gj hx;refine hs i k τ _ (fun acc τ H1=>H1=H'/\acc=nv ((left.take (i+1)).filter P)/\okT τ) hk ht (fun hp τ1 h1=>⟨rfl,?_,h1⟩) (fun hp τ1 h1=>⟨rfl,?_,h1⟩)
  ·rw[uh hk,MN,if_pos hp];rfl
  rw[uh hk,if_neg (by rw[hp];decide),append_nil]
 rintro acc τ H' d ⟨rfl,rfl,_⟩ hdn;rw[take_of_length_le (by rw[dH];exact le_refl _)];exact hd d hdn
theorem xG (xs:List V)(n:Nat)(h:n<=xs.length):jj xs (some (n:Int)) none=xs.drop n:=by
 unfold jj;have e1:HT.sIx xs.length 0 (some (n:Int))=n:=by
  simp only[HT.sIx];split
  ·omega
  omega
 have e2:HT.sIx xs.length xs.length none=xs.length:=by simp [HT.sIx]
 rw[e1,e2];exact take_of_length_le (by rw[length_drop];exact le_refl _)
theorem Cz {left:List Nat}{k:Nat}(h:left.Pairwise (· < ·)):jj (nv left) (some ((left.filter (· < k)).length:Int)) none=nv (left.filter (k<=·)):=by
 rw[xG _ _ (by rw[dH];exact length_filter_le _ _),<- nQ h];unfold nv;rw[map_drop]
theorem aJ.dropLast {ok:Addr->Prop}{H:Hp}{xs:List V}{ds:List PyData}{d:PyData}(t:aJ ok H xs (ds++[d])):aJ ok H xs.dropLast ds/\∃y,xs[xs.length-1]?=some y/\aF ok H y d:=by
 have hl:=t.length;rw[length_append,length_singleton] at hl;constructor
 ·have:=t.take ds.length;rw[List.take_left,show xs.take ds.length=xs.dropLast by rw[List.dropLast_eq_take,hl,add_sub_cancel]] at this;exact this
 have hx:xs[xs.length-1]?=some xs[xs.length-1]:=getElem?_eq_getElem ω;obtain⟨d',hd,td⟩:=t.get hx;rw[hl,add_sub_cancel,getElem?_append_right (le_refl _),sub_self] at hd;cases hd;exact⟨_,hx,td⟩
theorem J1 (W:List (List Nat×Pl)):W.length<=jn W:=by
 induction W with
 | nil=>exact le_refl _
 | cons x W ih=>
  have h1:1<=cD x.2:=by cases x.2 <;> simp [cD]
  have h2:jn (x::W)=cD x.2+jn W:=by simp [jn]
  rw[length_cons,h2];omega
noncomputable def pF:Pl->Str
 | .pick _ => "pick"
 | .one _ _ => "is"
 | .wit _ _ => "within"
 | .low _ _ _ => "below"
 | .msk _ _ => "mask"
 | .tab => "table"
theorem aF.Fy {ok:Addr->Prop}{H:Hp}{x:V}{p:Pl}(t:aF ok H x (plD p)):∃a ys,x=.ref a/\H a=some (.tup ys)/\atI ys 0=some (.str (pF p)):=by
 cases p <;> (cases t with
  | tup o e z ts=>
   cases ts with
   | cons t1 ts=>cases t1;exact⟨_,_,rfl,e,cU (j:=0) (show(_::_)[0]?=_ from rfl)⟩)
noncomputable def Eb:Sp:=fun vs H Q _=>∃(p:Addr)(B:Int),vs=[.ref p]/\bA H p B/\0<=B/\B<=900000 /\
 ∀(m:Int) H',cg p H H'->bA H' p (B+4)->1<=m->m<=59->Q (.int m) H'
theorem pC {K:PySem.W.Frag}{mp:List (Option Nat)}{g:TG}{tc:TT}{te:TE}{σ:St}{H:Hp}{Q:VK}{R:It->Hp->Prop}{a:Addr}{left:List Nat}(fI:Nat->Int)(okT:St->Prop)(hR:R=zE mp g tc te σ Q)(e:H a=some (.lst (nv left)))(hz:left.length<=1000000)(h0:okT (jY mp σ))
  (hs:∀(i k:Nat) τ (acc:List V) (Pn:List V->St->Hp->Prop),left[i]?=some k->okT τ->(∀τ1,okT τ1->Pn (acc++[V.int (fI k)]) τ1 H)->g (.int (k:Int)) τ H fun τ1 H4=>tc τ1 H4 fun b H5=>if b=true then te τ1 H5 fun v H6=>Pn (acc++[v]) τ1 H6 else Pn acc τ1 H5)
  (hd:∀d,H d=none->Q (.ref d) (upd H d (.lst ((left.map fI).map V.int)))):R (Itl K a) H:=by
 refine rQ hR (xs:=nv left) (aQ (by rw[dH];exact hz)) (fun i acc τ H'=>H'=H/\acc=((left.take i).map fI).map V.int/\okT τ) ⟨rfl,rfl,h0⟩ ?_ ?_ ?_ ?_
 ·rintro i acc τ H' ⟨_,rfl,_⟩;rw[length_map,length_map];exact List.length_take_le _ _
 ·rintro i acc τ H' ⟨rfl,_,_⟩;exact SqL.of e
 ·rintro i x acc τ H' hx ⟨rfl,rfl,ht⟩;obtain⟨k,hk,rfl⟩:=Gj hx;refine hs i k τ _ (fun acc τ H1=>H1=H'/\acc=((left.take (i+1)).map fI).map V.int/\okT τ) hk ht (fun τ1 h1=>⟨rfl,?_,h1⟩);rw[take_snoc hk,map_append,map_append];rfl
 rintro acc τ H' d ⟨rfl,rfl,_⟩ hdn;rw[take_of_length_le (by rw[dH];exact le_refl _)];exact hd d hdn
theorem Lf.Kd {ss:Sts}{left:List Nat}(lf:Lf ss left){P:Nat->Bool}(h:left.filter P≠[]):Lf ss (left.filter P):=
 ⟨h,fun k hk=>lf.lt k (mem_filter.mp hk).1,lf.up.filter _⟩
theorem Ao {left:List Nat}{P:Nat->Bool}{k:Nat}(h:k∈left)(hp:P k=false):(left.filter P).length<left.length:=
 List.length_filter_lt_length_iff_exists.mpr ⟨k,h,by rw[hp];decide⟩
theorem w6 (k:Nat):∀left:List Nat,(left.filter (· < k)).length+(left.filter (k<=·)).length=left.length
 | []=>rfl
 | a::left=>by
  have ih:=w6 k left;by_cases h:a<k
  ·rw[filter_cons_of_pos (by simpa using h),filter_cons_of_neg (by simpa using h),length_cons,length_cons];omega
  rw[filter_cons_of_neg (by simpa using h),filter_cons_of_pos (by simpa using h),length_cons,length_cons];omega
theorem jJ {α:Type}{a:α}{l:List α}(h:a∈l):l≠[]:=fun z=>by rw[z] at h;cases h
theorem Lf.rest {ss:Sts}{left:List Nat}(lf:Lf ss left)(h2:2<=left.length)(k:Nat):Lf ss (left.filter (·≠k)):=by
 refine lf.Kd ?_
 match left,h2,lf with
 | a::b::l,_,lf=>
  have hab:a<b:=(pairwise_cons.mp lf.up).1 b mem_cons_self;by_cases c:a=k
  ·exact jJ (mem_filter.mpr ⟨mem_cons_of_mem _ mem_cons_self,by simp;omega⟩:b∈_)
  exact jJ (mem_filter.mpr ⟨mem_cons_self,by simpa using c⟩:a∈_)
theorem Lf.cuts {ss:Sts}{left:List Nat}(lf:Lf ss left){i k:Nat}(h:left[i+1]?=some k):k∈left/\Lf ss (left.filter (· < k))/\Lf ss (left.filter (k<=·)):=by
 have hm:=mem_of_getElem? h;refine⟨hm,lf.Kd ?_,lf.Kd (jJ (mem_filter.mpr ⟨hm,by simp⟩:k∈_))⟩
 match left,h,lf with
 | a::l,h,lf=>
  rw[getElem?_cons_succ] at h;have hak:a<k:=(pairwise_cons.mp lf.up).1 k (mem_of_getElem? h);exact jJ (mem_filter.mpr ⟨mem_cons_self,by simpa using hak⟩:a∈_)
theorem Kz {left:List Nat}{r:Int}(h0:0<=r)(h1:r<(left.length:Int)):∃k,left[r.toNat]?=some k/\k∈left/\atI (nv left) r=some (.int (k:Int)):=by
 obtain⟨i,rfl⟩:=Int.eq_ofNat_of_zero_le h0;have hi:i<left.length:=ω;refine⟨left[i],by rw[toNat_natCast];exact getElem?_eq_getElem hi,getElem_mem hi,cU ?_⟩;unfold nv;rw[getElem?_map,getElem?_eq_getElem hi];rfl
theorem jB (l:List Nat):(nv l).all eZ=true:=by
 unfold nv;rw[all_map,all_eq_true];intro x _;rfl
theorem MK {l:List Nat}(h:l≠[]):eqL (nv l) []=false:=by
 cases l with
 | nil=>exact absurd rfl h
 | cons a l=>rfl
theorem uN (n:Nat):uO 0 n=nv (List.range n):=by
 unfold uO nv;apply List.map_congr_left;intro x _;simp
section
variable {X:Cx}{e o:Expr}{te to:TE}{pos:Pos}
noncomputable def Qd (xs:List V)(y:V)(n:Nat):Prop:=(∃(is:List Int)(i:Int),xs=is.map V.int/\y=.int i/\n=is.count i)\/(∃(ws:List Str)(w:Str),xs=ws.map V.str/\y=.str w/\n=ws.count w)
noncomputable def zG (K:PySem.W.Frag)(to te:TE):TE:=fun σ H Q=>to σ H fun x H1=>∃(p:Addr),x=.ref p/\(∃xs,SqL K H1 p xs)/\te σ H1 fun y H2=>∃(xs:List V)(n:Nat),SqL K H2 p xs/\Qd xs y n/\Q (.int (n:Nat)) H2
theorem xX {ws:List Int}{its:List Value}(r:Vals (ws.map V.int) its){i:Nat}{v:Value}(h:its[i]?=some v):∃w t,ws[i]?=some w/\v=Value.int w t:=by
 have hl:=r.length;rw[length_map] at hl;have hi:=(List.getElem?_eq_some_iff.mp h).1;have hx:(ws.map V.int)[i]?=some (V.int ws[i]):=by rw[getElem?_map,getElem?_eq_getElem ω];rfl
 obtain⟨u,hu,ru⟩:=r.get hx;rw[hu] at h;cases h;obtain⟨t,rfl⟩:=ru;exact⟨ws[i],t,getElem?_eq_getElem ω,rfl⟩
noncomputable def isI (w:Int):Value->Bool
 | .int z _=>z == w
 | _=>false
noncomputable def isS (w:Str):Value->Bool
 | .str z _=>z == w
 | _=>false
theorem cnt_ints (w:Int):∀{is:List Int}{its:List Value},Vals (is.map V.int) its->its.countP (isI w)=is.count w
 | [],_,.nil=>rfl
 | i::is,_,.cons r rs=>by
  obtain⟨t,rfl⟩:=r;rw[List.countP_cons,List.count_cons,cnt_ints w rs];rfl
theorem cnt_strs (w:Str):∀{is:List Str}{its:List Value},Vals (is.map V.str) its->its.countP (isS w)=is.count w
 | [],_,.nil=>rfl
 | i::is,_,.cons r rs=>by
  obtain⟨t,rfl⟩:=r;rw[List.countP_cons,List.count_cons,cnt_strs w rs];rfl
theorem Jy {apos cpos:Pos}(hu:X.A.in1.units<cLine)(ho:PE X o to)(he:PE X e te)
  (hbase:attributeBase o "count" X.env (eval o X.env)=eval o X.env:=by rfl)
  (hfew:((backTo cpos (starEach [e] X.env)).all (fun x=>!x.1)&&(backToKw cpos (keywordEach [] X.env)).all (fun x=>x.1.isSome)
   && decide ([e].length+([]:List Keyword).length+(if ([]:List Keyword).isEmpty then 0 else 1)<30))=true:=by rfl)
  (hline:(apos.endLine == cpos.line)=true:=by rfl) (hs:starEach [e] X.env=(false,eval e X.env)::starEach [] X.env:=by rfl) (hplain:(backTo cpos (starEach [] X.env)).any (·.1)=false:=by rfl) :
  PE X (.Call (.Attribute o "count" apos) [e] [] cpos) (zG X.K to te):=by
 intro pins s σ H Q I h;refine wpAny_Call_method_late hbase hfew hline rfl (thE (ho pins s σ H _ I h) fun v s1 x H1 I1 r1 q=>?_);obtain⟨p,rfl,⟨xs0,hq⟩,q⟩:=q;obtain⟨h1,h2⟩:=uG (T := "list") I1 r1 (.inl ⟨rfl,_,hq⟩);refine⟨"list","list.count",PySem.F.plainAttrs_list,PySem.F.slot_list_count,PySem.F.type_list_count,h1,h2,?_⟩;rw[hs];refine Calls.callWith_builtin (by show(false||(backTo cpos (starEach [] X.env)).any (·.1))=false;rw[hplain] <;> rfl) (Calls.evalArgs_plain ?_)
 refine Calls.spliced_cons (thn (he pins s1 σ H1 _ I1 q) fun u s2 ⟨y,H2,I2,r2,xs,n,hq2,hc,q3⟩=>Calls.spliced_nil ?_);cases r1;obtain⟨its,rv,pl,hz⟩:=I2.list hq2;obtain⟨ob,nn,eo,ec,ed,es⟩:=pl;cases ob with
 | mk cls dict data slots=>
  cases ec;cases es;rcases hc with⟨is,i,rfl,rfl,rfl⟩|⟨ws,w,rfl,rfl,rfl⟩
  ·obtain⟨t,rfl⟩:=r2;refine call_meets F.slot_list_count ⟨_,eo,rfl⟩ F.entry_list_count (F.args_list_count_2 _ _) (SeqAt.list_countAt p its.toArray nn _ _ _ (isI i)) ⟨eo,fun y hy=>?_,?_⟩
   ·have hy':y∈its:=by simpa using hy
    obtain⟨m,hm,em⟩:=mem_iff_getElem.mp hy';obtain⟨w',t',h1,h2⟩:=xX rv (getElem?_eq_getElem hm);rw[em] at h2;rw[h2];exact SeqAt.EqAt.int_int w' t' i t
   rw[show its.toArray.toList=its from rfl,cnt_ints i rv];exact⟨.int (is.count i:Nat),H2,I2.tok _,⟨_,rfl⟩,q3⟩
  obtain⟨t,rfl⟩:=r2;refine call_meets F.slot_list_count ⟨_,eo,rfl⟩ F.entry_list_count (F.args_list_count_2 _ _) (SeqAt.list_countAt p its.toArray nn _ _ _ (isS w)) ⟨eo,fun y hy=>?_,?_⟩
  ·have hy':y∈its:=by simpa using hy
   obtain⟨m,hm,em⟩:=mem_iff_getElem.mp hy';obtain⟨w',t',h1,h2⟩:=xW rv (getElem?_eq_getElem hm);rw[em] at h2;rw[h2];exact SeqAt.EqAt.str_str w' t' w t
  rw[show its.toArray.toList=its from rfl,cnt_strs w rv];exact⟨.int (ws.count w:Nat),H2,I2.tok _,⟨_,rfl⟩,q3⟩
theorem qm (K:PySem.W.Frag){apos cpos:Pos}(hu:X.A.in1.units<cLine)(ho:QE X o to)(he:QE X e te)(hK:X.K=K:=by rfl)
  (hbase:attributeBase o "count" X.env (eval o X.env)=eval o X.env:=by rfl)
  (hfew:((backTo cpos (starEach [e] X.env)).all (fun x=>!x.1)&&(backToKw cpos (keywordEach [] X.env)).all (fun x=>x.1.isSome)
   && decide ([e].length+([]:List Keyword).length+(if ([]:List Keyword).isEmpty then 0 else 1)<30))=true:=by rfl)
  (hline:(apos.endLine == cpos.line)=true:=by rfl) (hs:starEach [e] X.env=(false,eval e X.env)::starEach [] X.env:=by rfl) (hplain:(backTo cpos (starEach [] X.env)).any (·.1)=false:=by rfl) :
  QE X (.Call (.Attribute o "count" apos) [e] [] cpos) (zG K to te):=by
 subst hK;exact⟨Jy hu ho.h he.h hbase hfew hline hs hplain⟩
end
noncomputable def lbl (ss:Sts)(k:Nat):Int:=(bh ss k).2.2
noncomputable def oh (ss:Sts):Pl->List Nat->List (List Nat×Pl)
 | .pick l,left=>[(left,.pick l)]
 | .tab,left=>[(left,.tab)]
 | .one k r,left=>(left,.one k r)::oh ss r (left.filter (·≠k))
 | .wit k r,left=>(left,.wit k r)::oh ss r (left.filter (·≠k))
 | .low k a b,left=>(left,.low k a b)::(oh ss b (left.filter (k<=·))++oh ss a (left.filter (· < k)))
 | .msk l r,left=>(left,.msk l r)::oh ss r (left.filter fun k=>(bh ss k).2.2≠l)
noncomputable def VL (ss:Sts)(left:List Nat):Pl->Prop
 | .pick l=>∀k∈left,lbl ss k=l
 | .tab=>fY ss left<=200
 | .one k _=>k∈left/\(bh ss k).1=(bh ss k).2.1
 | .wit k _=>k∈left
 | .low k _ _=>k∈left
 | .msk l _=>fY ss left<=64/\∃k∈left,lbl ss k=l
noncomputable def PlV (ss:Sts):Pl->List Nat->Prop
 | .pick l,left=>Lf ss left/\VL ss left (.pick l)
 | .tab,left=>Lf ss left/\VL ss left .tab
 | .one k r,left=>(Lf ss left/\VL ss left (.one k r))/\PlV ss r (left.filter (·≠k))
 | .wit k r,left=>(Lf ss left/\VL ss left (.wit k r))/\PlV ss r (left.filter (·≠k))
 | .low k a b,left=>(Lf ss left/\VL ss left (.low k a b))/\PlV ss a (left.filter (· < k))/\PlV ss b (left.filter (k<=·))
 | .msk l r,left=>(Lf ss left/\VL ss left (.msk l r))/\PlV ss r (left.filter fun k=>(bh ss k).2.2≠l)
theorem PlV.ok {ss:Sts}:∀{p:Pl}{left:List Nat},PlV ss p left->xV ss p left
 | .pick l,left,h=>h.1
 | .tab,left,h=>h.1
 | .one k r,left,h=>⟨h.1.1,PlV.ok h.2⟩
 | .wit k r,left,h=>⟨h.1.1,PlV.ok h.2⟩
 | .msk k r,left,h=>⟨h.1.1,PlV.ok h.2⟩
 | .low k a b,left,h=>⟨h.1.1,PlV.ok h.2.1,PlV.ok h.2.2⟩
theorem PlV.here {ss:Sts}{p:Pl}{left:List Nat}(h:PlV ss p left):Lf ss left/\VL ss left p:=by
 cases p with
 | pick l=>exact h
 | tab=>exact h
 | _=>exact h.1
noncomputable def lV:Pl->Nat->List (Nat×Nat)
 | .pick _,_=>[]
 | .tab,_=>[]
 | .one _ r,p=>lV r (p+1)
 | .wit _ r,p=>lV r (p+1)
 | .msk _ r,p=>lV r (p+1)
 | .low _ a b,p=>lV b (p+1)++(p,p+1+cD b)::lV a (p+1+cD b)
theorem wk (p:Pl):1<=cD p:=by cases p <;> simp [cD]
noncomputable def Nx:List Pl->List Nat->Nat->List (Nat×Nat)
 | [],_,_=>[]
 | c::rest,T,p=>lV c p++(match T with | []=>[]|t::T'=>match rest with | []=>[]|_::_=>(t,p+cD c)::Nx rest T' (p+cD c))
noncomputable def slc (ws:List Int)(i j:Nat):List Int:=(ws.drop i).take (j-i)
inductive Tr:List Int->Int->Prop
 | leaf (w:Int):Tr [w] 0
 | node {a b:List Int} {x y:Int}:Tr a x->Tr b y->Tr (a++b) ((a++b).sum+(x+y))
inductive PTr (ss:Sts)(ws:List Int):Nat->Nat->Pl->Int->Prop
 | leaf {i:Nat}:i<ss.length->PTr ss ws i (i+1) (.pick (bh ss i).2.2) 0
 | node {i k j:Nat} {a b:Pl} {x y:Int}:i<k->k<j->PTr ss ws i k a x->PTr ss ws k j b y->PTr ss ws i j (.low k a b) ((slc ws i j).sum+(x+y))
open PySem.W (Frag clsIn findIn takerIn InstAt looks_clsIn looks_findIn looks_takesIn Looks check_slot looks_mroIn mroIn set_plain osa_eq)
open Builtin Builtin.ObjectAttr
noncomputable def vbm:List Value:=[.type "ValueError",.type "Exception",.type "BaseException",.type "object"]
open PySem.W (Frag clsIn findIn takerIn InstAt looks_clsIn looks_findIn looks_takesIn Looks check_slot looks_mroIn mroIn handedIn handedOut_of)
structure XCls (K:PySem.W.Frag)(C D N fI:Addr):Prop where
 obj:∃nm q bs sn sub ab col dd k0 k1 k2 k3 k5,K.lookup C=some (excClassObj nm q C N bs (.ref D::vbm) true sn sub ab col dd k0 k1 k2 k3 k5 "ValueError.__new__")
 tail:PySem.W.tailIn K vbm (.ref D::vbm)=true
 nsok:PySem.W.nsOkIn K N=true
 init:nsIn K N "__init__" = some (some (.ref fI))
 set:PySem.W.findIn K (.ref C) "__setattr__" = some (some (.builtin "object.__setattr__"))
 ga:PySem.W.findIn K (.ref C) "__getattribute__" = some (some (.builtin "BaseException.__getattribute__"))
 gk:PySem.W.findIn K (.ref C) "__getattr__" = some none
noncomputable abbrev TJ:=St->Hp->(Hp->Prop)->Prop
open PySem.W (Frag clsIn findIn takerIn InstAt looks_clsIn looks_findIn looks_takesIn looks_specialIn specialIn takesIn Looks check_slot looks_mroIn mroIn handedIn handedOut_of class_get KitX)
open Builtin
mutual
noncomputable def noL:PyData->Bool
 | .list _=>false
 | .tuple ds=>Oz ds
 | _=>true
noncomputable def Oz:List PyData->Bool
 | []=>true
 | d::ds=>noL d&&Oz ds
end
noncomputable def Nr:Pl->Bool
 | .pick _=>true
 | .tab=>true
 | _=>false
noncomputable def O8 (ss:Sts)(C:List (List Nat×Pl)):List (List Nat×Pl):=(C.map fun x=>oh ss x.2 x.1).flatten
noncomputable def Gv (S:List (List Nat×Pl)):Nat->Bool
 | 0=>false
 | i+1=>match S[i]? with
  | some x=>Nr x.2
  | none=>false
structure AhSt (ss:Sts)(S:List (List Nat×Pl))(tot:List (Nat×Nat))(i:Nat)(C:List (List Nat×Pl))(T:List Nat)(done:List (Nat×Nat)):Prop where
 fl:S.drop i=O8 ss C
 no:Gv S i=false->T.length+1=C.length/\tot=done++Nx (C.map (·.2)) T i
 yes:Gv S i=true->T.length=C.length/\((C=[]/\tot=done)\/∃t T',T=t::T'/\tot=done++(t,i)::Nx (C.map (·.2)) T' i)
theorem aJ.ju {ok:Addr->Prop}{H:Hp}{xs:List V}{d:PyData}{ds:List PyData}(t:aJ ok H xs (d::ds)):∃x r,xs=x::r/\aF ok H x d/\aJ ok H r ds:=by
 cases t with
 | cons h r=>exact⟨_,_,rfl,h,r⟩
theorem aF.yd {ok:Addr->Prop}{H:Hp}{x:V}{ds:List PyData}(t:aF ok H x (.tuple ds)):∃p xs,x=.ref p/\H p=some (.tup xs)/\aJ ok H xs ds:=by
 cases t with
 | tup o e z ts=>exact⟨_,_,rfl,e,ts⟩
noncomputable def yg:Sp:=fun vs H Q _=>∃(s l:V)(ok:Addr->Prop)(ss:Sts)(left:List Nat),vs=[s,l]/\aF ok H s (.list (ss.map stD))/\aF ok H l (iK left)/\Lf ss left /\
 ∀(a:Addr),H a=none->Q (.ref a) (upd H a (.lst ((left.map (lbl ss)).map V.int)))
noncomputable def En:PyData->Option V
 | .int i=>some (.int i)
 | .str z=>some (.str z)
 | _=>none
theorem aF.sc2 {ok:Addr->Prop}{H:Hp}{x v:V}{d:PyData}(t:aF ok H x d)(h:En d=some v):x=v:=by
 cases t with
 | int i=>exact Option.some.inj h
 | str z=>exact Option.some.inj h
 | _=>cases h
noncomputable def DY:Sp:=fun vs H Q _=>∃(p:Addr)(m B:Int),vs=[.ref p,.int m]/\bA H p B/\0<=B/\B<=900000/\1<=m/\m<=60 /\
 ∀(l:Addr)(ss:Sts) H',cg p H H'->bA H' p (B+2000)->aF (·≠p) H' (.ref l) (.list (ss.map stD))->(ss.length:Int)=m->mj ss->(∀s,ss[0]?=some s->s.1<=10^9)->Q (.ref l) H'
noncomputable def tR:Sp:=fun vs H Q _=>∃(p l:Addr)(B:Int)(ss:Sts),vs=[.ref p,.ref l]/\bA H p B/\0<=B/\B<=900000/\aF (·≠p) H (.ref l) (.list (ss.map stD))/\ss≠[]/\mj ss/\(∀s,ss[0]?=some s->s.1<=10^9) /\
 ∀(l':Addr)(ss':Sts) H',cg p H H'->bA H' p (B+4)->aF (·≠p) H' (.ref l') (.list (ss'.map stD))->ss'.length=ss.length->mj ss'->Q (.ref l') H'
theorem mj.pre {a b:Sts}(h:mj (a++b)):mj a:=by
 have get:∀(i:Nat) s,a[i]?=some s->(a++b)[i]?=some s:=fun i s e=>by
  rw[List.getElem?_append_left (List.getElem?_eq_some_iff.mp e).1];exact e
 exact⟨fun i s e=>h.lh i s (get i s e),fun i s t e f=>h.nx i s t (get i s e) (get _ t f),fun i s e=>h.bd i s (get i s e)⟩
theorem mj.Gx {a:Sts}{lo hi b hi':Int}(h:mj (a++[(lo,hi,b)]))(h1:lo<=hi')(h2:hi'<=10^9+(10^12+10)*(a.length+1)):mj (a++[(lo,hi',b)]):=by
 have e:(a++[(lo,hi,b)])[a.length]?=some (lo,hi,b):=by rw[getElem?_append_right (le_refl _),sub_self];rfl
 refine h.pre.snoc h1 (h.lh _ _ e).2 ⟨(h.bd _ _ e).1,h2⟩ fun s hs=>?_;have hl:=(List.getElem?_eq_some_iff.mp hs).1;exact h.nx (a.length-1) s (lo,hi,b) (by rw[List.getElem?_append_left hl];exact hs) (by rw[show a.length-1+1=a.length by omega];exact e)
theorem xu (xs:List V):jj xs none (some (-1))=xs.dropLast:=by
 unfold jj;have e1:HT.sIx xs.length 0 none=0:=by simp [HT.sIx]
 have e2:HT.sIx xs.length xs.length (some (-1))=xs.length-1:=by
  simp only[HT.sIx];split
  ·omega
  omega
 rw[e1,e2,List.drop_zero,Nat.sub_zero,List.dropLast_eq_take]
noncomputable def lD (n:Nat):Sp:=fun vs H Q _=>∃(p:Addr)(s l:V)(B:Int)(ss:Sts)(left:List Nat),vs=[.ref p,s,l]/\bA H p B/\0<=B/\B+12*(left.length:Int)<=900000/\aF (·≠p) H s (.list (ss.map stD))/\aF (·≠p) H l (iK left)/\Lf ss left/\left.length<=n/\left.length<=60 /\
 ∀(v:V)(pl:Pl) H',cg p H H'->bA H' p (B+12*(left.length:Int)-6)->aF (·≠p) H' v (plD pl)->PlV ss pl left->dI pl<left.length->cD pl+1<=2*left.length->Q v H'
noncomputable def ou (n:Nat):Sp:=fun vs H Q _=>∃(p:Addr)(s l v:V)(B:Int)(ss:Sts)(left:List Nat)(pl:Pl),vs=[.ref p,s,l,v]/\bA H p B/\0<=B/\B+2*(cD pl:Int)<=900000/\aF (·≠p) H s (.list (ss.map stD))/\aF (·≠p) H l (iK left)/\aF (·≠p) H v (plD pl)/\PlV ss pl left/\dI pl<n/\ss.length<=60 /\
 ∀(v':V)(pl':Pl) H',cg p H H'->bA H' p (B+2*(cD pl:Int))->aF (·≠p) H' v' (plD pl')->PlV ss pl' left->cD pl'=cD pl->Q v' H'
section
variable {X:Cx}{e o:Expr}{te to:TE}{pos:Pos}
theorem Gb:OpR X (compareOp .IsNot) (fun x y H Q=>∃a b,x=.bl a/\y=.bl b/\Q (.bl (!decide (a=b))) H):=by
 intro pins s σ H x y v u Q I rx ry h;obtain⟨a,b,rfl,rfl,q⟩:=h;cases rx;cases ry;cases a <;> cases b <;> exact wpAny_pure ⟨.bl _,H,I,rfl,q⟩
end
theorem ln1 {α:Type}{us:List α}(h:us.length=1):∃a,us=[a]:=by
 cases us with
 | nil=>cases h
 | cons a r=>
  cases r with
  | nil=>exact⟨a,rfl⟩
  | cons b r=>cases h
theorem ln2 {α:Type}{us:List α}(h:us.length=2):∃a0 a1,us=[a0,a1]:=by
 cases us with
 | nil=>cases h
 | cons a0 r=>
  obtain⟨a1,rfl⟩:=ln1 (Nat.succ.inj h);exact⟨a0,a1,rfl⟩
theorem ln3 {α:Type}{us:List α}(h:us.length=3):∃a0 a1 a2,us=[a0,a1,a2]:=by
 cases us with
 | nil=>cases h
 | cons a0 r=>
  obtain⟨a1,a2,rfl⟩:=ln2 (Nat.succ.inj h);exact⟨a0,a1,a2,rfl⟩
theorem ln4 {α:Type}{us:List α}(h:us.length=4):∃a0 a1 a2 a3,us=[a0,a1,a2,a3]:=by
 cases us with
 | nil=>cases h
 | cons a0 r=>
  obtain⟨a1,a2,a3,rfl⟩:=ln3 (Nat.succ.inj h);exact⟨a0,a1,a2,a3,rfl⟩
noncomputable def tV (i:Nat):TE:=fun σ H Q=>match σ[i]? with
 | some (some x)=>Q x H
 | _=>False
theorem Ky {i:Nat}{σ:St}{H:Hp}{Q:VK}(h:tV i σ H Q):Dm i σ H Q:=by
 unfold tV at h;split at h
 ·rename_i x e;exact⟨x,e,h⟩
 exact h.elim
section
variable {X:Cx}{i:Nat}{x:Str}{pos:Pos}
theorem ao (h:Nm X.N X.env.scope i x):QE X (.Name x pos) (tV i):=⟨fun pins s σ H Q I q=>(PX h).h pins s σ H Q I (Ky q)⟩
theorem aW (i:Nat) {x:Str}{pos:Pos}(hN:X.N[i]?=some x:=by rfl) (hv:Vis X.env.scope x:=by first|exact Or.inl rfl|exact Or.inr (Or.inl rfl)|exact Or.inr (Or.inr rfl)) (hd:(x == ("__debug__" : Str))=false:=by decide)
  (hcd:(x == ("__classdict__" : Str))=false:=by decide):QE X (.Name x pos) (tV i):=⟨fun pins s σ H Q I q=>(PN i hN hv hd hcd).h pins s σ H Q I (Ky q)⟩
end
noncomputable def atq (o:Option V)(H:Hp)(Q:VK):Prop:=∃v,o=some v/\Q v H
theorem Hv (v:V)(H:Hp)(Q:VK):atq (some v) H Q=Q v H:=propext ⟨fun⟨_,e,h⟩=>by cases e;exact h,fun h=>⟨v,rfl,h⟩⟩
theorem GC (xs:List V)(i:Int)(H:Hp)(Q:VK):ixq (some (.lst xs)) i H Q=atq (atI xs i) H Q:=rfl
theorem Gz (xs:List V)(i:Int)(H:Hp)(Q:VK):ixq (some (.tup xs)) i H Q=atq (atI xs i) H Q:=rfl
theorem Nz {b:Bool}{P:Bool->Prop}:(∃k,V.bl b=V.bl k/\P k)=P b:=propext ⟨fun⟨_,e,h⟩=>by cases e;exact h,fun h=>⟨b,rfl,h⟩⟩
theorem Kg {a:Int}{P:Int->Prop}:(∃k,V.int a=V.int k/\P k)=P a:=propext ⟨fun⟨_,e,h⟩=>by cases e;exact h,fun h=>⟨a,rfl,h⟩⟩
theorem Kf {a b:Int}{P:Int->Int->Prop}:(∃i j,V.int a=V.int i/\V.int b=V.int j/\P i j)=P a b:=propext ⟨fun⟨_,_,e,f,h⟩=>by cases e;cases f;exact h,fun h=>⟨a,b,rfl,rfl,h⟩⟩
theorem Ke {a b:V}{P:V->V->Prop}:(∃i j,[a,b]=[i,j]/\P i j)=P a b:=propext ⟨fun⟨_,_,e,h⟩=>by cases e;exact h,fun h=>⟨a,b,rfl,h⟩⟩
theorem O9 {α:Type}(a b c d:α)(l:List α):atI (a::b::c::d::l) 3=some d:=cU (j:=3) rfl
noncomputable def ry0:=And.intro @Bo.eq_1 (And.intro @Bp.eq_1 (And.intro @qt.eq_1 (And.intro @tOp.eq_1 (And.intro @rI.eq_1 (And.intro @rI0.eq_1 (And.intro @rU.eq_1 (And.intro @tUn.eq_1 (And.intro @tC.eq_1 (And.intro @Dq.eq_1 (And.intro @vO.eq_1 (And.intro @qw.eq_1 (And.intro @vP.eq_1 (And.intro @Dw.eq_1 (And.intro @tCB.eq_1 (And.intro @tIf.eq_1 (And.intro @Dv.eq_1 (And.intro @tB.eq_1 (And.intro @DQ.eq_1 (And.intro @Du.eq_1 (And.intro @Dy.eq_1 (And.intro @Dp.eq_1 (And.intro @rZ.eq_1 (And.intro @jR.eq_1 (And.intro @Nt.eq_1 (And.intro @Cq (And.intro @J9 (And.intro @wg (And.intro @Ew (And.intro @Ez (And.intro @Iw (And.intro @HS.eq_1 (And.intro @Kc @Nu))))))))))))))))))))))))))))))))
noncomputable def ry1:=And.intro @Fd (And.intro @Bu (And.intro @Bv (And.intro @Ik (And.intro @GC (And.intro @Gz (And.intro @HY (And.intro @J0 (And.intro @JZ (And.intro GD.1 (And.intro GD.2.1 (And.intro GD.2.2 (And.intro @Pg (And.intro @Pb (And.intro @Pa (And.intro @aB (And.intro @Fe (And.intro @Gy (And.intro @Np (And.intro @Nk (And.intro @kc_bool (And.intro @ty_int (And.intro @N8 (And.intro @ty_str (And.intro @KN (And.intro @KJ (And.intro @HF (And.intro @HD (And.intro @oF (And.intro @pW (And.intro @uM @v7))))))))))))))))))))))))))))))
noncomputable def ry2:=And.intro @v5 (And.intro @yq (And.intro @vY (And.intro @yp (And.intro @yo (And.intro @uL (And.intro @vZ (And.intro @sE (And.intro @uK (And.intro @qG (And.intro @Bool.not_true (And.intro @Bool.not_false (And.intro @Bool.false_eq_true (And.intro @decide_true (And.intro @DK.eq_1 (And.intro @rEq.eq_1 (And.intro @rNe.eq_1 @Iv))))))))))))))))
noncomputable def ry3:=And.intro @Iu (And.intro @zq (And.intro @Lb (And.intro @Ld (And.intro @Le (And.intro @JV (And.intro @Lh (And.intro @O6 (And.intro @O5 (And.intro @KZ.eq_1 (And.intro @qu.eq_1 (And.intro @Ek (And.intro @Ig (And.intro @Ej (And.intro @Di.eq_1 (And.intro @N7.eq_1 (And.intro @KH.eq_1 (And.intro @L2.start.eq_1 (And.intro @map_cons.{0,0} (And.intro @map_nil.{0,0} (And.intro @length_cons.{0} (And.intro @List.length_nil.{0} (And.intro @List.cons_append.{0} (And.intro @List.nil_append.{0} (And.intro @replicate_succ.{0} (And.intro @List.replicate_zero.{0} (And.intro @append_nil.{0} (And.intro @List.getElem?_cons_zero.{0} @getElem?_cons_succ.{0})))))))))))))))))))))))))))
noncomputable def ry4:=And.intro @set_cons_zero.{0} (And.intro @set_cons_succ.{0} (And.intro @sub_self (And.intro @Option.some.injEq.{0} (And.intro @exists_eq_left'.{1} (And.intro @V.int.injEq (And.intro @V.str.injEq (And.intro @V.bl.injEq (And.intro @V.ref.injEq (And.intro @List.cons.injEq.{0} (And.intro @and_true (And.intro @true_and (And.intro @exists_and_left.{1} (And.intro @decide_eq_true_eq (And.intro @DN (And.intro @Hz (And.intro @Ai (And.intro @vK (And.intro @Er (And.intro @Ib (And.intro @tSl.eq_1 (And.intro @uH.eq_1 @Dt.eq_1)))))))))))))))))))))
noncomputable def ry5:=And.intro @Ij (And.intro @Io (And.intro @Im (And.intro @GK (And.intro @J6 (And.intro @J5 (And.intro @HW (And.intro @Dk (And.intro @HN (And.intro @HJ (And.intro @Dr (And.intro @Jk (And.intro @Jj @ye.eq_1))))))))))))
noncomputable def ry6:=And.intro @O9 (And.intro @Hv (And.intro @Nz (And.intro @Kg (And.intro @Kf @Ke))))
noncomputable def rdy:=And.intro ry0 (And.intro ry1 (And.intro ry2 (And.intro ry3 (And.intro ry4 (And.intro ry5 (And.intro ry6 @tV.eq_1))))))
theorem cT {K:PySem.W.Frag}{h:Heap}{mg:Str->Option Value}{x:Str}{st:Stmt}{ps:List Str}{f:Addr}{oc:Value}{od an:Option Addr}{osl:Array (Option Value)}{kV doc pm cdv ct:Value}(X:K.In h)(G:h.Ns mainGlobals mg)(a:nsIn K mainGlobals x=some (some (.ref f)))
  (l:K.lookup f=some ⟨oc,od,.func (fnOf x x (bG st) (bC st) (ak st) .none kV doc pm an cdv ct),osl⟩) (c:codeIn K cdv x=true) (k:keepIn K (.ref f)=true)
  (hb:∀(kV doc pm:Value)(an:Option Addr)(cdv ct:Value)(us:List Value),us.length=ps.length->bindArgs (fnOf x x (bG st) (bC st) (ak st) .none kV doc pm an cdv ct) ⟨us,[]⟩=pure (ps.zip us)):N6 K mg x st ps f (fnOf x x (bG st) (bC st) (ak st) .none kV doc pm an cdv ct):=
 ⟨G4 (st:=st) l c k,(G4 (st:=st) l c k).binds hb,mg_of X G a⟩
end L2
set_option maxHeartbeats 4100000
namespace SRT
open PySem PyProof.Rows
noncomputable def Ris (xs:Array Nat):Prop:=xs.toList.Pairwise (· < ·)
theorem Ris.lt {xs:Array Nat}(h:Ris xs){i k x y:Nat}(hx:xs[i]?=some x)(hy:xs[k]?=some y)(hik:i<k):x<y:=by
 rw[<- getElem?_toList] at hx hy;obtain⟨h1,rfl⟩:=List.getElem?_eq_some_iff.mp hx;obtain⟨h2,rfl⟩:=List.getElem?_eq_some_iff.mp hy;exact List.pairwise_iff_getElem.mp h i k h1 h2 hik
theorem Ka {xs:Array Nat}(hr:Ris xs)(j:Nat):∀fuel lo hi,hi-lo<=fuel->lo<=hi->hi<=xs.size->(∀i x,xs[i]?=some x->i<lo->x<j)->(∀i x,xs[i]?=some x->hi<=i->j<=x) ->
  (∀i x,xs[i]?=some x->(i<SetTable.below.go xs j fuel lo hi↔x<j))/\SetTable.below.go xs j fuel lo hi<=xs.size:=by
 intro fuel
 induction fuel with
 | zero=>
  intro lo hi h1 h2 h3 h4 h5;have e:hi=lo:=ω;subst e;refine⟨fun i x hx=>⟨fun hl=>h4 i x hx hl,fun hl=>?_⟩,h3⟩;show i<hi;refine Nat.lt_of_not_le fun hle=>?_;have:=h5 i x hx hle;omega
 | succ fuel ih=>
  intro lo hi h1 h2 h3 h4 h5;show(∀i x,xs[i]?=some x->(i<(if lo<hi then if xs.getD ((lo+hi)/2) j<j then SetTable.below.go xs j fuel ((lo+hi)/2+1) hi else SetTable.below.go xs j fuel lo ((lo+hi)/2) else lo)↔x<j))/\(if lo<hi then if xs.getD ((lo+hi)/2) j<j then SetTable.below.go xs j fuel ((lo+hi)/2+1) hi else SetTable.below.go xs j fuel lo ((lo+hi)/2) else lo)<=xs.size;by_cases hl:lo<hi
  ·rw[if_pos hl];have hm:(lo+hi)/2<xs.size:=ω;have hg:xs[(lo+hi)/2]?=some xs[(lo+hi)/2]:=by simp [hm]
   have hd:xs.getD ((lo+hi)/2) j=xs[(lo+hi)/2]:=by simp [Array.getD,hm]
   rw[hd];by_cases hc:xs[(lo+hi)/2]<j
   ·rw[if_pos hc];refine ih _ _ ω ω h3 (fun i x hx hi'=>?_) h5;by_cases e:i=(lo+hi)/2
    ·subst e;rw[hg] at hx;cases hx;exact hc
    exact Nat.lt_trans (hr.lt hx hg ω) hc
   rw[if_neg hc];refine ih _ _ ω ω ω h4 (fun i x hx hi'=>?_);by_cases e:i=(lo+hi)/2
   ·subst e;rw[hg] at hx;cases hx;omega
   have:=hr.lt hg hx ω;omega
  rw[if_neg hl];have e:hi=lo:=ω;subst e;refine⟨fun i x hx=>⟨fun hl=>h4 i x hx hl,fun hl=>?_⟩,h3⟩;refine Nat.lt_of_not_le fun hle=>?_;have:=h5 i x hx hle;omega
theorem mX {xs:Array Nat}(hr:Ris xs)(j:Nat):(∀i x,xs[i]?=some x->(i<SetTable.below xs j↔x<j))/\SetTable.below xs j<=xs.size:=by
 unfold SetTable.below;refine Ka hr j _ _ _ ω ω (le_refl _) (fun _ _ _ h=>absurd h ω) fun i x hx hi=>?_;have:=(Array.getElem?_eq_some_iff.mp hx).1;omega
theorem xR {xs:Array Nat}(hr:Ris xs){j:Nat}(hn:xs[SetTable.below xs j]?≠some j):∀x∈xs.toList,x≠j:=by
 intro x hx e;subst e;obtain⟨i,hi,e⟩:=mem_iff_getElem.mp hx;have hg:xs[i]?=some x:=by rw[<- getElem?_toList,getElem?_eq_getElem hi,e]
 have hs:=mX hr x;have h1:=(hs.1 i x hg);have h2:SetTable.below xs x<=i:=by
  refine Nat.le_of_not_lt fun h=>?_;exact lt_irrefl _ (h1.mp h)
 rcases lt_or_ge (SetTable.below xs x) i with h|h
 ·have hi':i<xs.size:=by simpa using hi
  have hb:SetTable.below xs x<xs.size:=ω;have hgb:xs[SetTable.below xs x]?=some xs[SetTable.below xs x]:=by simp [hb]
  have l1:=hr.lt hgb hg h;have:=(hs.1 _ _ hgb).mpr l1;omega
 have e:SetTable.below xs x=i:=ω;rw[e] at hn;exact hn hg
theorem sX {α:Type}(xs:Array α)(p:Nat)(x:α):(SetTable.insertAt xs p x).toList=xs.toList.take p++x::xs.toList.drop p:=by
 unfold SetTable.insertAt;simp [Array.toList_extract,List.extract,take_of_length_le]
theorem yr {xs:Array Nat}(hr:Ris xs){j:Nat}(hn:xs[SetTable.below xs j]?≠some j):Ris (SetTable.insertAt xs (SetTable.below xs j) j):=by
 have hs:=mX hr j;have hne:=xR hr hn;show(SetTable.insertAt xs (SetTable.below xs j) j).toList.Pairwise (· < ·);rw[sX];have hx:xs.toList.Pairwise (· < ·):=hr;rw[List.pairwise_append,pairwise_cons];refine⟨hx.sublist (List.take_sublist _ _),⟨fun y hy=>?_,hx.sublist (List.drop_sublist _ _)⟩,fun a ha b hb=>?_⟩
 ·obtain⟨i,hi,e⟩:=mem_iff_getElem.mp hy;rw[List.getElem_drop] at e;have hl:SetTable.below xs j+i<xs.toList.length:=by rw[length_drop] at hi;omega
  have hg:xs[SetTable.below xs j+i]?=some y:=by rw[<- getElem?_toList,getElem?_eq_getElem hl,e]
  have h1:=hs.1 _ _ hg;have h2:=hne y (List.mem_of_mem_drop hy);have:¬(y<j):=fun h=>by have:=h1.mpr h;omega
  omega
 have l1:a<j:=by
  obtain⟨i,hi,e⟩:=mem_iff_getElem.mp ha;rw[List.getElem_take] at e;have hl:i<SetTable.below xs j/\i<xs.toList.length:=by rw[length_take] at hi;omega
  have hg:xs[i]?=some a:=by rw[<- getElem?_toList,getElem?_eq_getElem hl.2,e]
  exact(hs.1 _ _ hg).mp hl.1
 rcases mem_cons.mp hb with rfl|hb
 ·exact l1
 obtain⟨i,hi,e⟩:=mem_iff_getElem.mp hb;rw[List.getElem_drop] at e;have hl:SetTable.below xs j+i<xs.toList.length:=by rw[length_drop] at hi;omega
 have hg:xs[SetTable.below xs j+i]?=some b:=by rw[<- getElem?_toList,getElem?_eq_getElem hl,e]
 have h1:=hs.1 _ _ hg;have:¬(b<j):=fun h=>by have:=h1.mpr h;omega
 omega
noncomputable def TOk (b:Bool)(t:SetTable):Prop:=Ris t.place/\t.dummies=#[]/\t.led=b
theorem Bj {b:Bool}{t:SetTable}(h:TOk b t)(p:Bool):TOk b { t with plain:=p }:=h
theorem Bt (n:Nat):Ris (Array.range n):=by
 show(Array.range n).toList.Pairwise (· < ·);rw[Array.toList_range];exact pairwise_lt_range
theorem iW {b:Bool}{t:SetTable}(h:TOk b t)(n:Nat):TOk b (t.standIn n):=⟨Bt n,rfl,h.2.2⟩
theorem rY {b:Bool}{t:SetTable}(h:TOk b t)(n:Nat):TOk b (t.orStandIn n):=by
 unfold SetTable.orStandIn;split
 ·exact h
 exact iW h n
theorem Bk (f m:Nat)(b:Bool):TOk b (SetTable.fresh f m b):=⟨List.Pairwise.nil,rfl,rfl⟩
theorem yt {t:SetTable}(hd:t.dummies=#[]){f:Nat->Int}{h:Int}(hf:∀i,(f i == h)=false):∀(fuel:Nat)(p:SetTable.Probe),p.dummy=none ->
  ∀m,SetTable.probe.go t f h fuel p=some m->∃j,m=.empty j none/\t.place[SetTable.below t.place j]?≠some j:=by
 intro fuel
 induction fuel with
 | zero=>intro p _ m e;exact absurd e (by simp [SetTable.probe.go])
 | succ fuel ih=>
  intro p hp m e;unfold SetTable.probe.go at e;have hnd:∀j,SetTable.has t.dummies j=false:=fun j=>by rw[hd];simp [SetTable.has]
  have hadv:∀q:SetTable.Probe,q.dummy=none->(t.advance q).dummy=none:=fun q hq=>by
   unfold SetTable.advance;split
   ·exact hq
   exact hq
  split at e
  ·rename_i hs;cases e;refine⟨p.j,by rw[hp],fun hc=>?_⟩;unfold SetTable.slot at hs;simp [hc] at hs
  ·rename_i hs;unfold SetTable.slot at hs;dsimp only at hs;split at hs
   ·cases hs
   rw[hnd] at hs;simp at hs
  rw[hf,if_neg (by simp)] at e;exact ih _ (hadv _ hp) m e
theorem wY {t:SetTable}(hd:t.dummies=#[]){h:Int}{j:Nat}{b:Bool}(e:t.freeSlot h=some (j,b)):t.place[SetTable.below t.place j]?≠some j:=by
 unfold SetTable.freeSlot SetTable.probe at e;split at e
 ·rename_i j' d hp;obtain⟨j2,e2,hn⟩:=yt hd (f:=fun _=>h+1) (h:=h) (fun i=>by simp;omega) _ _ rfl _ hp;cases e2;simp at e;rw[<- e.1];exact hn
 cases e
theorem yM {b:Bool}{t:SetTable}(ht:TOk b t)(es:Array (Int×Value))(h:Int)(x:Value):TOk b (layNew t es h x).2.1:=by
 unfold layNew;split
 ·rename_i slot wd hs;have hn:=wY ht.2.1 hs;refine rY ?_ _;unfold SetTable.put;refine⟨yr ht.1 hn,?_,ht.2.2⟩;show(if SetTable.has t.dummies slot=true then SetTable.eraseAt t.dummies (SetTable.below t.dummies slot) else t.dummies)=#[];rw[ht.2.1];rfl
 exact iW ht _
theorem uP {b:Bool}{t:SetTable}(ht:TOk b t)(es:Array (Int×Value))(n:Nat):TOk b (relayAll t es n).2.1:=by
 unfold relayAll;split
 ·rename_i t' order hr;dsimp only;split
  ·unfold SetTable.relaid SetTable.laid at hr;cases ho:SetTable.layClean (SetTable.sizeAbove n-1) (es.map (·.1)) with
   | none=>rw[ho] at hr;cases hr
   | some owner=>
    rw[ho] at hr;simp only[Option.bind_eq_bind,Option.bind_some,Option.pure_def,Option.some.injEq,Prod.mk.injEq] at hr;obtain⟨rfl,-⟩:=hr;refine⟨?_,rfl,ht.2.2⟩;show(List.map _ _).toArray.toList.Pairwise (· < ·);rw[List.toList_toArray,List.pairwise_map,List.pairwise_filterMap];refine pairwise_lt_range.imp fun {a c} hac p hp q hq=>?_;simp only[Option.map_eq_some_iff] at hp hq;obtain⟨_,_,rfl⟩:=hp;obtain⟨_,_,rfl⟩:=hq;exact hac
  exact iW ht _
 exact iW ht _
end SRT
namespace SRT
open PySem PyProof.Rows
section
variable {prog:Program}{w:World}{K:Type}[DecidableEq K]
noncomputable def SetT (knd:KeyKind prog w K)(b:Bool)(h:Heap)(a:Addr)(S:K->Bool)(n:Nat):Prop:=
 ∃o es ep t,h.get? a=some o/\o.ExactSet/\o.data=.set es ep t/\(ElemsOf knd es.toList/\(∀k,S k=true ↔ ∃e∈es.toList,knd.is k e.2=true)/\es.size<scanBound)/\t.fits es.size=true/\es.size=n/\TOk b t
variable {knd:KeyKind prog w K}{A:Around}{E:Value->Shared->Prop}{s:Shared}{b:Bool}
theorem SetT.get {h h':Heap}{a:Addr}{S:K->Bool}{n:Nat}(hS:SetT knd b h a S n)(hk:∀o,h.get? a=some o->h'.get? a=some o):SetT knd b h' a S n:=
 let ⟨o,es,ep,t,ho,r⟩:=hS;⟨o,es,ep,t,hk o ho,r⟩
theorem SetT.congr {h:Heap}{a:Addr}{S S':K->Bool}{n n':Nat}(hS:SetT knd b h a S n)(e:∀k,S k=S' k)(en:n=n'):SetT knd b h a S' n':=by
 have:S=S':=funext e;subst this;subst en;exact hS
theorem tU {h:Heap}{a:Addr}{o:Obj}{es:Array (Int×Value)}{ep:Nat}{t:SetTable}(ho:h.get? a=some o)(hex:o.ExactSet)(hd:o.data=.set es ep t)
  {es':Array (Int×Value)} {t':SetTable} {S':K->Bool} (hel:ElemsOf knd es'.toList/\(∀k,S' k=true ↔ ∃e∈es'.toList,knd.is k e.2=true)/\es'.size<scanBound) (hf:t'.fits es'.size=true) (ht:TOk b t') :
  (h.update a (Obj.putSet es' t')).get? a=some { o with data:=.set es' (ep+1) t' }/\SetT knd b (h.update a (Obj.putSet es' t')) a S' es'.size:=by
 have hg:(h.update a (Obj.putSet es' t')).get? a=some { o with data:=.set es' (ep+1) t' }:=by
  have q:=get?_update_self (Obj.putSet es' t') ho (by rw[putSet_of es' t' hd];rfl);rw[putSet_of es' t' hd] at q;exact q
 exact⟨hg,_,es',ep+1,t',hg,hex,rfl,hel,hf,rfl,ht⟩
theorem xU {g:Bool->Sem Unit}(hg:∀(c:Bool)(s₁:Shared)(Q':Unit->Shared->Prop),Q' () s₁->wpAny (model prog w) A (g c) Q' E s₁)
  {a:Addr} {o:Obj} {es:Array (Int×Value)} {ep:Nat} {t:SetTable} (ho:s.heap.get? a=some o) (hex:o.ExactSet) (hd:o.data=.set es ep t)
  {es1:Array (Int×Value)} {t2:SetTable} {S':K->Bool} (hel:ElemsOf knd es1.toList/\(∀k,S' k=true ↔ ∃e∈es1.toList,knd.is k e.2=true)/\es1.size<scanBound)
  (hf:t2.fits es1.size=true) (ht:TOk b t2) {wd:Bool} {R:Option Bool->Shared->Prop}
  (h:∀h',Heap.SameBut a s.heap h'->SetT knd b h' a S' es1.size->R (some true) { s with heap:=h' }) :
  wpAny (model prog w) A (storeSet a es1 t2 >>= fun _=>if (!wd&&t2.tooFull)=true then (g (relayAll t2 es1 (SetTable.grown es1.size)).2.2 >>= fun _=>storeSet a (relayAll t2 es1 (SetTable.grown es1.size)).1 (relayAll t2 es1 (SetTable.grown es1.size)).2.1 >>= fun _=>pure (some true)) else pure (some true)) R E s:=by
 refine wpAny_bind (wpAny_storeSet_of ho hd ?_ (fits_of_scanBound hel.2.2));obtain⟨ho1,hS1⟩:=tU (knd:=knd) ho hex hd hel hf ht;have hsb1:=Heap.SameBut.update s.heap a (Obj.putSet es1 t2);by_cases hc:(!wd&&t2.tooFull)=true
 ·rw[if_pos hc];have hp:=relayAll_perm t2 es1 (SetTable.grown es1.size);have hfr:=relayAll_fits t2 es1 (SetTable.grown es1.size);have htr:=uP ht es1 (SetTable.grown es1.size);generalize relayAll t2 es1 (SetTable.grown es1.size)=Rl at hp hfr htr |-;obtain⟨es2,t3,gv⟩:=Rl;dsimp only at hp hfr htr |-;have hsz:es2.size=es1.size:=by rw[<- length_toList,hp.length_eq,length_toList]
  have hel2:ElemsOf knd es2.toList/\(∀k,S' k=true ↔ ∃e∈es2.toList,knd.is k e.2=true)/\es2.size<scanBound:=
   ⟨hel.1.perm hp,fun k=>(hel.2.1 k).trans ⟨fun⟨e,he,q⟩=>⟨e,hp.mem_iff.mpr he,q⟩,fun⟨e,he,q⟩=>⟨e,hp.mem_iff.mp he,q⟩⟩,by rw[hsz];exact hel.2.2⟩
  refine wpAny_bind (hg _ _ _ (wpAny_bind (wpAny_storeSet_of ho1 rfl ?_ (fits_of_scanBound hel2.2.2))));obtain⟨_,hS2⟩:=tU (knd:=knd) ho1 hex rfl hel2 hfr htr;rw[hsz] at hS2;exact wpAny_pure (h _ (hsb1.trans (Heap.SameBut.update _ a _)) hS2)
 rw[if_neg hc];exact wpAny_pure (h _ hsb1 hS1)
theorem Eh {a:Addr}{S:K->Bool}{n:Nat}{k:K}{x:Value}{Q:Bool->Shared->Prop}(hkey:knd.is k x=true)(hsc:x.scannable=true)(hS:SetT knd b s.heap a S n)(hroom:n+1<scanBound)
  (h:∀h',Heap.SameBut a s.heap h'->SetT knd b h' a (fun k'=>S k'||decide (k'=k)) (if S k then n else n+1)->Q (!S k) { s with heap:=h' }) :
  wpAny (model prog w) A (setAddHashed a x (knd.hash k)) Q E s:=by
 obtain⟨o,es,ep,t,ho,hex,hd,hel,hf,hn,ht⟩:=hS;unfold setAddHashed setAddHashedIn;refine wpAny_holding (wpAny_bind (wpAny_setState_of ho hd hf ?_));dsimp only;rw[byScan_of hsc hel.2.2 hel.1,if_pos rfl];unfold setAddByScan;refine wpAny_bind (wpAny_bind (wpAny_rule (wpAny_bind (wpAny_setScan_of hkey ho hd hf hel.1 ?_))));cases hr:List.findIdx? (fun e=>knd.is k e.2) es.toList with
 | some j=>
  dsimp only;obtain⟨hj,hpj,_⟩:=List.findIdx?_eq_some_iff_getElem.mp hr;have hSk:S k=true:=(hel.2.1 k).mpr ⟨es.toList[j],getElem_mem hj,hpj⟩;refine wpAny_pure (wpAny_pure ?_);have q:=h s.heap (Heap.SameBut.refl a s.heap) ⟨o,es,ep,t,ho,hex,hd,⟨hel.1,fun k'=>by
   rw[Bool.or_eq_true,decide_eq_true_eq,<- hel.2.1 k'];exact⟨fun hk=>hk.elim id (fun e=>e ▸ hSk),.inl⟩,hel.2.2⟩,hf,by rw[hSk];exact hn,ht⟩
  rw[hSk] at q;exact q
 | none=>
  dsimp only;have hSk:S k=false:=by
   cases hk:S k with
   | false=>rfl
   | true=>
    obtain⟨e,he,hp⟩:=(hel.2.1 k).mp hk;have q:=List.findIdx?_eq_none_iff.mp hr e he;rw[hp] at q;exact Bool.noConfusion q
  have hgw:∀(c:Bool){s₁:Shared}{Q':Unit->Shared->Prop},Q' () s₁->wpAny (model prog w) A (match c with|true=>rule "set.scan.the-table-gave-way" | false=>pure ()) Q' E s₁:=
   fun c s₁ Q' hq=>by cases c <;> first|exact wpAny_pure hq|exact wpAny_rule hq
  have hperm:=layNew_perm t es (knd.hash k) x;have hfits:=layNew_fits t es (knd.hash k) x;have htok:=yM ht es (knd.hash k) x;generalize layNew t es (knd.hash k) x=L at hperm hfits htok |-;obtain⟨es1,t1,wd,gv⟩:=L;dsimp only at hperm hfits htok |-;rw[toList_push] at hperm;have hsz1:es1.size=n+1:=by rw[<- length_toList,hperm.length_eq,length_append,length_toList,hn];rfl
  have hel1:ElemsOf knd es1.toList/\(∀k',(S k'||decide (k'=k))=true ↔ ∃e∈es1.toList,knd.is k' e.2=true)/\es1.size<scanBound:=
   ⟨(hel.1.push hkey hsc).perm hperm,mem_push_iff hkey hel.2.1 hperm,by rw[hsz1];exact hroom⟩
  have hend:∀h',Heap.SameBut a s.heap h'->SetT knd b h' a (fun k'=>S k'||decide (k'=k)) es1.size->Q true { s with heap:=h' }:=by
   intro h' hsb hS';have q:=h h' hsb;rw[hSk] at q;rw[hsz1] at hS';exact q hS'
  refine wpAny_bind (hgw _ ?_);by_cases hpl:t1.plain=true
  ·rw[if_pos hpl,hashByValue_scannable 8 hsc];refine wpAny_bind (wpAny_pure ?_);refine xU (b:=b) ?_ ho hex hd hel1 (t2:=if plainKind x=true then t1 else { t1 with plain:=false }) ?_ ?_ ?_
   ·intro c s₁ Q' hq;cases c <;> first|exact wpAny_pure hq|exact wpAny_rule hq
   ·split
    ·exact hfits
    exact SetTable.fits_plain_off hfits
   ·split
    ·exact htok
    exact Bj htok false
   intro h' hsb hS';dsimp only;exact wpAny_pure (hend h' hsb hS')
  rw[if_neg hpl];refine wpAny_bind (wpAny_pure ?_);refine xU (b:=b) ?_ ho hex hd hel1 hfits htok ?_
  ·intro c s₁ Q' hq;cases c <;> first|exact wpAny_pure hq|exact wpAny_rule hq
  intro h' hsb hS';dsimp only;exact wpAny_pure (hend h' hsb hS')
end
end SRT
namespace SRT
open PySem PyProof.Rows
noncomputable abbrev bt (w:World):Bool:=w.params.followText "set-order"
section
variable {prog:Program}{w:World}{A:Around}{R:Result->Shared->Prop}{I:Addr}{fp wr:List Addr}{G:Array GenState->Array GenState->Prop}{n:Nat}{P:Nat->Value->Prop}{St:Nat->Shared->Prop}{b:Bool}
theorem Dj (W:WalksS prog w A.in1 I fp wr G n P St)(S:Addr)(hSf:S∉fp)(val:Nat->Int)(hval:∀i v,P i v->∃t,v=.int (val i) t)(hb:n+1<scanBound) :
  ∀(k i:Nat)(s:Shared),n-i=k->i<=n->St i s->SetT (intKind prog w) b s.heap S (fun k'=>(firstMet val i).any (· == k')) (firstMet val i).length ->
   (∀s',Moved (S::wr) G s s'->SetT (intKind prog w) b s'.heap S (fun k'=>(firstMet val n).any (· == k')) (firstMet val n).length->R (.ok (.ret .none)) s') ->
   codeAny (model prog w) A (.builtin "set.update.loop" ⟨[.ref S,.ref I],[]⟩) R s:=by
 have hSw:S∉wr:=fun h=>hSf (W.sub _ h);have hsub:∀c∈wr,c∈S::wr:=fun c hc=>mem_cons_of_mem _ hc;intro k
 induction k with
 | zero=>
  intro i s hk hi hst hS hR;have hin:i=n:=ω;subst hin;refine codeAny_builtin F.entry_set_update_loop ?_;rw[Around.under_plainId F.plain_set_update_loop _];show wpAny _ A.in1 (pyNext (.ref I) >>= _) _ _ s;refine wpAny_bind (W.done s _ _ hst fun s' hm=>?_);show wpAny _ A.in1 (ret Value.none) _ _ s';exact wpAny_pure (hR s' (hm.mono hsub) (hS.get fun o e=>hm.heap S _ hSw e))
 | succ k ih=>
  intro i s hk hi hst hS hR;have hlt:i<n:=ω;refine codeAny_builtin F.entry_set_update_loop ?_;rw[Around.under_plainId F.plain_set_update_loop _];show wpAny _ A.in1 (pyNext (.ref I) >>= _) _ _ s;refine wpAny_bind (W.item i s _ _ hlt hst fun v s' hP hst' hm=>?_);obtain⟨t,rfl⟩:=hval i v hP;have hS':=hS.get fun o e=>hm.heap S _ hSw e;show wpAny _ A.in1 (holding [Value.int (val i) t] (setAdd S (.int (val i) t)) >>= _) _ _ s';refine wpAny_bind (wpAny_holding ?_);unfold setAdd;refine wpAny_holding (wpAny_bind ((intKind prog w).pyHash (k:=val i) (intKind_is _ _ _ _) ?_));have hroom:(firstMet val i).length+1<scanBound:=by have:=firstMet_length_le val i;omega
  refine Eh (knd:=intKind prog w) (s:={ s' with toks:=s'.toks+1 }) (intKind_is _ _ _ _) rfl hS' hroom fun h' hsb hS2=>?_;have hSi:SetT (intKind prog w) b h' S (fun k'=>(firstMet val (i+1)).any (· == k')) (firstMet val (i+1)).length:=
   hS2.congr (fun k'=>by rw[firstMet_succ,step_any]) (by rw[firstMet_succ,step_length])
  refine wpAny_pure ⟨plainId_quiet F.plain_set_update_loop _,ih (i+1) _ ω hlt (W.frame _ s' _ _ hst' (le_succ _) fun c hc o e=>?_) hSi fun s'' hm'' hS''=>?_⟩
  ·rw[hsb.2 c (fun h:c=S=>hSf (by rw[<- h];exact hc))];exact e
  refine hR s'' (Moved.trans W.gtrans ((hm.mono hsub).then_heap (le_succ _) fun c o hc e=>?_) hm'') hS'';rw[hsb.2 c (fun h:c=S=>hc (by rw[h];exact mem_cons_self))];exact e
end
noncomputable abbrev sy (w:World):Obj:={ cls:=.type "set",dict:=none,data:=.set #[] 0 (.fresh 0 0 (!bt w)) }
section
variable {prog:Program}{w:World}{A:Around}{E:Value->Shared->Prop}{s:Shared}
theorem CG (a:Value){Q₁:Value->Shared->Prop}(h:Q₁ (.ref s.heap.objs.size) { s with heap:=s.heap.push (sy w) }) :
  codeAny (model prog w) A (.call (.builtin "set.__new__") ⟨[.type "set",a],[]⟩) (wants Q₁ E) s:=by
 refine codeAny_of_tree (show wpAny _ A.in1 (checkBuiltinCall "set.__new__" ⟨[.type "set",a],[]⟩ >>= fun _=>again (.builtin "set.__new__" ⟨[.type "set",a],[]⟩)) _ _ s from ?_);refine wpAny_bind (wpAny_of_eq (F.newCall_set_1 a) (wpAny_pure ⟨plainId_quiet F.plain_set_new _,codeAny_builtin F.entry_set_new ?_⟩));rw[Around.under_plainId F.plain_set_new _];unfold Builtin.«set.__new__» Builtin.Frozenset.newClass;have hsub:=sub_set_self;obtain⟨hp,g,d,tk,os⟩:=s;dsimp only
 wp_walk
 refine wpAny_askSetting (wpAny_pure ?_);dsimp only;simp only[newObj];exact wpAny_bind (wpAny_alloc (wpAny_pure (wpAny_pure h)))
set_option maxHeartbeats 3200000 in
theorem CJ {l:Addr}{items:Array Value}{ns:List Int}{Q:Value->Shared->Prop}(hh:A.handled=none)(hl:s.heap.IsList l items)(hi:IntsAre items.toList ns)(hb:items.size+1<scanBound)
  (h:∀(h':Heap)(tk:Nat),SetT (intKind prog w) (!bt w) h' s.heap.objs.size (fun k'=>(firstMet (fun i=>ns.getD i 0) items.size).any (· == k')) (firstMet (fun i=>ns.getD i 0) items.size).length ->
   (∀c o,c<s.heap.objs.size->s.heap.get? c=some o->h'.get? c=some o)->Q (.ref s.heap.objs.size) { s with heap:=h',toks:=tk }) :
  wpAny (model prog w) A (call (.type "set") [.ref l]) Q E s:=by
 obtain⟨c,tl,hmro⟩:=F.called_set.mro;have hmade:=F.called_set.made;have hsub:=F.called_set.sub;refine wpAny_call (codeAny_of_tree (show wpAny _ _ (callAny (.type "set") _) _ _ _ from wpAny_pure ⟨Code.quiet_builtin _ ψ,codeAny_builtin F.entry_type_call ?_⟩));rw[Around.under_plain (weight_type_call_type "set" [.ref l] []) rfl];have h1:=F.called_set.notType;have h2:=F.called_set.canCreate;have hct:=F.typeCall_set_1 (.ref l)
 repeat (any_goals (first|assumption|wp_step))
 refine codeAny_mono (CG (.ref l) (E:=E) (Q₁:=fun obj s₁=>obj=.ref s.heap.objs.size/\s₁={ s with heap:=s.heap.push (sy w) }) ⟨rfl,rfl⟩) fun r s₁ hr=>?_;cases r with
 | error e=>exact hr
 | ok fl=>
  cases fl with
  | ret obj=>
   obtain⟨rfl,rfl⟩:=hr;have hS:(s.heap.push (sy w)).get? s.heap.objs.size=some (sy w):=get?_push_size _ rfl;have hT:Shared.TypeIs { s with heap:=s.heap.push (sy w) } (.ref s.heap.objs.size) "set" := ⟨_,hS,rfl⟩;have hli:=F.called_set.init.lookup;have hbi:=F.called_set.init.bind (.ref s.heap.objs.size)
   repeat (any_goals (first|assumption|wp_step))
   refine codeAny_mono (codeAny_call_builtin (R:=wants (fun r s₂=>r=.none/\∃h' tk,s₂={ s with heap:=h',toks:=tk } /\
     SetT (intKind prog w) (!bt w) h' s.heap.objs.size (fun k'=>(firstMet (fun i=>ns.getD i 0) items.size).any (· == k')) (firstMet (fun i=>ns.getD i 0) items.size).length /\
     (∀c o,c<s.heap.objs.size->s.heap.get? c=some o->h'.get? c=some o)) E) F.called_set.init.plain F.entry_set_init (check_set_init_1 hT ?_)) fun r₂ s₂ hr₂=>?_
   ·obtain⟨ol,hol,hcl,nl,hdl⟩:=hl;obtain⟨ocls,odict,odata,oslots⟩:=ol;simp only at hcl hdl;subst hcl;subst hdl;have hol':(s.heap.push (sy w)).get? l=some { cls:=.type "list",dict:=odict,data:=.seq items nl,slots:=oslots }:=get?_push_of_some _ hol;have hsls:=F.sub_list_set;have hslf:=F.sub_list_frozenset;have hne:(Value.type "list" == Value.type "dict")=false:=by decide
    have hl1:(s.heap.push (sy w)).IsList l items:=⟨_,hol',rfl,nl,rfl⟩;unfold Builtin.«set.__init__» noKeywords Builtin.Frozenset.updateFrom;generalize hPI:pyIter=PI
    wp_walk
    subst hPI;refine wpAny_pyIter_list hl1 (wpAny_bind (wpAny_runValue ?_));have hlS:l<s.heap.objs.size:=lt_size hol;have hh3:A.in1.in1.in1.handled=none:=by simp [hh]
    have hneI:l≠(s.heap.push (sy w)).objs.size:=by
     rw[size_push];exact ne_of_lt (lt_succ_of_lt hlS)
    have hSf:s.heap.objs.size∉[(s.heap.push (sy w)).objs.size,l]:=by
     rw[size_push];simp only[mem_cons,mem_singleton,not_mem_nil,or_false,not_or];exact⟨ne_of_lt (lt_succ_self _),ne_of_gt hlS⟩
    have hval:∀(i:Nat)(v:Value),items[i]?=some v->∃t,v=.int ((fun i=>ns.getD i 0) i) t:=fun i v hv=>IntsAre.int_at hi i v (by rw[getElem?_toList];exact hv);refine Dj (b:=!bt w) ((Walks.list hh3 _ l hneI items).toS) s.heap.objs.size hSf (fun i=>ns.getD i 0) hval hb (items.size-0) 0 _ ω (zero_le _)
     ⟨⟨_,get?_push_size _ rfl,rfl,rfl⟩,(hl1.push _)⟩ ?hS0 ?hR
    case hS0=>exact⟨_,#[],0,_,get?_push_of_some _ hS,⟨rfl,rfl,rfl⟩,rfl,⟨fun e he=>by simp at he,fun k=>by simp [firstMet_zero],δ⟩,by rfl,rfl,Bk _ _ _⟩
    case hR=>
     intro s' hm hS';obtain⟨h',g',d',tk',os'⟩:=s';have eg:g'=s.gens:=hm.gens;have ed:d'=s.drawn:=hm.drawn;have eo:os'=s.os:=hm.os;subst eg;subst ed;subst eo;show wpAny _ _ _ _ _ _;refine wpAny_pure (show wpAny _ _ (ret Value.none) _ _ _ from wpAny_pure ⟨rfl,h',tk',rfl,hS',fun c o hc e=>?_⟩);have hc1:c≠s.heap.objs.size:=ne_of_lt hc;have hc2:c≠(s.heap.push (sy w)).objs.size:=by
      rw[size_push];exact ne_of_lt (lt_succ_of_lt hc)
     exact hm.heap c o (by simp only[mem_cons,mem_singleton,not_mem_nil,or_false,not_or];exact⟨hc1,hc2⟩) (get?_push_of_some _ (get?_push_of_some _ e))
   cases r₂ with
   | error e=>exact hr₂
   | ok fl₂=>
    cases fl₂ with
    | ret r=>
     obtain⟨rfl,h',tk,rfl,hS',hk'⟩:=hr₂
     repeat (any_goals (first|assumption|wp_step))
     exact h _ _ hS' hk'
    | _=>exact hr₂.elim
  | _=>exact hr.elim
end
end SRT
namespace SRT
open PySem PyProof.Rows
theorem mG {α:Type}:∀{l:List α}{i:Nat}(h:i<l.length),(l[i]::l.eraseIdx i).Perm l
 | x::l,0,_=>List.Perm.refl _
 | x::l,i+1,h=>by
  have h':i<l.length:=by simpa using h
  show(l[i]::x::l.eraseIdx i).Perm (x::l);exact(List.Perm.swap _ _ _).trans (List.Perm.cons _ (mG h'))
section
variable {prog:Program}{w:World}{A:Around}{E:Value->Shared->Prop}
theorem wp_choose {s:Shared}{src:Source}{n:Nat}{Q:Nat->Shared->Prop}(hn:n≠0)(h:∀k d,k<n->Q k { s with drawn:=d }):wpAny (model prog w) A (choose src n) Q E s:=
 fun _ _ _=>⟨hn,h _ _ (mod_lt _ (Nat.pos_of_ne_zero hn))⟩
theorem Kl {α:Type}:∀(n:Nat)(xs:List α)(s:Shared){Q:List α->Shared->Prop},xs.length=n->(∀ys d,ys.Perm xs->Q ys { s with drawn:=d })->wpAny (model prog w) A (drawOrder n xs) Q E s:=by
 intro n
 induction n with
 | zero=>
  intro xs s Q hl h;have e:xs=[]:=length_eq_zero_iff.mp hl;subst e;exact wpAny_pure (h [] s.drawn (List.Perm.refl _))
 | succ n ih=>
  intro xs s Q hl h;cases xs with
  | nil=>cases hl
  | cons x xs=>
   unfold drawOrder;refine wpAny_bind (wp_choose (by simp) fun i d hi=>?_);have hg:(x::xs)[i]?=some (x::xs)[i]:=getElem?_eq_getElem hi;rw[hg];dsimp only;refine wpAny_bind (ih _ _ (by rw[List.length_eraseIdx,if_pos hi];simpa using hl) fun ys d' hp=>wpAny_pure (h _ d' ?_));exact(List.Perm.cons _ hp).trans (mG hi)
end
theorem Jp {α:Type}(next:Nat->Nat):∀(fuel k:Nat)(left:List α)(out:Array α),left.length=fuel->(pickOrder.go next fuel k left out).toList.Perm (out.toList++left):=by
 intro fuel
 induction fuel with
 | zero=>
  intro k left out hl;have e:left=[]:=length_eq_zero_iff.mp hl;subst e;show out.toList.Perm _;rw[append_nil]
 | succ fuel ih=>
  intro k left out hl;unfold pickOrder.go;have hi:next k%left.length<left.length:=mod_lt _ ω;rw[getElem?_eq_getElem hi];dsimp only;refine(ih (k+1) _ _ (by rw[List.length_eraseIdx,if_pos hi];omega)).trans ?_;rw[toList_push,List.append_assoc];exact List.Perm.append_left _ (mG hi)
theorem BJ {α:Type}(next:Nat->Nat)(xs:Array α):(pickOrder next xs).toList.Perm xs.toList:=by
 have:=Jp next xs.size 0 xs.toList #[] (by simp);simpa [pickOrder] using this
noncomputable def fX (h:Heap)(S:Addr)(es:Array (Int×Value))(ep:Nat)(t:SetTable):Prop:=∃o,h.get? S=some o/\o.ExactSet/\o.data=.set es ep t
noncomputable def eN (h:Heap)(I:Addr)(first:Value)(i:Nat)(S:Addr)(n ep:Nat):Prop:=
 h.get? I=some { cls:=.type "set_iterator",dict:=none,data:=.fields #[first,.int i 0,.ref S,.int n 0,.int ep 0],slots:=#[] }
theorem fX.get {h h':Heap}{S:Addr}{es:Array (Int×Value)}{ep:Nat}{t:SetTable}(hS:fX h S es ep t)(hk:∀o,h.get? S=some o->h'.get? S=some o):fX h' S es ep t:=
 let ⟨o,ho,r⟩:=hS;⟨o,hk o ho,r⟩
section
variable {prog:Program}{w:World}{A:Around}{E:Value->Shared->Prop}{s:Shared}{S:Addr}{es:Array (Int×Value)}{ep:Nat}{t:SetTable}
theorem jZ {Q:(Array (Int×Value)×Nat×SetTable)->Shared->Prop}(hS:fX s.heap S es ep t)(hf:t.fits es.size=true)(h:Q (es,ep,t) s):wpAny (model prog w) A (setState S) Q E s:=
 let ⟨_,ho,_,hd⟩:=hS;wpAny_setState_of ho hd hf h
theorem below_at {xs:Array Nat}(hr:Ris xs){i:Nat}(hi:i<=xs.size):SetTable.below xs (if i=0 then 0 else xs.getD (i-1) 0+1)=i:=by
 have hs:=mX hr (if i=0 then 0 else xs.getD (i-1) 0+1);generalize hb:SetTable.below xs (if i=0 then 0 else xs.getD (i-1) 0+1)=b at hs;by_cases h0:i=0
 ·subst h0;simp only[↓reduceIte] at hs;rcases Nat.eq_zero_or_pos b with h|h
  ·exact h
  have hl:0<xs.size:=ω;have hg:xs[0]?=some xs[0]:=by simp [hl]
  have:=(hs.1 0 _ hg).mp h;omega
 rw[if_neg h0] at hs;have hl:i-1<xs.size:=ω;have hg:xs[i-1]?=some xs[i-1]:=by simp [hl]
 have hd:xs.getD (i-1) 0=xs[i-1]:=by simp [Array.getD,hl]
 rw[hd] at hs;have h1:i-1<b:=(hs.1 _ _ hg).mpr ω;rcases lt_or_ge i b with h|h
 ·have hl2:i<xs.size:=ω;have hg2:xs[i]?=some xs[i]:=by simp [hl2]
  have h2:=(hs.1 _ _ hg2).mp h;have h3:=hr.lt hg hg2 ω;omega
 omega
theorem JT (hf:t.fits es.size=true)(ht:TOk (!bt w) t)(hd:bt w=true\/(!t.plain&&decide (es.size>1))=false) :
  ∃(vs:List Value)(sl:Nat->Nat),sl 0=0/\vs.Perm (es.toList.map (·.2))/\∀(i:Nat)(s:Shared)(A:Around)(E:Value->Shared->Prop)(Q:Option (Value×Nat)->Shared->Prop),i<=vs.length->fX s.heap S es ep t ->
   Q (vs[i]?.map fun x=>(x,sl (i+1))) s->wpAny (model prog w) A (setNext S (sl i) i ep) Q E s:=by
 by_cases hb:bt w=true
 ·refine⟨(pickOrder (w.params.setOrder S ep) es).toList.map (·.2),fun _=>0,rfl,(BJ _ es).map _,fun i s A E Q hi hS h=>?_⟩;unfold setNext;refine wpAny_bind (jZ hS hf ?_);dsimp only;unfold setsByText;refine wpAny_bind (wpAny_bind (wpAny_askSetting (wpAny_pure ?_)));show wpAny _ _ (if bt w=true then _ else _) _ _ _;rw[if_pos hb,if_neg (by simp)];unfold setWalk;refine wpAny_bind (wpAny_bind (jZ hS hf ?_));dsimp only;unfold setsByText;refine wpAny_bind (wpAny_bind (wpAny_askSetting (wpAny_pure ?_)));show wpAny _ _ (if bt w=true then _ else _) _ _ _;rw[if_pos hb];refine wpAny_bind (wpAny_askSetting (wpAny_pure (wpAny_pure ?_)));have e:((pickOrder (w.params.setOrder S ep) es)[i]?).map (fun e=>(e.2,0))=(((pickOrder (w.params.setOrder S ep) es).toList.map (·.2))[i]?).map fun x=>(x,0):=by
   rw[getElem?_map,Option.map_map,getElem?_toList];rfl
  show Q (((pickOrder (w.params.setOrder S ep) es)[i]?).map (fun e=>(e.2,0))) s;rw[e];exact h
 have hb':bt w=false:=by simpa using hb
 have hdr:=hd.resolve_left hb;have hps:t.place.size=es.size:=by
  have:=hf;unfold SetTable.fits at this;simp only[and_eq_true,beq_iff_eq] at this;exact this.1
 refine⟨es.toList.map (·.2),fun i=>if i=0 then 0 else t.place.getD (i-1) 0+1,rfl,List.Perm.refl _,fun i s A E Q hi hS h=>?_⟩;unfold setNext;refine wpAny_bind (jZ hS hf ?_);dsimp only;unfold setsByText;refine wpAny_bind (wpAny_bind (wpAny_askSetting (wpAny_pure ?_)));show wpAny _ _ (if bt w=true then _ else _) _ _ _;rw[if_neg hb];show wpAny _ _ (if (!t.plain&&decide (es.size>1))=true then _ else _) _ _ _;rw[if_neg (by rw[hdr];simp)];refine wpAny_bind ?_;show wpAny _ _ (if (!t.led && !es.isEmpty)=true then _ else _) _ _ _;have hled:t.led=true:=by rw[ht.2.2,hb'];rfl
 rw[if_neg (by rw[hled];simp)];refine wpAny_pure (wpAny_pure ?_);have hi':i<=es.size:=by simpa using hi
 rw[below_at ht.1 (by rw[hps];exact hi')];rcases lt_or_ge i es.size with hlt|hge
 ·have g1:es[i]?=some es[i]:=by simp [hlt]
  have g2:t.place[i]?=some t.place[i]:=by simp [hps,hlt]
  have g3:(es.toList.map (·.2))[i]?=some es[i].2:=by rw[getElem?_map,getElem?_toList,g1];rfl
  rw[g1,g2];rw[g3] at h;have g4:t.place.getD i 0=t.place[i]'(by rw[hps];exact hlt):=by simp [Array.getD,hps,hlt]
  simp only[Option.map_some,Nat.add_one_ne_zero,if_false,add_sub_cancel,g4] at h;exact h
 have g1:es[i]?=none:=by simp [hge]
 have g3:(es.toList.map (·.2))[i]?=none:=by rw[getElem?_map,getElem?_toList,g1];rfl
 rw[g1];rw[g3] at h;exact h
end
end SRT
namespace SRT
open PySem PyProof.Rows
theorem xr:entryFor table "set.__iter__" = some Builtin.«frozenset.__iter__»:=entryFor_alias (id' := "frozenset.__iter__") (by kernel_rfl) rfl ψ (by kernel_rfl)
theorem cP:Slot "set_iterator" "__next__" "set_iterator.__next__" :=
 .of (owner := "set_iterator") (n := "__next__") (by rw[typeLookup_type,builtinLookup_eq_fast];kernel_rfl) ψ ψ ψ (by first|exact .inl ψ|exact .inr ψ) (by rw[isSubtype_type];kernel_rfl)
theorem qy:Slot "set_iterator" "__iter__" "set_iterator.__iter__" :=
 .of (owner := "set_iterator") (n := "__iter__") (by rw[typeLookup_type,builtinLookup_eq_fast];kernel_rfl) ψ ψ ψ (by first|exact .inl ψ|exact .inr ψ) (by rw[isSubtype_type];kernel_rfl)
theorem jc:entryFor table "set_iterator.__next__" = some Builtin.«set_iterator.__next__»:=entryFor_of_tree (by kernel_rfl)
theorem xq:entryFor table "set_iterator.__iter__" = some Builtin.«dict_keyiterator.__iter__»:=entryFor_alias (id' := "dict_keyiterator.__iter__") (by kernel_rfl) rfl ψ (by kernel_rfl)
theorem jN (a:Value):argsOk "set_iterator.__next__" ⟨[a],[]⟩:=by unfold argsOk;kernel_rfl
theorem zp (a:Value):argsOk "set_iterator.__iter__" ⟨[a],[]⟩:=by unfold argsOk;kernel_rfl
section
variable {prog:Program}{w:World}{A:Around}{E:Value->Shared->Prop}{s:Shared}{S I:Addr}{es:Array (Int×Value)}{ep:Nat}{t:SetTable}
theorem eN.ty {h:Shared}{first:Value}{i n:Nat}(hI:eN h.heap I first i S n ep):h.TypeIs (.ref I) "set_iterator" := ⟨_,hI,rfl⟩
theorem eN.get {h h':Heap}{first:Value}{i n:Nat}(hI:eN h I first i S n ep)(hk:∀o,h.get? I=some o->h'.get? I=some o):eN h' I first i S n ep:=hk _ hI
theorem iR {Q:Array (Int×Value)->Shared->Prop}(hS:fX s.heap S es ep t)(hf:t.fits es.size=true)(h:Q es s):wpAny (model prog w) A (setEntries S) Q E s:=
 let ⟨_,ho,_,hd⟩:=hS;wpAny_setEntries_of ho hd hf h
theorem xg {Q:Nat->Shared->Prop}(hS:fX s.heap S es ep t)(hf:t.fits es.size=true)(h:Q ep s):wpAny (model prog w) A (setEpoch S) Q E s:=
 let ⟨_,ho,_,hd⟩:=hS;wpAny_setEpoch_of ho hd hf h
theorem zH (hh:A.handled=none) {s:Shared}{P:Fin->Shared->Prop}{E':Value->Shared->Prop}(h:∀(h':Heap)(e:Value),(∀c o,s.heap.get? c=some o->h'.get? c=some o)->Shared.TypeIs { s with heap:=h' } e "StopIteration" -> E' e { s with heap:=h' }) :
  wpAny (model prog w) A (newExc (.type "StopIteration") [] >>= fun e=>(raiseNew e:Sem Fin)) P E' s:=by
 refine wpAny_bind ?_;simp only[newExc,newTuple];refine wpAny_bind (wpAny_newObj_type (wpAny_bind (m:=firstArgMember _ _) (wpAny_of_eq (a:=Value.none) (by first|rfl|(simp only[firstArgMember];rfl)) ?_)) (by size_fits))
 refine wpAny_newObj_type ?_ (by size_fits);simp only[raiseNew];refine wpAny_bind (wpAny_handled ?_);rw[hh];refine wpAny_bind (wpAny_pure (wpAny_throw (h _ (.ref _) (fun c o e=>get?_push_of_some _ (get?_push_of_some _ e)) ⟨_,get?_push_size _ rfl,rfl⟩)))
theorem next_item {n i:Nat}{first:Nat}{v:Value}{sl:Nat}{Q:Option Value->Shared->Prop}(hI:eN s.heap I (.int first 0) i S es.size ep)(hS:fX s.heap S es ep t)(hf:t.fits es.size=true)
  (hn:∀(s:Shared)(A:Around)(E:Value->Shared->Prop)(Q:Option (Value×Nat)->Shared->Prop),fX s.heap S es ep t->Q (some (v,sl)) s->wpAny (model prog w) A (setNext S first i ep) Q E s)
  (hne:S≠I) (hQ:∀h',eN h' I (.int sl 0) (i+1) S es.size ep->Heap.SameBut I s.heap h'->Q (some v) { s with heap:=h' }):wpAny (model prog w) A (pyNext (.ref I)) Q E s:=by
 unfold pyNext;refine wpAny_bind (wpAny_attempt (wpAny_callSpecial?_slot (name:=Str.ofString "__next__") hI.ty cP (wpAny_call_entry cP hI.ty jc ?_ (jN _))));show wpAny _ _ (fieldsOf (.ref I) >>= _) _ _ s;refine wpAny_bind (wpAny_fieldsOf hI rfl ?_);refine wpAny_bind (iR hS hf ?_);rw[if_neg (by simp)];dsimp only;refine wpAny_bind (hn s _ _ _ hS ?_);dsimp only;refine wpAny_bind (wpAny_setField_rec hI (by simp) fun h1 g1 b1=>?_);refine wpAny_bind (wpAny_setField_rec (s:={ s with heap:=h1 }) g1 (by simp) fun h2 g2 b2=>?_);exact wpAny_pure ⟨_,rfl,wpAny_pure (hQ h2 g2 (b1.trans b2))⟩
end
end SRT
namespace SRT
open PySem PyProof.Rows
section
variable {prog:Program}{w:World}{A:Around}{E:Value->Shared->Prop}{s:Shared}{S I T:Addr}{es:Array (Int×Value)}{ep:Nat}{t:SetTable}
theorem v8 {a:Addr}{h h' h'':Heap}(b:Heap.SameBut a h h')(k:∀c o,h'.get? c=some o->h''.get? c=some o)(c:Addr)(o:Obj)(hc:c≠a)(e:h.get? c=some o):h''.get? c=some o:=k c o (b.extBut c o hc e)
theorem next_end {i first:Nat}{Q:Option Value->Shared->Prop}(hh:A.handled=none)(hI:eN s.heap I (.int first 0) i S es.size ep)(hS:fX s.heap S es ep t)(hf:t.fits es.size=true)
  (hn:∀(s:Shared)(A:Around)(E:Value->Shared->Prop)(Q:Option (Value×Nat)->Shared->Prop),fX s.heap S es ep t->Q none s->wpAny (model prog w) A (setNext S first i ep) Q E s)
  (hQ:∀h',(∀c o,c≠I->s.heap.get? c=some o->h'.get? c=some o)->Q none { s with heap:=h' }):wpAny (model prog w) A (pyNext (.ref I)) Q E s:=by
 unfold pyNext;refine wpAny_bind (wpAny_attempt (wpAny_callSpecial?_slot (name:=Str.ofString "__next__") hI.ty cP (wpAny_call_entry cP hI.ty jc ?_ (jN _))));show wpAny _ _ (fieldsOf (.ref I) >>= _) _ _ s;refine wpAny_bind (wpAny_fieldsOf hI rfl (wpAny_bind (iR hS hf ?_)));rw[if_neg (by simp)];dsimp only;refine wpAny_bind (hn s _ _ _ hS ?_);dsimp only;refine wpAny_bind (wpAny_setField_rec hI (by simp) fun h1 g1 b1=>?_);refine zH (s:={ s with heap:=h1 }) (by simpa using hh) fun h2 e k2 ty=>wpAny_bind (wpAny_isInstance ty isSubtype_stop (wpAny_pure (hQ h2 fun c o hc x=>v8 b1 k2 c o hc x)))
noncomputable def TupAt (h:Heap) (T:Addr) (ds:List Nat):Prop:=h.get? T=some { cls:=.type "tuple",data:=.seq (ds.map fun(i:Nat)=>rawInt i).toArray }
theorem yX {i d:Nat}{ds:List Nat}{v:Value}{Q:Option Value->Shared->Prop}(hI:eN s.heap I (.ref T) i S es.size ep)(hS:fX s.heap S es ep t)(hT:TupAt s.heap T ds)(hf:t.fits es.size=true)
  (hd:ds[i]?=some d) (hv:(es[d]?).map (·.2)=some v) (hne:S≠I)
  (hQ:∀h',eN h' I (.ref T) (i+1) S es.size ep->Heap.SameBut I s.heap h'->Q (some v) { s with heap:=h' }):wpAny (model prog w) A (pyNext (.ref I)) Q E s:=by
 unfold pyNext;refine wpAny_bind (wpAny_attempt (wpAny_callSpecial?_slot (name:=Str.ofString "__next__") hI.ty cP (wpAny_call_entry cP hI.ty jc ?_ (jN _))));show wpAny _ _ (fieldsOf (.ref I) >>= _) _ _ s;refine wpAny_bind (wpAny_fieldsOf hI rfl (wpAny_bind (iR hS hf ?_)));rw[if_neg (by simp)];dsimp only;refine wpAny_bind (wpAny_seqItems hT rfl ?_);dsimp only;have hg:(ds.map fun(i:Nat)=>rawInt i).toArray[(i:Int).toNat]?=some (.int (d:Int) 0):=by
  rw[toNat_natCast,getElem?_toArray,getElem?_map,hd];rfl
 rw[hg];dsimp only;unfold setNextDrawn;refine wpAny_bind (wpAny_bind (jZ hS hf ?_));dsimp only;rw[if_neg (by simp)];obtain⟨⟨hh,x⟩,he,rfl⟩:=Option.map_eq_some_iff.mp hv;rw[toNat_natCast,he];dsimp only;refine wpAny_pure ?_;refine wpAny_bind (wpAny_setField_rec hI (by simp) fun h1 g1 b1=>?_);exact wpAny_pure ⟨_,rfl,wpAny_pure (hQ h1 g1 b1)⟩
theorem Cw {i:Nat}{ds:List Nat}{Q:Option Value->Shared->Prop}(hh:A.handled=none)(hI:eN s.heap I (.ref T) i S es.size ep)(hS:fX s.heap S es ep t)(hT:TupAt s.heap T ds)(hf:t.fits es.size=true)
  (hd:ds[i]?=none) (hQ:∀h',(∀c o,c≠I->s.heap.get? c=some o->h'.get? c=some o)->Q none { s with heap:=h' }):wpAny (model prog w) A (pyNext (.ref I)) Q E s:=by
 unfold pyNext;refine wpAny_bind (wpAny_attempt (wpAny_callSpecial?_slot (name:=Str.ofString "__next__") hI.ty cP (wpAny_call_entry cP hI.ty jc ?_ (jN _))));show wpAny _ _ (fieldsOf (.ref I) >>= _) _ _ s;refine wpAny_bind (wpAny_fieldsOf hI rfl (wpAny_bind (iR hS hf ?_)));rw[if_neg (by simp)];dsimp only;refine wpAny_bind (wpAny_seqItems hT rfl ?_);dsimp only;have hg:(ds.map fun(i:Nat)=>rawInt i).toArray[(i:Int).toNat]?=none:=by
  rw[toNat_natCast,getElem?_toArray,getElem?_map,hd];rfl
 rw[hg];dsimp only;refine wpAny_bind (wpAny_setField_rec hI (by simp) fun h1 g1 b1=>?_);refine wpAny_bind (wpAny_setField_rec (s:={ s with heap:=h1 }) g1 (by simp) fun h2 g2 b2=>?_);refine zH (s:={ s with heap:=h2 }) (by simpa using hh) fun h3 e k3 ty=>wpAny_bind (wpAny_isInstance ty isSubtype_stop (wpAny_pure (hQ h3 fun c o hc x=>v8 (b1.trans b2) k3 c o hc x)))
theorem zP {first:Value}{i n:Nat}{Q:Value->Shared->Prop}(hI:eN s.heap I first i S n ep)(h:Q (.ref I) s):wpAny (model prog w) A (pyIter (.ref I)) Q E s:=by
 refine wpAny_pyIter_slot hI.ty qy (wpAny_call_entry qy hI.ty xq ?_ (zp _));show wpAny _ _ (ret (.ref I)) _ _ s;exact wpAny_pure ⟨_,rfl, "set_iterator",_,hI.ty,cP.lookup,h⟩
theorem Eg {Q:Value->Shared->Prop}(hh:A.handled=none)(hS:fX s.heap S es ep t)(hf:t.fits es.size=true)(ht:TOk (!bt w) t)(hz:es.size<=sizeLine)
  (h:∀(s':Shared)(I:Addr)(fp:List Addr)(vs:List Value)(St:Nat->Shared->Prop),(∀c o,s.heap.get? c=some o->s'.heap.get? c=some o)->s'.gens=s.gens->s'.os=s.os->s'.toks=s.toks->vs.Perm (es.toList.map (·.2))->I=s'.heap.objs.size-1->s.heap.objs.size<=I->I<s'.heap.objs.size ->
   (∀A':Around,A'.handled=none->WalksS prog w A' I fp [I] (fun a b=>b=a) vs.length (fun i v=>vs[i]?=some v) St)->St 0 s'->(∀b∈fp,b<s'.heap.objs.size/\(b=S\/s.heap.objs.size<=b))->Q (.ref I) s') :
  wpAny (model prog w) A (pyIter (.ref S)) Q E s:=by
 obtain⟨o,ho,hx,hd⟩:=id hS;have hty:s.TypeIs (.ref S) "set" := ⟨o,ho,hx.1⟩;have lt:S<s.heap.objs.size:=lt_size ho;refine wpAny_pyIter_slot hty F.slot_set_iter (wpAny_call_entry F.slot_set_iter hty xr ?_ (F.args_set_iter_1 _));unfold Builtin.«frozenset.__iter__»;show wpAny _ _ (Builtin.Frozenset.sizeOf S >>= _) _ _ s;unfold Builtin.Frozenset.sizeOf;refine wpAny_bind (wpAny_bind (iR hS hf (wpAny_pure ?_)));unfold setDrawn setsByText;refine wpAny_bind (wpAny_bind (jZ hS hf ?_));dsimp only;refine wpAny_bind (wpAny_bind (wpAny_askSetting (wpAny_pure (wpAny_pure ?_))));show wpAny _ _ (if (!bt w&&(!t.plain&&decide (es.size>1)))=true then _ else _) _ _ _;have arith:∀{n m:Nat},m=n+1->n=m-1:=by intros;omega
 by_cases hc:(!bt w&&(!t.plain&&decide (es.size>1)))=true
 ·rw[if_pos hc];refine wpAny_bind (Kl es.size (List.range es.size) _ (length_range) fun ds d hp=>?_);have hdl:ds.length=es.size:=by rw[hp.length_eq,length_range]
  refine wpAny_bind (wpAny_newTuple ?_ (by rw[length_map,hdl];exact hz));have hS1:fX (s.heap.push { cls:=.type "tuple",data:=.seq (ds.map fun(i:Nat)=>rawInt i).toArray }) S es ep t:=hS.get fun o e=>get?_push_of_some _ e;have hT1:TupAt (s.heap.push { cls:=.type "tuple",data:=.seq (ds.map fun(i:Nat)=>rawInt i).toArray }) s.heap.objs.size ds:=get?_push_size _ rfl;have hz1:(s.heap.push { cls:=.type "tuple",data:=.seq (ds.map fun(i:Nat)=>rawInt i).toArray }).objs.size=s.heap.objs.size+1:=size_push ..;have hk1:∀c o,s.heap.get? c=some o->(s.heap.push { cls:=.type "tuple",data:=.seq (ds.map fun(i:Nat)=>rawInt i).toArray }).get? c=some o:=fun c o e=>get?_push_of_some _ e;generalize s.heap.push { cls:=.type "tuple",data:=.seq (ds.map fun(i:Nat)=>rawInt i).toArray }=h1 at hS1 hT1 hz1 hk1 |-;refine wpAny_bind (xg (s:={ s with drawn:=d,heap:=h1 }) hS1 hf (wpAny_bind (wpAny_newObj_type ?_)));have hI:eN (h1.push { cls:=.type "set_iterator",data:=.fields #[.ref s.heap.objs.size,.int (0:Nat) 0,.ref S,.int (es.size:Nat) 0,.int (ep:Nat) 0] }) h1.objs.size (.ref s.heap.objs.size) 0 S es.size ep:=get?_push_size _ rfl;refine wpAny_pure ⟨_,rfl, "set_iterator",_,⟨_,hI,rfl⟩,cP.lookup,?_⟩;have hz2:(h1.push { cls:=.type "set_iterator",data:=.fields #[.ref s.heap.objs.size,.int (0:Nat) 0,.ref S,.int (es.size:Nat) 0,.int (ep:Nat) 0] }).objs.size=h1.objs.size+1:=size_push ..;have hk2:∀c o,h1.get? c=some o->(h1.push { cls:=.type "set_iterator",data:=.fields #[.ref s.heap.objs.size,.int (0:Nat) 0,.ref S,.int (es.size:Nat) 0,.int (ep:Nat) 0] }).get? c=some o:=fun c o e=>get?_push_of_some _ e;show Q (.ref h1.objs.size) { s with drawn:=d,heap:=h1.push { cls:=.type "set_iterator",data:=.fields #[.ref s.heap.objs.size,.int (0:Nat) 0,.ref S,.int (es.size:Nat) 0,.int (ep:Nat) 0] } };generalize h1.push { cls:=.type "set_iterator",data:=.fields #[.ref s.heap.objs.size,.int (0:Nat) 0,.ref S,.int (es.size:Nat) 0,.int (ep:Nat) 0] }=h2 at hI hz2 hk2 |-;have n1:S≠h1.objs.size:=by rw[hz1];exact ne_of_lt (lt_succ_of_lt lt)
  have n2:s.heap.objs.size≠h1.objs.size:=by rw[hz1];exact ne_of_lt (lt_succ_self _)
  have hmem:∀i d:Nat,ds[i]?=some d->∃x:Value,(es[d]?).map (fun(e:Int×Value)=>e.2)=some x/\(ds.map fun d=>(es.toList.map (·.2)).getD d .none)[i]?=some x:=by
   intro i d hi;have:d<es.size:=by have:=hp.mem_iff.mp (mem_of_getElem? hi);simpa using this
   refine⟨es[d].2,by simp [this],?_⟩;rw[getElem?_map,hi];simp [this]
  refine h { s with drawn:=d,heap:=h2 } h1.objs.size [h1.objs.size,S,s.heap.objs.size] (ds.map fun d=>(es.toList.map (·.2)).getD d .none)
   (fun i s'=>eN s'.heap h1.objs.size (.ref s.heap.objs.size) i S es.size ep/\fX s'.heap S es ep t/\TupAt s'.heap s.heap.objs.size ds)
   (fun c o e=>hk2 c o (hk1 c o e)) rfl rfl rfl ?_ (arith hz2) (by rw[hz1];exact le_succ _) (by show h1.objs.size<h2.objs.size;rw[hz2];exact lt_succ_self _) (fun A' hh'=>?_) ⟨hI,hS1.get (hk2 S),hk2 _ _ hT1⟩ ?_
  ·have e:(List.range es.size).map (fun d=>(es.toList.map (·.2)).getD d .none)=es.toList.map (·.2):=by
    refine ext_getElem (by simp) fun i h1 h2=>?_;simp at h1 h2;simp [h2]
   exact(hp.map fun d=>(es.toList.map fun(x:Int×Value)=>x.2).getD d Value.none).trans (List.Perm.of_eq e)
  ·have hlen:(ds.map fun d=>(es.toList.map (·.2)).getD d .none).length=ds.length:=length_map _;exact {
    sub:=fun b hb=>by simp at hb;simp [hb]
    grefl:=fun _=>rfl
    gtrans:=fun a b c e f=>f.trans e
    frame:=fun i s1 h' tk st _ hk=>⟨st.1.get fun o e=>hk _ (by simp) o e,st.2.1.get fun o e=>hk _ (by simp) o e,hk _ (by simp) _ st.2.2⟩
    item:=fun i s1 Q1 E1 hi st hQ1=>by
     rw[hlen] at hi;obtain⟨x,e1,e2⟩:=hmem i ds[i] (getElem?_eq_getElem hi);refine yX st.1 st.2.1 st.2.2 hf (getElem?_eq_getElem hi) e1 n1 fun h' i' b'=>?_;exact hQ1 x { s1 with heap:=h' } e2 ⟨i',st.2.1.get fun o e=>b'.extBut _ o n1 e,b'.extBut _ _ n2 st.2.2⟩ ⟨fun b o hb e=>b'.extBut b o (fun z=>hb (by simp [z])) e,rfl,rfl,rfl,le_refl _⟩
    done:=fun s1 Q1 E1 st hQ1=>by
     refine Cw hh' st.1 st.2.1 st.2.2 hf (by rw[hlen];simp) fun h' k'=>?_;exact hQ1 { s1 with heap:=h' } ⟨fun b o hb e=>k' b o (fun z=>hb (by simp [z])) e,rfl,rfl,rfl,le_refl _⟩
    self:=fun i s1 Q1 E1 st hQ1=>zP st.1 hQ1 }
  intro b hb;show b<h2.objs.size/\_;have l0:=lt_succ_of_lt lt;simp only[mem_cons,not_mem_nil,or_false] at hb;rw[hz2,hz1];rcases hb with rfl|rfl|rfl
  ·rw[hz1];exact⟨lt_succ_self _,.inr (le_succ _)⟩
  ·exact⟨lt_succ_of_lt l0,.inl rfl⟩
  exact⟨lt_succ_of_lt (lt_succ_self _),.inr (le_refl _)⟩
 rw[if_neg hc];obtain⟨vs,sl,sl0,hp,hn⟩:=JT (prog:=prog) (w:=w) (S:=S) (ep:=ep) hf ht (by
  cases hb:bt w with
  | true=>exact .inl rfl
  | false=>rw[hb] at hc;exact .inr (by simpa using hc))
 refine wpAny_bind (wpAny_pure (wpAny_bind (xg hS hf (wpAny_bind (wpAny_newObj_type ?_)))));have hI:eN (s.heap.push { cls:=.type "set_iterator",data:=.fields #[.int (0:Nat) 0,.int (0:Nat) 0,.ref S,.int (es.size:Nat) 0,.int (ep:Nat) 0] }) s.heap.objs.size (.int (sl 0) 0) 0 S es.size ep:=by rw[sl0];exact get?_push_size _ rfl
 refine wpAny_pure ⟨_,rfl, "set_iterator",_,⟨_,hI,rfl⟩,cP.lookup,?_⟩;have hz2:(s.heap.push { cls:=.type "set_iterator",data:=.fields #[.int (0:Nat) 0,.int (0:Nat) 0,.ref S,.int (es.size:Nat) 0,.int (ep:Nat) 0] }).objs.size=s.heap.objs.size+1:=size_push ..;have hk2:∀c o,s.heap.get? c=some o->(s.heap.push { cls:=.type "set_iterator",data:=.fields #[.int (0:Nat) 0,.int (0:Nat) 0,.ref S,.int (es.size:Nat) 0,.int (ep:Nat) 0] }).get? c=some o:=fun c o e=>get?_push_of_some _ e;show Q (.ref s.heap.objs.size) { s with heap:=s.heap.push { cls:=.type "set_iterator",data:=.fields #[.int (0:Nat) 0,.int (0:Nat) 0,.ref S,.int (es.size:Nat) 0,.int (ep:Nat) 0] } };generalize s.heap.push { cls:=.type "set_iterator",data:=.fields #[.int (0:Nat) 0,.int (0:Nat) 0,.ref S,.int (es.size:Nat) 0,.int (ep:Nat) 0] }=h2 at hI hz2 hk2 |-;have n1:S≠s.heap.objs.size:=ne_of_lt lt;refine h { s with heap:=h2 } s.heap.objs.size [s.heap.objs.size,S] vs (fun i s'=>eN s'.heap s.heap.objs.size (.int (sl i) 0) i S es.size ep/\fX s'.heap S es ep t)
  (fun c o e=>hk2 c o e) rfl rfl rfl hp (arith hz2) (le_refl _) (by show s.heap.objs.size<h2.objs.size;rw[hz2];exact lt_succ_self _) (fun A' hh'=>?_) ⟨hI,hS.get (hk2 S)⟩ ?_
 ·exact {
   sub:=fun b hb=>by simp at hb;simp [hb]
   grefl:=fun _=>rfl
   gtrans:=fun a b c e f=>f.trans e
   frame:=fun i s1 h' tk st _ hk=>⟨st.1.get fun o e=>hk _ (by simp) o e,st.2.get fun o e=>hk _ (by simp) o e⟩
   item:=fun i s1 Q1 E1 hi st hQ1=>by
    have hv:vs[i]?=some vs[i]:=getElem?_eq_getElem hi;refine next_item (n:=0) st.1 st.2 hf (v:=vs[i]) (sl:=sl (i+1)) (fun s2 A2 E2 Q2 st2 hQ2=>hn i s2 A2 E2 Q2 (le_of_lt hi) st2 (by rw[hv];exact hQ2)) n1 fun h' i' b'=>?_;exact hQ1 vs[i] { s1 with heap:=h' } hv ⟨i',st.2.get fun o e=>b'.extBut _ o n1 e⟩ ⟨fun b o hb e=>b'.extBut b o (fun z=>hb (by simp [z])) e,rfl,rfl,rfl,le_refl _⟩
   done:=fun s1 Q1 E1 st hQ1=>by
    have hv:vs[vs.length]?=none:=by simp
    refine next_end hh' st.1 st.2 hf (fun s2 A2 E2 Q2 st2 hQ2=>hn vs.length s2 A2 E2 Q2 (le_refl _) st2 (by rw[hv];exact hQ2)) fun h' k'=>?_;exact hQ1 { s1 with heap:=h' } ⟨fun b o hb e=>k' b o (fun z=>hb (by simp [z])) e,rfl,rfl,rfl,le_refl _⟩
   self:=fun i s1 Q1 E1 st hQ1=>zP st.1 hQ1 }
 intro b hb;show b<h2.objs.size/\_;rw[hz2];simp only[mem_cons,not_mem_nil,or_false] at hb;rcases hb with rfl|rfl
 ·exact⟨lt_succ_self _,.inr (le_refl _)⟩
 exact⟨lt_succ_of_lt lt,.inl rfl⟩
end
end SRT
namespace SRT
open PySem PyProof.Rows
noncomputable def gallopF:Bool->Keyed->Array Keyed->Nat->Nat->Nat->StateT SortSt Sem (Option Nat):=sortPriv% PySem.Builtin.gallop
noncomputable def mergeLoF:Array Keyed->Array Keyed->StateT SortSt Sem (Array Keyed):=sortPriv% PySem.Builtin.mergeLo
noncomputable def mergeHiF:Array Keyed->Array Keyed->StateT SortSt Sem (Array Keyed):=sortPriv% PySem.Builtin.mergeHi
noncomputable def IK (p:Keyed):Prop:=∃n t,p.1=.int n t
noncomputable def uF (xs:Array Keyed):Prop:=∀(i:Nat) p,xs[i]?=some p->IK p
end SRT
namespace SRT
open PySem PyProof.Rows
noncomputable abbrev withG (st:SortSt)(g:Nat):SortSt:=SortSt.mk' (kindOf st) (arrOf st) (pendingOf st) g (failedOf st)
section
variable {prog:Program}{w:World}{s:Shared}{A:Around}{E:Value->Shared->Prop}
noncomputable def K7 (a b out:Array Keyed)(i j:Nat):List Keyed:=out.toList++(a.toList.drop i++b.toList.drop j)
noncomputable def LoI (a b out:Array Keyed)(i j:Nat):Prop:=(K7 a b out i j).Perm (a.toList++b.toList)/\i+1<a.size/\j<b.size
noncomputable def RetI (a b:Array Keyed)(c:Option (Array Keyed)):Prop:=∃r,c=some r/\r.toList.Perm (a.toList++b.toList)
end
end SRT
namespace SRT
open PySem PyProof.Rows
section
variable {prog:Program}{w:World}{s:Shared}{A:Around}{E:Value->Shared->Prop}
noncomputable def K8 (a b out:Array Keyed)(i j:Nat):List Keyed:=(a.toList.take i++b.toList.take j)++out.toList
noncomputable def HiI (a b out:Array Keyed)(i j:Nat):Prop:=(K8 a b out i j).Perm (a.toList++b.toList)/\0<i/\1<j/\i<=a.size/\j<=b.size
end
end SRT
namespace SRT
open PySem PyProof.Rows
noncomputable def Chain:List (Nat×Nat×Nat)->Nat->Nat->Prop
 | [],a,b=>a=b
 | (p,n,_)::t,a,b=>p=a/\1<=n/\Chain t (a+n) b
theorem Chain.le:∀{l:List (Nat×Nat×Nat)}{a b:Nat},Chain l a b->a<=b
 | [],_,_,h=>Nat.le_of_eq h
 | (_,n,_)::_,a,_,⟨_,_,h⟩=>le_trans (Nat.le_add_right a n) h.le
theorem Chain.two:∀{pre post:List (Nat×Nat×Nat)}{sa na w sb nb v a b:Nat},Chain (pre++(sa,na,w)::(sb,nb,v)::post) a b ->
  sb=sa+na/\1<=na/\1<=nb/\sb+nb<=b/\Chain (pre++(sa,na+nb,w)::post) a b
 | [],post,sa,na,w,sb,nb,v,a,b,⟨h1,h2,h3,h4,h5⟩=>by
  have:=h5.le;refine⟨ω,h2,h4,ω,h1,ω,?_⟩;rw[<- Nat.add_assoc];exact h5
 | (_,_,_)::pre,post,sa,na,w,sb,nb,v,a,b,⟨h1,h2,h3⟩=>by
  obtain⟨k1,k2,k3,k4,k5⟩:=Chain.two h3;exact⟨k1,k2,k3,k4,h1,h2,k5⟩
theorem Chain.snoc:∀{l:List (Nat×Nat×Nat)}{a b n w:Nat},Chain l a b->1<=n->Chain (l++[(b,n,w)]) a (b+n)
 | [],a,b,n,w,h,h1=>by cases h;exact⟨rfl,h1,rfl⟩
 | (_,_,_)::t,a,b,n,w,⟨k1,k2,k3⟩,h1=>⟨k1,k2,k3.snoc h1⟩
theorem Chain.Eo:∀{l:List (Nat×Nat×Nat)}{a b p n w v:Nat},Chain (l++[(p,n,w)]) a b->Chain (l++[(p,n,v)]) a b
 | [],a,b,p,n,w,v,h=>h
 | (_,_,_)::t,a,b,p,n,w,v,⟨k1,k2,k3⟩=>⟨k1,k2,k3.Eo⟩
theorem uF.perm {a b:Array Keyed}(h:uF a)(hp:b.toList.Perm a.toList):uF b:=by
 intro i p hi;have h1:p∈b.toList:=by rw[<- getElem?_toList] at hi;exact mem_of_getElem? hi
 obtain⟨j,hj⟩:=List.getElem?_of_mem (hp.mem_iff.mp h1);exact h j p (by rw[<- getElem?_toList];exact hj)
theorem uF.ext {a:Array Keyed}(h:uF a)(x y:Nat):uF (a.extract x y):=by
 intro i p hi;rw[Array.getElem?_extract] at hi;split at hi
 ·exact h _ p hi
 cases hi
section
variable {prog:Program}{w:World}{s:Shared}{A:Around}{E:Value->Shared->Prop}{a₀:Array Keyed}
structure MB (a₀:Array Keyed)(st:SortSt):Prop where
 kind:kindOf st=oneType'
 perm:(arrOf st).toList.Perm a₀.toList
 fail:failedOf st=none
theorem MB.size {st:SortSt}(h:MB a₀ st):(arrOf st).size=a₀.size:=by simpa using h.perm.length_eq
end
end SRT
namespace SRT
open PySem PyProof.Rows
section
variable {prog:Program}{w:World}{s:Shared}{A:Around}{E:Value->Shared->Prop}{a₀:Array Keyed}{pd:Array (Nat×Nat×Nat)}
noncomputable def MP (a₀:Array Keyed)(pd:Array (Nat×Nat×Nat))(st:SortSt):Prop:=MB a₀ st/\pendingOf st=pd
theorem MP.set {st:SortSt}{xs:Array Keyed}(h:MP a₀ pd st)(hp:xs.Perm (arrOf st)):MP a₀ pd (setArr st xs):=
 ⟨⟨h.1.kind,(Array.perm_iff_toList_perm.mp hp).trans h.1.perm,h.1.fail⟩,h.2⟩
end
end SRT
namespace SRT
open PySem PyProof.Rows
section
variable {prog:Program}{w:World}{s:Shared}{A:Around}{E:Value->Shared->Prop}{a₀:Array Keyed}{pd:Array (Nat×Nat×Nat)}
noncomputable def MC (a₀:Array Keyed)(hi:Nat)(st:SortSt):Prop:=MB a₀ st/\Chain (pendingOf st).toList 0 hi
theorem Ia:∀(l:List (Nat×Nat×Nat)),l≠[]->∃t p n v,l=t++[(p,n,v)]
 | l,h=>⟨l.dropLast,(l.getLast h).1,(l.getLast h).2.1,(l.getLast h).2.2,(List.dropLast_concat_getLast h).symm⟩
theorem pN {α:Type}(f:α->α)(x:α):∀t:List α,(t++[x]).modify t.length f=t++[f x]
 | []=>rfl
 | y::t=>congrArg (y :: ·) (pN f x t)
theorem MC.Eo {st:SortSt}{hi pw:Nat}(h:MC a₀ hi st):MC a₀ hi (setPending st ((pendingOf st).modify ((pendingOf st).size-1) fun(x,len,_)=>(x,len,pw))):=by
 refine⟨⟨h.1.kind,h.1.perm,h.1.fail⟩,?_⟩;show Chain ((pendingOf st).modify ((pendingOf st).size-1) fun(x,len,_)=>(x,len,pw)).toList 0 hi;have hc:=h.2;by_cases he:(pendingOf st).toList=[]
 ·have:pendingOf st=#[]:=by simpa using he
  rw[this] at hc |-;simpa using hc
 obtain⟨t,p,n,v,e⟩:=Ia _ he;have e2:pendingOf st=(t++[(p,n,v)]).toArray:=by rw[<- e]
 rw[e] at hc;rw[e2];have:((t++[(p,n,v)]).toArray.modify ((t++[(p,n,v)]).toArray.size-1) fun(x,len,_)=>(x,len,pw)).toList=t++[(p,n,pw)]:=by
  simp [pN]
 rw[this];exact hc.Eo
theorem MC.push {st:SortSt}{lo n:Nat}(h:MC a₀ lo st)(h1:1<=n):MC a₀ (lo+n) (setPending st ((pendingOf st).push (lo,n,0))):=by
 refine⟨⟨h.1.kind,h.1.perm,h.1.fail⟩,?_⟩;show Chain ((pendingOf st).push (lo,n,0)).toList 0 (lo+n);rw[toList_push];exact h.2.snoc h1
theorem MC.of {st st':SortSt}{lo:Nat}(h:MC a₀ lo st)(h':MP a₀ (pendingOf st) st'):MC a₀ lo st':=⟨h'.1,by rw[h'.2];exact h.2⟩
end
end SRT
namespace SRT
open PySem PyProof.Rows
end SRT
namespace SRT
open PySem PyProof.Rows
theorem Cm {vs xs:List Value}(hp:xs.Perm vs):∀{ns:List Int},IntsAre vs ns->∃ns',IntsAre xs ns'/\ns'.Perm ns:=by
 induction hp with
 | nil=>intro ns h;exact⟨ns,h,List.Perm.refl _⟩
 | cons x _ ih=>
  intro ns h;cases h with
  | cons n t h=>
   obtain⟨ns',h1,h2⟩:=ih h;exact⟨n::ns',.cons n t h1,h2.cons n⟩
 | swap x y l=>
  intro ns h;cases h with
  | cons n t h=>
   cases h with
   | cons m u h=>exact⟨m::n::_,.cons m u (.cons n t h),List.Perm.swap _ _ _⟩
 | trans _ _ ih1 ih2=>
  intro ns h;obtain⟨n1,a1,b1⟩:=ih2 h;obtain⟨n2,a2,b2⟩:=ih1 a1;exact⟨n2,a2,b2.trans b1⟩
theorem mq {α:Type}[DecidableEq α]:∀{l ks:List α},l.Nodup->(∀x∈l,x∈ks)->ks.length=l.length->ks.Perm l
 | [],ks,_,_,h=>by rw[length_eq_zero_iff.mp h]
 | x::l,ks,hn,hs,hl=>by
  obtain⟨h1,h2⟩:=nodup_cons.mp hn;have hx:x∈ks:=hs x (mem_cons_self ..);refine(List.perm_cons_erase hx).trans (List.Perm.cons _ (mq h2 (fun y hy=>?_) ?_))
  ·have:y≠x:=fun e=>h1 (e ▸ hy);exact(List.mem_erase_of_ne this).mpr (hs y (mem_cons_of_mem _ hy))
  rw[List.length_erase_of_mem hx,hl];rfl
theorem lA (val:Nat->Int):∀i,(firstMet val i).Nodup
 | 0=>List.nodup_nil
 | i+1=>by
  rw[firstMet_succ];unfold step_dedup;have ih:=lA val i;split
  ·exact ih
  rename_i h;rw[List.nodup_append];refine⟨ih,by simp,fun a ha b hb e=>?_⟩;simp only[mem_singleton] at hb;exact h (any_eq_true.mpr ⟨a,ha,by simp [e,hb]⟩)
noncomputable def ded (ns:List Int):List Int:=firstMet (fun i=>ns.getD i 0) ns.length
theorem Cy (ns:List Int):(ded ns).Nodup:=lA _ _
theorem vC (ns:List Int):(ded ns).length<=ns.length:=firstMet_length_le _ _
theorem Km {ns:List Int}{k:Int}:k∈ded ns↔k∈ns:=by
 have e:=firstMet_any (fun i=>ns.getD i 0) ns.length k;have hr:(List.range ns.length).map (fun i=>ns.getD i 0)=ns:=by
  refine ext_getElem (by simp) fun i h1 h2=>?_;simp at h1 h2;simp [h2]
 rw[hr] at e;have a1:∀l:List Int,l.any (· == k)=true↔k∈l:=fun l=>by simp
 rw[<- a1,<- a1];unfold ded;rw[e]
section
variable {prog:Program}{w:World}{A:Around}{E:Value->Shared->Prop}{s:Shared}{S:Addr}{es:Array (Int×Value)}{ep:Nat}{t:SetTable}
theorem rP:∀{l:List (Int×Value)},ElemsOf (intKind prog w) l->∃ks:List Int,IntsAre (l.map (·.2)) ks/\∀k,k∈ks ↔ ∃e∈l,(intKind prog w).is k e.2=true
 | [],_=>⟨[],.nil,fun k=>by simp⟩
 | (h,v)::l,he=>by
  obtain⟨⟨k,hk,_⟩,_⟩:=he.head;obtain⟨tk,e⟩:=Value.isInt_shape hk;dsimp only at e hk;subst e;obtain⟨ks,h1,h2⟩:=rP he.tail;refine⟨k::ks,.cons k tk h1,fun j=>?_⟩;rw[mem_cons,h2];constructor
  ·rintro(rfl|⟨e,a,b⟩)
   ·exact⟨_,mem_cons_self ..,hk⟩
   exact⟨e,mem_cons_of_mem _ a,b⟩
  rintro⟨e,a,b⟩;rcases mem_cons.mp a with rfl|a
  ·exact .inl ((intKind prog w).inj _ _ _ b hk)
  exact .inr ⟨e,a,b⟩
theorem GF {vs:List Value}{acc:Array Value}(h:ItemsOf (fun i v=>vs[i]?=some v) acc vs.length):acc.toList=vs:=by
 refine ext_getElem (by simpa using h.1) fun i h1 h2=>?_;have:vs[i]?=some acc[i]:=h.2 i acc[i] (by simp);rw[getElem?_eq_getElem h2] at this;simpa using this.symm
theorem xH {Q:List Value->Shared->Prop}(hh:A.handled=none)(hS:fX s.heap S es ep t)(hf:t.fits es.size=true)(ht:TOk (!bt w) t)(hz:es.size<=sizeLine)
  (hQ:∀(s':Shared)(vs:List Value),vs.Perm (es.toList.map (·.2))->(∀c o,s.heap.get? c=some o->s'.heap.get? c=some o)->s'.gens=s.gens->s'.os=s.os->s.heap.objs.size<=s'.heap.objs.size->Q vs s') :
  wpAny (model prog w) A (collect (.ref S)) Q E s:=by
 obtain⟨o,ho,hx,hd⟩:=id hS;have hty:s.TypeIs (.ref S) "set" := ⟨o,ho,hx.1⟩;have lt:S<s.heap.objs.size:=lt_size ho;unfold collect;refine wpAny_bind (wpAny_runValue (codeAny_builtin F.entry_proto_collect ?_));rw[Around.under_plainId F.plain_proto_collect _];show wpAny _ A.in1 (newList [] >>= fun l=>again (.builtin "list.__iadd__" ⟨[l,.ref S],[]⟩)) _ _ s;refine wpAny_bind (wpAny_newObj_type ?_);refine wpAny_pure ⟨plainId_quiet F.plain_list_iadd _,codeAny_builtin F.entry_list_iadd ?_⟩;rw[Around.under_plainId F.plain_list_iadd _];have hS1:fX (s.heap.push { cls:=.type "list",data:=.seq ([]:List Value).toArray }) S es ep t:=hS.get fun o e=>get?_push_of_some _ e;have hL1:(s.heap.push { cls:=.type "list",data:=.seq ([]:List Value).toArray }).get? s.heap.objs.size=some { cls:=.type "list",data:=.seq ([]:List Value).toArray }:=get?_push_size _ rfl;have hk1:∀c o,s.heap.get? c=some o->(s.heap.push { cls:=.type "list",data:=.seq ([]:List Value).toArray }).get? c=some o:=fun c o e=>get?_push_of_some _ e;have hty1:Shared.TypeIs { s with heap:=s.heap.push { cls:=.type "list",data:=.seq ([]:List Value).toArray } } (.ref S) "set" := ⟨o,hk1 _ _ ho,hx.1⟩;generalize s.heap.push { cls:=.type "list",data:=.seq ([]:List Value).toArray }=h1 at hS1 hL1 hk1 hty1 |-;have ne1:s.heap.objs.size≠S:=ne_of_gt lt;show wpAny _ A.in1 (Builtin.List.listExtendWith (.ref s.heap.objs.size) (.ref S) (.ref s.heap.objs.size)) _ _ _;unfold Builtin.List.listExtendWith;refine wpAny_bind (wpAny_typeOf hty1 ?_);have q1:Builtin.List.listSameRef (.ref s.heap.objs.size) (.ref S)=false:=by simp [Builtin.List.listSameRef,ne1]
 rw[if_neg (by rw[q1];decide)];refine wpAny_bind (Eg (s:={ s with heap:=h1 }) hh hS1 hf ht hz fun s2 I fp vs St hk2 hg2 ho2 ht2 hp hI hle hlt W st0 hfp=>?_);have hty2:s2.TypeIs (.ref S) "set" := ⟨o,hk2 _ _ (hk1 _ _ ho),hx.1⟩;refine wpAny_bind (wpAny_holding ?_);unfold Builtin.List.listLengthHint;refine wpAny_bind (wpAny_specialOf hty2 F.slot_set_len.lookup ?_)
 (generalize hid:("set.__len__" : String)=id0;(fail_if_success (clear hid id0));wp_delta;rw[show splitId id0=some ("set","__len__") from by subst hid;decide +kernel];subst hid)
 refine wpAny_bind (wpAny_isInstance (b:=true) hty2 sub_set_self ?_);refine wpAny_ite_false rfl (wpAny_ite_true ψ (wpAny_bind (wpAny_typeOf hty2 (wpAny_pure ?_))));rw[if_pos δ];have hSf:s.heap.objs.size∉fp:=fun z=>by
  have l1:s.heap.objs.size<h1.objs.size:=lt_size hL1;rcases(hfp _ z).2 with e|e
  ·exact ne1 e
  exact lt_irrefl _ (lt_of_lt_of_le l1 e)
 have hL2:=hk2 _ _ hL1;refine wpAny_bind (wpAny_rule (wpAny_bind ?_));show wpAny _ A.in1 (updateSeq s.heap.objs.size (·.push .none) >>= fun _=>updateSeq s.heap.objs.size (·.pop)) _ _ _;refine wpAny_bind (wpAny_updateSeq hL2 rfl ?_);have hL3:=get?_update_self (Obj.mapSeq (·.push Value.none)) hL2 rfl;refine wpAny_updateSeq hL3 rfl ?_;have hL4:=get?_update_self (Obj.mapSeq (·.pop)) hL3 rfl;have oth:∀b o,b≠s.heap.objs.size->s2.heap.get? b=some o->((s2.heap.update s.heap.objs.size (Obj.mapSeq (·.push Value.none))).update s.heap.objs.size (Obj.mapSeq (·.pop))).get? b=some o:=
  fun b o hb e=>(get?_update_other _ _ (Ne.symm hb)).trans ((get?_update_other _ _ (Ne.symm hb)).trans e)
 have W1:=W A.in1 (by simpa using hh);refine wpAny_pure ⟨plainId_quiet F.plain_extend_loop _,codeAny_extend_loopS W1 (by rw[hp.length_eq,length_map,length_toList];exact hz) _ hSf _ vs.length 0 _ _ _ rfl (zero_le _)
  (W1.frame 0 s2 _ s2.toks st0 (le_refl _) fun b hb o e=>oth b o (fun z=>hSf (z ▸ hb)) e) hL4 (ItemsOf.nil _) fun s' acc' c' hm hS' hacc=>?_⟩
 show wpAny _ A (load s.heap.objs.size >>= _) _ _ s';refine wpAny_bind (wpAny_load hS' (wpAny_pure ?_));rw[GF hacc];have l2:s.heap.objs.size<s'.heap.objs.size:=lt_size hS';refine hQ s' vs hp (fun c o e=>?_) (hm.gens.trans hg2) (hm.os.trans ho2) (le_of_lt l2);have lc:c<s.heap.objs.size:=lt_size e;have nI:c≠I:=fun z=>by
  have l3:s.heap.objs.size<h1.objs.size:=lt_size hL1;have l4:h1.objs.size<=I:=hle;rw[z] at lc;exact lt_irrefl _ (lt_of_lt_of_le (Nat.lt_trans lc l3) l4)
 exact hm.heap c o (by simp only[mem_cons,not_mem_nil,or_false,not_or];exact⟨ne_of_lt lc,nI⟩) (oth c o (ne_of_lt lc) (hk2 _ _ (hk1 _ _ e)))
theorem Ed {l:List Int}{Q:Value->Shared->Prop}(hh:A.handled=none)(hS:SetT (intKind prog w) (!bt w) s.heap S (fun k'=>l.any (· == k')) l.length)(hnd:l.Nodup)(h64:l.length<64)
  (h:∀(s':Shared)(L:Addr)(xs:List Value)(ns':List Int)(k:Nat),s'.heap.get? L=some (seqObj "list" xs.toArray k)->IntsAre xs ns'->ns'.Perm l->(l.length<64->ns'.Pairwise (·<=·)) ->
   (∀c o,s.heap.get? c=some o->s'.heap.get? c=some o)->s'.gens=s.gens->s'.os=s.os->s.heap.objs.size<=L->Q (.ref L) s'):wpAny (model prog w) A (call (.builtin "sorted") [.ref S]) Q E s:=by
 obtain⟨o,es,ep,t,ho,hex,hd,⟨hel,hmem,hb⟩,hf,hn,ht⟩:=hS;have hz:es.size<=sizeLine:=fits_of_scanBound hb;obtain⟨ks,hks,hkm⟩:=rP hel;have hkp:ks.Perm l:=mq hnd (fun x hx=>(hkm x).mpr ((hmem x).mp (by simpa using hx))) (by rw[<- hn,<- length_toList,<- IntsAre.length hks,length_map]);refine Calls.call_function_entry kind_sorted plain_sorted entry_sorted (args_sorted1 (.ref S)) ?_;unfold Builtin.«sorted»;refine wpAny_bind (m:=checkCount "sorted" 1 1 _) (wpAny_pure (wpAny_bind (xH (by simpa using hh) ⟨o,ho,hex,hd⟩ hf ht hz fun s1 vs hp hk1 hg1 ho1 hl1=>wpAny_bind (wpAny_newList ?_ ?_))))
 ·obtain⟨ms,hms,hmp⟩:=Cm hp hks;have hvl:vs.length=l.length:=by rw[IntsAre.length hms,hmp.length_eq,hkp.length_eq]
  have hL:(s1.heap.push (seqObj "list" vs.toArray 0)).get? s1.heap.objs.size=some (seqObj "list" vs.toArray 0):=get?_push_size _ rfl;show wpAny (model prog w) A.in1 _ _ E { s1 with heap:=s1.heap.push (seqObj "list" vs.toArray 0) };refine wpAny_bind (wpAny_holding (wpAny_call_entry slot_list_sort ⟨_,hL,rfl⟩ entry_list_sort (list_sort_tree hL hms ?_ fun xs ns' a1 a2 a3=>⟨_,rfl,wpAny_pure ⟨_,rfl,?_⟩⟩) (args_list_sort _)))
  ·rw[hvl];exact h64
  obtain⟨e,he⟩:=sortedHeap_at (out:=xs) hL;refine h _ _ xs.toList ns' e (by simpa using he) a1 (a2.trans (hmp.trans hkp)) (fun _=>a3) (fun c o x=>?_) hg1 ho1 hl1;have lc:c<s1.heap.objs.size:=lt_size (hk1 c o x);show(sortedHeap _ _ _ _).get? c=some o;rw[sortedHeap_old (ne_of_lt lc) (by rw[size_push'];exact lt_succ_of_lt lc)];exact get?_push_of_some _ (hk1 c o x)
 rw[hp.length_eq,length_map,length_toList];exact hz
end
end SRT
set_option maxHeartbeats 4000000
namespace L2
open PySem PySem.Spec PyProof.Rows
theorem qp:∀{xs:List Int}{us:List Value},Vals (xs.map V.int) us->IntsAre us xs
 | [],_,h=>by cases h;exact .nil
 | x::xs,_,h=>by
  cases h with
  | cons r h=>
   obtain⟨t,rfl⟩:=r;exact .cons x t (qp h)
theorem uf:∀{us:List Value}{xs:List Int},IntsAre us xs->Vals (xs.map V.int) us
 | _,_,.nil=>.nil
 | _,_,.cons n t h=>.cons ⟨t,rfl⟩ (uf h)
noncomputable def tSS (K:PySem.W.Frag)(ta:TA):TE:=fun σ H Q=>ta σ H fun vs H1=>∃(l:Addr)(xs:List Int),vs=[.ref l]/\SqL K H1 l (xs.map V.int)/\xs.length<64 /\
 ∀(p:Addr)(ys:List Int),H1 p=none->ys.Perm (SRT.ded xs)->((SRT.ded xs).length<64->ys.Pairwise (·<=·))->Q (.ref p) (upd H1 p (.lst (ys.map V.int)))
section
variable {X:Cx}{pins:List (Addr×Obj)}{s:Shared}{σ:St}{H:Hp}
theorem Inv.drawn (I:Inv X pins σ H s)(d:Drawn):Inv X pins σ H { s with drawn:=d }:=
 I.step (g':=s.gens) (d':=d) (t':=s.toks) (h':=s.heap) (ch:=[]) (fun _ z=>nomatch z) (fun b o _ _ _ e _=>e) (fun b o _ _ _ e _=>⟨o.slots,e⟩) (fun _ _ _ _ n=>n) (fun b o _ e=>⟨o,e⟩) (fun _ _ e=>e) (fun _ _ _ e=>e) (fun b ps e=>⟨#[],by rw[e];simp⟩) (fun _ h=>h) I.hok I.bare
theorem Jt {a:Expr}{ta:TA}{p p2 pos pos2:Pos}(hc:X.calm=true) (hgl:Gl X "sorted") (hml:X.mg "sorted" = none) (hg:Gl X "set") (hm:X.mg "set" = none) (ha:PA X [a] ta)
  (hs:starEach [a] X.env=[(false,eval a X.env)]:=by rfl)
  (he:starEach [.Call (.Name "set" p2) [a] [] pos2] X.env=[(false,eval (.Call (.Name "set" p2) [a] [] pos2) X.env)]:=by rfl) :
  PE X (.Call (.Name "sorted" p) [.Call (.Name "set" p2) [a] [] pos2] [] pos) (tSS X.K ta):=by
 intro pins s σ H Q I h;refine wpAny_Call_Name_kw (jK I hgl hml PyProof.Rows.boot_sorted ?_ δ δ);refine PyProof.Rows.callWith_builtin1 ?_ he rfl;rw[he];show wpAny _ _ (spliced ((false,eval (.Call (.Name "set" p2) [a] [] pos2) X.env)::[])) _ _ s;refine Calls.spliced_cons ?_;refine Call_ (jK I hg hm PyProof.Rows.boot_set (PyProof.Rows.callWith_type1 (thA (ha pos2 pins s σ H _ I h) fun us s1 vs H1 I1 r1 q1=>?_) hs rfl));obtain⟨l,xs,rfl,sq,hn,q⟩:=q1;cases r1 with
 | cons r rr=>
  cases rr;cases r;obtain⟨its,rv,pl,hz⟩:=I1.list sq;have hI:=qp rv;have hlen:its.length=xs.length:=IntsAre.length hI;refine SRT.CJ (I1.ok.hd hc) pl.isList (by simpa using hI) (by simp [hlen,scanBound];omega) fun h2 t2 hS hk=>Calls.spliced_nil ?_;have eq:firstMet (fun i=>xs.getD i 0) its.toArray.size=SRT.ded xs:=by unfold SRT.ded;rw[size_toArray,hlen]
  rw[eq] at hS;have hk2:∀c o,s1.heap.get? c=some o->h2.get? c=some o:=fun c o e=>hk c o (lt_size e) e;refine SRT.Ed (s:={ s1 with heap:=h2,toks:=t2 }) (I1.ok.hd hc) hS (SRT.Cy xs) (Nat.lt_of_le_of_lt (SRT.vC xs) hn) fun s3 L ys ns k gL iL pL oL k3 g3 o3 l3=>?_;have le:s1.heap.objs.size<=L:=by
   obtain⟨o,_,_,_,e,_⟩:=hS;exact le_trans (le_of_lt (lt_size e)) l3
  have hf:H1 L=none:=I1.hok.fresh le;obtain⟨h3,g3',d3,t3,o3'⟩:=s3;cases g3;cases o3;have hl:ns.length<=sizeLine:=by
   rw[pL.length_eq];exact le_trans (SRT.vC xs) (le_trans (le_of_lt hn) δ)
  refine⟨.ref L,_,((I1.drawn d3).laid (t':=t3) (h':=h3) (fun c o e=>k3 c o (hk2 c o e)) le (show dU X.prog X.w _ h3 _ (.lst (ns.map V.int)) from⟨by simpa using hl,ys,k,uf iL,gL⟩)),rfl,q L ns hf pL oL⟩
theorem IV {a:Expr}{ta:TA}{p p2 pos pos2:Pos}(hc:X.calm=true) (hgl:Gl X "sorted") (hml:X.mg "sorted" = none) (hg:Gl X "set") (hm:X.mg "set" = none) (ha:QA X [a] ta)
  (hs:starEach [a] X.env=[(false,eval a X.env)]:=by rfl)
  (he:starEach [.Call (.Name "set" p2) [a] [] pos2] X.env=[(false,eval (.Call (.Name "set" p2) [a] [] pos2) X.env)]:=by rfl) :
  QE X (.Call (.Name "sorted" p) [.Call (.Name "set" p2) [a] [] pos2] [] pos) (tSS X.K ta):=⟨Jt hc hgl hml hg hm ha.h hs he⟩
end
noncomputable def dM (ss:Sts)(left:List Nat)(l:Int):Nat:=(left.map (lbl ss)).count l
noncomputable def stepOk (ss:Sts)(left:List Nat):Pl->Bool
 | .tab=>decide (fY ss left<=200)
 | .pick l=>decide (dM ss left l=left.length)
 | .low k _ _=>(left.drop 1).contains k
 | .msk l _=>(decide (0<dM ss left l)&&decide (dM ss left l<left.length))&&decide (fY ss left<=64)
 | .one k _=>(left.contains k&&decide (left.length≠1))&&decide ((bh ss k).1=(bh ss k).2.1)
 | .wit k _=>left.contains k&&decide (left.length≠1)
noncomputable def okP (ss:Sts):Pl->List Nat->Bool
 | .tab,left=>stepOk ss left .tab
 | .pick l,left=>stepOk ss left (.pick l)
 | .low k a b,left=>stepOk ss left (.low k a b)&&(okP ss a (left.filter (· < k))&&okP ss b (left.filter (k<=·)))
 | .msk l r,left=>stepOk ss left (.msk l r)&&okP ss r (left.filter fun k=>(bh ss k).2.2≠l)
 | .one k r,left=>stepOk ss left (.one k r)&&okP ss r (left.filter (·≠k))
 | .wit k r,left=>stepOk ss left (.wit k r)&&okP ss r (left.filter (·≠k))
theorem wB (ss:Sts)(p:Pl)(left:List Nat):okP ss p left=(stepOk ss left p&&(kids ss p left).all fun x=>okP ss x.2 x.1):=by
 cases p with
 | tab=>simp [okP,kids]
 | pick l=>simp [okP,kids]
 | one k r=>simp [okP,kids]
 | wit k r=>simp [okP,kids]
 | msk l r=>simp [okP,kids]
 | low k a b=>simp [okP,kids]
theorem Am {left:List Nat}{k:Nat}(hk:k∈left)(hu:left.Pairwise (· < ·))(h1:left.length≠1):left.filter (·≠k)≠[]:=by
 intro e;have all:∀x∈left,x=k:=fun x hx=>by
  rcases Decidable.em (x=k) with h|h
  ·exact h
  have:x∈left.filter (·≠k):=mem_filter.mpr ⟨hx,by simpa using h⟩;rw[e] at this;cases this
 cases left with
 | nil=>cases hk
 | cons a r=>
  cases r with
  | nil=>exact h1 rfl
  | cons b r=>
   have h2:=(pairwise_cons.mp hu).1 b (mem_cons_self ..);have h3:=all a (mem_cons_self ..);have h4:=all b (mem_cons_of_mem _ (mem_cons_self ..));omega
theorem jl {ss:Sts}{left:List Nat}{p:Pl}(lf:Lf ss left)(h:stepOk ss left p=true):∀x∈kids ss p left,Lf ss x.1:=by
 have mk:∀q:Nat->Bool,left.filter q≠[]->Lf ss (left.filter q):=fun q hq=>⟨hq,fun k hk=>lf.lt k (mem_filter.mp hk).1,lf.up.sublist (List.filter_sublist ..)⟩;intro x hx;cases p with
 | tab=>cases hx
 | pick l=>cases hx
 | one k r=>
  simp only[kids,mem_singleton] at hx;subst hx;simp only[stepOk,and_eq_true,contains_iff_mem,decide_eq_true_eq] at h;exact mk _ (Am h.1.1 lf.up h.1.2)
 | wit k r=>
  simp only[kids,mem_singleton] at hx;subst hx;simp only[stepOk,and_eq_true,contains_iff_mem,decide_eq_true_eq] at h;exact mk _ (Am h.1 lf.up h.2)
 | msk l r=>
  simp only[kids,mem_singleton] at hx;subst hx;simp only[stepOk,and_eq_true,decide_eq_true_eq] at h;refine mk _ fun e=>?_;have:dM ss left l=left.length:=by
   unfold dM;have e2:∀y∈left.map (lbl ss),l=y:=fun y hy=>by
    obtain⟨k,hk,rfl⟩:=mem_map.mp hy;rcases Decidable.em ((bh ss k).2.2=l) with h|h
    ·exact h.symm
    have:k∈left.filter fun k=>decide ((bh ss k).2.2≠l):=mem_filter.mpr ⟨hk,by simpa using h⟩;rw[e] at this;cases this
   rw[List.count_eq_length.mpr e2,length_map]
  omega
 | low k a b=>
  simp only[stepOk,contains_iff_mem] at h;have hk:k∈left:=List.mem_of_mem_drop h;simp only[kids,mem_cons,not_mem_nil,or_false] at hx;rcases hx with rfl|rfl
  ·refine mk _ fun e=>?_;cases left with
   | nil=>cases hk
   | cons c r=>
    have h2:=(pairwise_cons.mp lf.up).1 k (by simpa using h);have:c∈(c::r).filter (fun x=>decide (x<k)):=mem_filter.mpr ⟨mem_cons_self ..,by simpa using h2⟩;rw[e] at this;cases this
  refine mk _ fun e=>?_;have:k∈left.filter (fun x=>decide (k<=x)):=mem_filter.mpr ⟨hk,by simp⟩;rw[e] at this;cases this
theorem Ad {ss:Sts}{p:Pl}{left:List Nat}(h:PlV ss p left):Lf ss left:=h.ok.lf
theorem Ae {left:List Nat}{k:Nat}(hk:k∈left)(h:left.filter (fun x=>decide (x≠k))≠[]):left.length≠1:=by
 intro e;obtain⟨a,rfl⟩:=List.length_eq_one_iff.mp e;rw[mem_singleton] at hk;subst hk;exact h (by simp)
theorem PlV.okP {ss:Sts}:∀{p:Pl}{left:List Nat},PlV ss p left->okP ss p left=true
 | .tab,left,h=>decide_eq_true h.2
 | .pick l,left,h=>by
  refine decide_eq_true ?_;unfold dM;rw[List.count_eq_length.mpr fun y hy=>?_,length_map];obtain⟨k,hk,rfl⟩:=mem_map.mp hy;exact(h.2 k hk).symm
 | .one k r,left,h=>by
  obtain⟨⟨lf,hk,e⟩,hr⟩:=h;have h1:=Ae hk (Ad hr).ne;show(((left.contains k&&decide (left.length≠1))&&decide ((bh ss k).1=(bh ss k).2.1))&&L2.okP ss r _)=true;rw[PlV.okP hr,decide_eq_true h1,decide_eq_true e,contains_iff_mem.mpr hk];rfl
 | .wit k r,left,h=>by
  obtain⟨⟨lf,hk⟩,hr⟩:=h;have h1:=Ae hk (Ad hr).ne;show((left.contains k&&decide (left.length≠1))&&L2.okP ss r _)=true;rw[PlV.okP hr,decide_eq_true h1,contains_iff_mem.mpr hk];rfl
 | .low k a b,left,h=>by
  obtain⟨⟨lf,hk⟩,ha,hb⟩:=h;have h1:k∈left.drop 1:=by
   cases left with
   | nil=>cases hk
   | cons c r=>
    rcases mem_cons.mp hk with rfl|hk
    ·refine absurd ?_ (Ad ha).ne;rw[List.filter_eq_nil_iff];intro x hx;rcases mem_cons.mp hx with rfl|hx
     ·simp
     have:=(pairwise_cons.mp lf.up).1 x hx;simp;omega
    simpa using hk
  show((left.drop 1).contains k&&(L2.okP ss a _&&L2.okP ss b _))=true;rw[PlV.okP ha,PlV.okP hb,contains_iff_mem.mpr h1];rfl
 | .msk l r,left,h=>by
  obtain⟨⟨lf,hs,k,hk,e⟩,hr⟩:=h;have h1:0<dM ss left l:=List.count_pos_iff.mpr (mem_map.mpr ⟨k,hk,e⟩);have h2:dM ss left l<left.length:=by
   refine Nat.lt_of_le_of_ne (le_trans (List.count_le_length ..) (by rw[length_map];exact le_refl _)) fun z=>?_;refine(Ad hr).ne ?_;rw[List.filter_eq_nil_iff];intro x hx;have:=List.count_eq_length.mp (show(left.map (lbl ss)).count l=(left.map (lbl ss)).length by rw[length_map];exact z) _ (mem_map.mpr ⟨x,hx,rfl⟩);simp only[decide_eq_true_eq,Decidable.not_not];exact this.symm
  show(((decide (0<dM ss left l)&&decide (dM ss left l<left.length))&&decide (fY ss left<=64))&&L2.okP ss r _)=true;rw[PlV.okP hr,decide_eq_true h1,decide_eq_true h2,decide_eq_true hs];rfl
noncomputable def zM:Sp:=fun vs H Q _=>∃(s l:V)(ok:Addr->Prop)(ss:Sts)(left:List Nat)(m:Int),vs=[s,l,.int m]/\aF ok H s (.list (ss.map stD))/\aF ok H l (iK left)/\Lf ss left/\left.length<=1000000 /\
 ∀H',Same H H'->Q (.bl (decide (0<dM ss left m)&&decide (dM ss left m<left.length))) H'
noncomputable def zK:Sp:=fun vs H Q _=>∃(s l p:V)(ok:Addr->Prop)(ss:Sts)(left:List Nat)(pl:Pl),vs=[s,l,p]/\aF ok H s (.list (ss.map stD))/\aF ok H l (iK left)/\aF ok H p (plD pl)/\Lf ss left /\
 ∀H',Same H H'->Q (.bl (stepOk ss left pl)) H'
noncomputable def vU:Sp:=fun vs H Q _=>∃(s p:V)(ok:Addr->Prop)(ss:Sts)(pl:Pl),vs=[s,p]/\gh ok H/\aF ok H s (.list (ss.map stD))/\aF ok H p (plD pl)/\0<ss.length/\ss.length<=100/\cD pl<=4000 /\
 ∀H',Same H H'->Q (.bl (okP ss pl (List.range ss.length))) H'
noncomputable def lE (n:Nat):Sp:=fun vs H Q _=>∃(s l p:V)(ok:Addr->Prop)(ss:Sts)(left:List Nat)(pl:Pl),vs=[s,l,p]/\gh ok H/\aF ok H s (.list (ss.map stD))/\aF ok H l (iK left)/\aF ok H p (plD pl)/\Lf ss left/\dI pl<n /\
 ∀H',Same H H'->Q (.bl (okP ss pl left)) H'
noncomputable def ql:Sp:=fun vs H Q _=>∃(s:V)(far:Int)(ok:Addr->Prop)(ss:Sts),vs=[s,.int far]/\gh ok H/\aF ok H s (.list (ss.map stD))/\ss.length<=100 /\
 ∀(a:Addr)(ss':Sts) H',Same H H'->aF ok H' (.ref a) (.list (ss'.map stD))->ss'.length=ss.length->Q (.ref a) H'
noncomputable def vR:Sp:=fun vs H Q _=>∃(s:V)(ok:Addr->Prop)(ss:Sts),vs=[s]/\gh ok H/\aF ok H s (.list (ss.map stD))/\ss.length<=100 /\
 ∀(a:Addr)(ss':Sts) H',Same H H'->aF ok H' (.ref a) (.list (ss'.map stD))->ss'.length=ss.length->Q (.ref a) H'
noncomputable def vQ:Sp:=fun vs H Q _=>∃(p:Addr)(s:V)(B:Int)(ss:Sts),vs=[.ref p,s]/\bA H p B/\0<=B/\B<=900000/\aF (·≠p) H s (.list (ss.map stD))/\0<ss.length/\ss.length<=59 /\
 ∀(a:Addr)(ss':Sts) H',cg p H H'->bA H' p (B+10)->aF (·≠p) H' (.ref a) (.list (ss'.map stD))->0<ss'.length->ss'.length<=60->Q (.ref a) H'
noncomputable def zL:Sp:=fun vs H Q _=>∃(s:V)(ok:Addr->Prop)(ss:Sts),vs=[s]/\gh ok H/\aF ok H s (.list (ss.map stD))/\0<ss.length/\ss.length<=60 /\
 ∀(a:Addr)(m:Pl) H',Same H H'->aF ok H' (.ref a) (.list [plD .tab,plD m])->dI m<=60->cD m<=100->Q (.ref a) H'
theorem fH {ok:Addr->Prop}{H:Hp}{x:V}{ss:Sts}(t:aF ok H x (.list (ss.map stD))):∃a xs,x=.ref a/\ok a/\H a=some (.lst xs)/\xs.length<=1000000/\aJ ok H xs (ss.map stD):=by
 cases t with
 | lst o e z ts=>exact⟨_,_,rfl,o,e,z,ts⟩
theorem jw {ok:Addr->Prop}{H:Hp}{a:Addr}{x y z:Int}(o:ok a)(e:H a=some (.tup [.int x,.int y,.int z])):aF ok H (.ref a) (stD (x,y,z)):=
 .tup o e (by show 3<=1000000;decide) (.cons (.int _) (.cons (.int _) (.cons (.int _) .nil)))
end L2
local macro_rules | `(tactic| push_cast) => `(tactic| ((try dsimp only [L2.tV, L2.Bo, L2.Bp, L2.qt, L2.tOp, L2.tC, L2.Dq, L2.vO, L2.qw, L2.vP, L2.Dw, L2.tCB, L2.tIf, L2.Dv, L2.tB, L2.HX, L2.tOr, L2.Dy, L2.Dp, L2.rZ, L2.jR, L2.rI0, List.getElem?_cons_zero, getElem?_cons_succ, set_cons_zero, set_cons_succ]); try simp only [↓L2.rdy, L2.rdy, ↓reduceIte, reduceCtorEq, Nat.reduceAdd, Nat.reduceSub]))
local macro_rules | `(tactic| push_cast [$ls,*]) => `(tactic| ((try dsimp only [L2.tV, L2.Bo, L2.Bp, L2.qt, L2.tOp, L2.tC, L2.Dq, L2.vO, L2.qw, L2.vP, L2.Dw, L2.tCB, L2.tIf, L2.Dv, L2.tB, L2.HX, L2.tOr, L2.Dy, L2.Dp, L2.rZ, L2.jR, L2.rI0, List.getElem?_cons_zero, getElem?_cons_succ, set_cons_zero, set_cons_succ]); try simp only [↓L2.rdy, L2.rdy, ↓reduceIte, reduceCtorEq, Nat.reduceAdd, Nat.reduceSub, $ls,*]))
namespace K19
open PySem L2 PyProof.Rows
noncomputable abbrev q0_:List Str:=["_law_tape_here","_law_many_here"]
noncomputable abbrev q1_:List Str:=["_law_tape_here","_law_stretches_here","_law_left","_law_plan_here"]
noncomputable abbrev q2_:List Str:=["_law_tape_here","_law_stretches_here","_law_left"]
noncomputable abbrev q3_:List Str:=["_law_stretches_here","_law_left","_law_thing"]
noncomputable abbrev q4_:List Str:=["_law_tape_here","_law_stretches_here"]
noncomputable abbrev q5_:List Str:=["_law_stretches_here","_law_far"]
noncomputable abbrev q6_:List Str:=["_law_stretches_here","_law_left"]
noncomputable abbrev q7_:List Str:=["_law_script","_law_k"]
noncomputable abbrev q8_:List Str:=["stretches","left"]
noncomputable abbrev q9_:List Str:=["_law_stretches_here"]
noncomputable abbrev q10_:List Str:=["stretches","left","label"]
noncomputable abbrev q11_:List Str:=["stretches","left","thing"]
noncomputable abbrev q12_:List Str:=["_law_k","_law_one"]
noncomputable abbrev q13_:List Str:=["stretches","left","plan"]
noncomputable abbrev q14_:List Str:=["_law_k","_law_plan_here"]
noncomputable def top (i:Nat):Stmt:=PySem.Challenge.pw_caseways_k19_plans_looked_at.main.body.getD i (.Pass ⟨0,0,0,0⟩)
noncomputable abbrev BLs:List Str:=["abs","any","bool","enumerate","int","isinstance","len","list","max","min","range","set","sorted","str","tuple"]
theorem Gs:("abs" : Str)∈BLs:=by decide +kernel
theorem M8:("any" : Str)∈BLs:=by decide +kernel
theorem vg:("bool" : Str)∈BLs:=by decide +kernel
theorem nF:("enumerate" : Str)∈BLs:=by decide +kernel
theorem rB:("int" : Str)∈BLs:=by decide +kernel
theorem cM:("isinstance" : Str)∈BLs:=by decide +kernel
theorem cj:("len" : Str)∈BLs:=by decide +kernel
theorem nA:("list" : Str)∈BLs:=by decide +kernel
theorem yJ:("max" : Str)∈BLs:=by decide +kernel
theorem Gr:("min" : Str)∈BLs:=by decide +kernel
theorem iJ:("range" : Str)∈BLs:=by decide +kernel
theorem M7:("set" : Str)∈BLs:=by decide +kernel
theorem Ce:("sorted" : Str)∈BLs:=by decide +kernel
theorem M6:("str" : Str)∈BLs:=by decide +kernel
theorem wR:("tuple" : Str)∈BLs:=by decide +kernel
noncomputable abbrev rW:List Str:=["_law_script","_law_k"]
noncomputable abbrev GI_ (s:Stmt)(x:Str):Prop:=(ak s).names.lookup x=some .globalImplicit
noncomputable abbrev NM_ (N:List Str)(s:Stmt)(i:Nat)(x:Str):Prop:=Nm N (ak s) i x
noncomputable abbrev fJ:Stmt:=top 12
theorem Br:bK rW q7_ (ak fJ):=⟨rfl,rfl,rfl,ψ,rfl,ψ,ψ⟩
theorem rm:NM_ rW fJ 0 "_law_script" := .of ψ
theorem qZ:NM_ rW fJ 1 "_law_k" := .of ψ
theorem vy:GI_ fJ "len" := by decide +kernel
theorem Df:Bn "_law_cell_at" := ⟨ψ,ψ⟩
noncomputable abbrev vL:List Str:=["_law_script","_law_k","_law_cell"]
noncomputable abbrev gP:Stmt:=top 13
theorem zQ:bK vL q7_ (ak gP):=⟨rfl,rfl,rfl,ψ,rfl,ψ,ψ⟩
theorem Gk:NM_ vL gP 0 "_law_script" := .of ψ
theorem qP:NM_ vL gP 1 "_law_k" := .of ψ
theorem nj:NM_ vL gP 2 "_law_cell" := .of ψ
theorem rF:GI_ gP "_law_cell_at" := by decide +kernel
theorem rE:GI_ gP "abs" := by decide +kernel
theorem yP:GI_ gP "int" := by decide +kernel
theorem Kp:Bn "_law_tape" := ⟨ψ,ψ⟩
noncomputable abbrev pD:List Str:=["_law_tape_here","_law_many_here","_law_found","_law_prime","_law_once"]
noncomputable abbrev gQ:Stmt:=top 14
theorem m7:bK pD q0_ (ak gQ):=⟨rfl,rfl,rfl,ψ,rfl,ψ,ψ⟩
theorem cR:NM_ pD gQ 0 "_law_tape_here" := .of ψ
theorem kj:NM_ pD gQ 1 "_law_many_here" := .of ψ
theorem kh:NM_ pD gQ 2 "_law_found" := .of ψ
theorem wI:NM_ pD gQ 3 "_law_prime" := .of ψ
theorem qQ:NM_ pD gQ 4 "_law_once" := .of ψ
theorem vm:GI_ gQ "_law_take" := by decide +kernel
theorem bO:Bn "_law_take" := ⟨ψ,ψ⟩
section
variable {P:Program}{w:World}{K:PySem.W.Frag}{mg:Str->Option Value}{base:Heap}{f:Addr}{fd:FuncData}{bs:List Str}
theorem JR (hB:∀x:Str,x∈BLs->mg x=none) (F:Fun K "_law_cell_at" "_law_cell_at" fJ f fd):dN P w K mg base CX0 1 f fd q7_ (Ec K):=by
 refine F.okq Br (fun vs H Q E h=>?_) (fun cdv A outer s H vs Q E hr h=>?_)
 ·obtain⟨a,ns,k,rfl,_⟩:=h;rfl
 obtain⟨a,ns,k,rfl,hS,h0,q⟩:=h;refine⟨_,(aL (aO (zU (aK iY (ao qZ) (bN gY vy (hB "len" cj) PySem.boot_len cu (aj (ao rm) aA rfl) rfl rfl) (aG _)) (aH Ag (ao rm) (ao qZ) (fun _ _=>rfl)) aq))),?_⟩;push_cast;refine⟨_,.inl hS,?_⟩;split
 ·rename_i c;rw[length_map] at c;have hk:k.toNat<ns.length:=ω;have ek:k=((k.toNat:Nat):Int):=ω;have z:atI (ns.map V.int) ((k.toNat:Nat):Int)=some (.int ns[k.toNat]):=cU (by rw[getElem?_map,getElem?_eq_getElem hk];rfl);rw[<- ek] at z;unfold Ob;exact⟨a,_,k,_,rfl,rfl,hS,z,q _⟩
 exact q _
theorem JH (hB:∀x:Str,x∈BLs->mg x=none) (CZCellAt:Cal P w K mg base "_law_cell_at" 1 q7_ (Ec K)) (F:Fun K "_law_tape" "_law_tape" gP f fd):dN P w K mg base CX0 2 f fd q7_ (DX K):=by
 refine F.okq zQ (fun vs H Q E h=>?_) (fun cdv A outer s H vs Q E hr h=>?_)
 ·obtain⟨a,ns,k,rfl,_⟩:=h;rfl
 obtain⟨a,ns,k,rfl,hS,h0,h1,q⟩:=h;refine⟨_,(aD (bV nj zQ.nd (aX CZCellAt (hr.mono δ) rF Df (aj (ao Gk) (aj (ao qP) aA rfl) rfl) rfl rfl) rfl (.inl rfl))
  (aL (aO (cJ (aj (aN fQ (bN xK rE (hB "abs" Gs) PyProof.Rows.Boot.«abs» Hs (aj (ao nj) aA rfl) rfl rfl) (zW mW yP (hB "int" rB) boot_int rT (aj (dG zZ (bN xK rE (hB "abs" Gs) PyProof.Rows.Boot.«abs» Hs (aj (ao nj) aA rfl) rfl rfl) (aN oJ aq aq) (aG _)) aA rfl) rfl rfl)) (aj (aN gm (aN fQ (aN aV (aN aV (aN gm (ao nj) aq) (aN fQ (aN fQ aq (ao qP)) (ao qP))) aq) aq) aq) (aj aq aA rfl) rfl) rfl))))),?_⟩
 push_cast;refine⟨a,ns,k,rfl,hS,h0,fun v=>?_⟩;push_cast;refine⟨⟨δ,δ,δ⟩,?_,δ,.inl δ,.inr ω,.inr δ,δ,aQ δ,fun p hp=>q p _ hp (au hp) ⟨_,_,_,aB,?_,?_,?_,Int.le_refl _,Int.le_refl _⟩⟩
 ·right;generalize (if v<0 then -v else v)=u;split <;> decide
 ·refine Int.mul_nonneg ?_ ?_
  ·split <;> omega
  generalize (if v<0 then -v else v)=u;split <;> decide
 ·exact emod_nonneg _ δ
 exact emod_lt_of_pos _ δ
theorem Aa {n:Nat}(hB:∀x:Str,x∈BLs->mg x=none) (hn:n<=10) (CZTake:Cal P w K mg base "_law_take" n q0_ (jd n)) (F:Fun K "_law_take" "_law_take" gQ f fd):dN P w K mg base CX0 (n+1) f fd q0_ (jd (n+1)):=by
 refine F.okq m7 (fun vs H Q E h=>?_) (fun cdv A outer s H vs Q E hr h=>?_)
 ·obtain⟨p,m,B,rfl,_⟩:=h;rfl
 obtain⟨p,m,B,rfl,⟨a,b,c,hp,ha,hb0,hb1,hc0,hc1⟩,hB0,hm0,hm1,hn1,hn2,q⟩:=h;refine⟨_,(aD (bM (aK qI (aH aR (ao cR) aq (fun _ _=>rfl)) aq (aG _)) (aD (bV kh m7.nd (aN gm (aH aR (ao cR) aq (fun _ _=>rfl)) (ao kj)) rfl (.inl rfl))
  (aD (j7 (aN wz (aH aR (ao cR) aq (fun _ _=>rfl)) (ao kj)) (uT (ao cR) aq Ei) rfl rfl rfl)
  (aL (aO (ao kh))))) bx)
  (aD (j7 (aN aV (aH aR (ao cR) aq (fun _ _=>rfl)) aq) (uT (ao cR) aq Ei) rfl rfl rfl)
  (aD (bV wI m7.nd (aH aR (cJ (aj aq (aj aq (aj aq (aj aq (aj aq (aj aq (aj aq aA rfl) rfl) rfl) rfl) rfl) rfl) rfl)) (aN gm (aH aR (ao cR) aq (fun _ _=>rfl)) aq) (fun _ _=>rfl)) rfl (.inl rfl))
  (aD (bV qQ m7.nd (aN gm (aN fQ (aN aV (aH aR (ao cR) aq (fun _ _=>rfl)) (aN fQ aq (aH aR (ao cR) aq (fun _ _=>rfl)))) (aN aV aq (aH aR (ao cR) aq (fun _ _=>rfl)))) (ao wI)) rfl (.inl rfl))
  (aD (j7 (aN gm (aN aV (aN fQ (ao qQ) (aN aV (aN gm (ao qQ) aq) aq)) (aH aR (ao cR) aq (fun _ _=>rfl))) aq) (uT (ao cR) aq Ei) rfl rfl rfl)
  (aD (bV kh m7.nd (aN wz (aN gm (aN fQ (aH aR (ao cR) aq (fun _ _=>rfl)) (aN aV (aN gm (aH aR (ao cR) aq (fun _ _=>rfl)) aq) aq)) aq) aq) rfl (.inl rfl))
  (aL (aO (zU (aK iY (ao kj) (aN oJ aq aq) (aG _)) (aN gm (ao kh) (ao kj)) (aN gm (aN aV (aN fQ (ao kh) aq) (aX CZTake (hr.mono ω) vm bO (aj (ao cR) (aj aq aA rfl) rfl) rfl rfl)) (ao kj))))))))))),?_⟩
 push_cast [hp];split
 ·refine⟨hm0,⟨hm0,hm1⟩,?_⟩;refine q _ _ (emod_nonneg _ ω) (emod_lt_of_pos _ hm0) cg.upd ⟨_,_,_,aB,Int.ediv_nonneg ha ω,hb0,hb1,hc0,ω⟩
 refine⟨aQ δ,fun p1 hp1=>?_⟩;have np:p≠p1:=fun z=>by rw[<- z,aB] at hp1;cases hp1
 obtain⟨v,hv,v0⟩:=Lz (c+1);push_cast [hp,aZ np,ne_eq,np,not_false_eq_true,hv];have m1:∀x:Int,0<=x%40009/\x%40009<40009:=fun x=>⟨emod_nonneg _ δ,emod_lt_of_pos _ δ⟩;have m2:∀x:Int,0<=x%1009/\x%1009<1009:=fun x=>⟨emod_nonneg _ δ,emod_lt_of_pos _ δ⟩;have m3:∀x:Int,0<=x%2147483629/\x%2147483629<2147483629:=fun x=>⟨emod_nonneg _ δ,emod_lt_of_pos _ δ⟩;refine⟨δ,.inl δ,.inr ω,v0,δ,.inr ?_,δ,δ,.inr ?_,δ,δ,δ,?_⟩
 ·have:=m1 ((b+39373*(c+1))*(48271+(c+1))%v);omega
 ·have:=m2 (((b+39373*(c+1))*(48271+(c+1))%v*((b+39373*(c+1))*(48271+(c+1))%v%40009+7)+(c+1))%2147483629);omega
 have e3:=m3 ((b+39373*(c+1))*(48271+(c+1))%v*((b+39373*(c+1))*(48271+(c+1))%v%40009+7)+(c+1));generalize ((b+39373*(c+1))*(48271+(c+1))%v*((b+39373*(c+1))*(48271+(c+1))%v%40009+7)+(c+1))%2147483629=y at e3 |-;have sx:cg p H (upd (upd (upd H p (HO.lst [V.int a,V.int b,V.int (c+1)])) p1 (HO.lst [V.int 2147483587,V.int 2147483579,V.int 2147483563,V.int 2147483549,V.int 2147483543,V.int 2147483497,V.int 2147483489])) p (HO.lst [V.int a,V.int y,V.int (c+1)])):=
  (cg.upd.trans (au hp1).x).trans cg.upd
 have tp:bA (upd (upd (upd H p (HO.lst [V.int a,V.int b,V.int (c+1)])) p1 (HO.lst [V.int 2147483587,V.int 2147483579,V.int 2147483563,V.int 2147483549,V.int 2147483543,V.int 2147483497,V.int 2147483489])) p (HO.lst [V.int a,V.int y,V.int (c+1)])) p (B+1):=
  ⟨a,y,c+1,aB,ha,e3.1,e3.2,ω,ω⟩
 generalize upd (upd (upd H p (HO.lst [V.int a,V.int b,V.int (c+1)])) p1 (HO.lst [V.int 2147483587,V.int 2147483579,V.int 2147483563,V.int 2147483549,V.int 2147483543,V.int 2147483497,V.int 2147483489])) p (HO.lst [V.int a,V.int y,V.int (c+1)])=H2 at sx tp |-;split
 ·refine⟨hm0,q _ _ (emod_nonneg _ ω) (emod_lt_of_pos _ hm0) sx ?_⟩;obtain⟨a',b',c',z1,z2,z3,z4,z5,z6⟩:=tp;exact⟨a',b',c',z1,z2,z3,z4,z5,ω⟩
 rename_i hm;have hm':1000000<=m:=by
  rw[show(10:Int)^Int.toNat 6=1000000 from by decide] at hm;omega
 have hn3:=hn2 hm';refine⟨.inr δ,p,99991,B+1,rfl,tp,ω,δ,δ,ω,fun z=>absurd z δ,fun r H3 r0 r1 s3 t3=>?_⟩;push_cast;refine⟨hm0,q _ _ (emod_nonneg _ ω) (emod_lt_of_pos _ hm0) (sx.trans s3) ?_⟩;obtain⟨a',b',c',z1,z2,z3,z4,z5,z6⟩:=t3;exact⟨a',b',c',z1,z2,z3,z4,z5,ω⟩
theorem Bl:dN P w K mg base CX0 0 f fd q0_ (jd 0):=by
 have no:∀vs H Q E,¬jd 0 vs H Q E:=fun vs H Q E h=>by
  obtain⟨p,m,B,_,_,_,_,_,h1,_⟩:=h;omega
 exact⟨fun vs H Q E h=>absurd h (no vs H Q E),fun A outer s H args us vs Q E _ _ _ _ h=>absurd h (no vs H Q E)⟩
noncomputable abbrev cO:List Str:=["_law_tape_here","_law_many_here","_law_low","_law_labels","_law_found","_law_k","_law_far","_law_wide","_law_label"]
noncomputable abbrev bB:Stmt:=top 15
theorem bY:bK cO q0_ (ak bB):=⟨rfl,rfl,rfl,ψ,rfl,ψ,ψ⟩
theorem bU:NM_ cO bB 0 "_law_tape_here" := .of ψ
theorem sV:NM_ cO bB 1 "_law_many_here" := .of ψ
theorem eY:NM_ cO bB 2 "_law_low" := .of ψ
theorem gG:NM_ cO bB 3 "_law_labels" := .of ψ
theorem eX:NM_ cO bB 4 "_law_found" := .of ψ
theorem sU:NM_ cO bB 5 "_law_k" := .of ψ
theorem mz:NM_ cO bB 6 "_law_far" := .of ψ
theorem eV:NM_ cO bB 7 "_law_wide" := .of ψ
theorem eU:NM_ cO bB 8 "_law_label" := .of ψ
theorem bw:GI_ bB "_law_take" := by decide +kernel
theorem p6:GI_ bB "max" := by decide +kernel
theorem nH:GI_ bB "range" := by decide +kernel
theorem vI:Bn "_law_stretches" := ⟨ψ,ψ⟩
theorem MF (hB:∀x:Str,x∈BLs->mg x=none) (CZTake:Cal P w K mg base "_law_take" 2 q0_ (jd 2)) (F:Fun K "_law_stretches" "_law_stretches" bB f fd):dN P w K mg base CX0 3 f fd q0_ DY:=by
 refine F.okq bY (fun vs H Q E h=>?_) (fun cdv A outer s H vs Q E hr h=>?_)
 ·obtain⟨p,m,B,rfl,_⟩:=h;rfl
 obtain⟨p,m,B,rfl,tp,hB0,hB1,hm1,hm2,q⟩:=h;refine⟨_,(aD (bV eY bY.nd (aH aR (cJ (aj aq (aj (aN iC (aX CZTake (hr.mono δ) bw bO (aj (ao bU) (aj aq aA rfl) rfl) rfl rfl) aq) (aj (aN iC (aX CZTake (hr.mono δ) bw bO (aj (ao bU) (aj (aN oJ aq aq) aA rfl) rfl) rfl rfl) (aN oJ aq aq)) (aj (aN iC aq (aN Mp aq aq)) aA rfl) rfl) rfl) rfl)) (aX CZTake (hr.mono δ) bw bO (aj (ao bU) (aj aq aA rfl) rfl) rfl rfl) (fun _ _=>rfl)) rfl (.inl rfl))
  (aD (bV gG bY.nd (aN aV aq (aX CZTake (hr.mono δ) bw bO (aj (ao bU) (aj aq aA rfl) rfl) rfl rfl)) rfl (.inl rfl))
  (aD (bV eX bY.nd (cJ aA) rfl (.inl rfl))
  (aD (qH PassesOwn.never rfl (oH nH (hB "range" iJ) (aj (ao sV) aA rfl) rfl) (fO sU bY.nd (.inl rfl))
  (aD (bV mz bY.nd (aH aR (cJ (aj (aN oJ aq aq) (aj (aN oJ aq aq) aA rfl) rfl)) (aX CZTake (hr.mono δ) bw bO (aj (ao bU) (aj aq aA rfl) rfl) rfl rfl) (fun _ _=>rfl)) rfl (.inl rfl))
  (aD (bV eV bY.nd (cJ (aj aq (aj aq (aj aq (aj (aN aV aq (aX CZTake (hr.mono δ) bw bO (aj (ao bU) (aj aq aA rfl) rfl) rfl rfl)) (aj (aN aV aq (aX CZTake (hr.mono δ) bw bO (aj (ao bU) (aj aq aA rfl) rfl) rfl rfl)) (aj (aN aV aq (aX CZTake (hr.mono δ) bw bO (aj (ao bU) (aj (ao mz) aA rfl) rfl) rfl rfl)) aA rfl) rfl) rfl) rfl) rfl) rfl)) rfl (.inl rfl))
  (aD (bV eV bY.nd (aH aR (ao eV) (bN (uq rfl) p6 (hB "max" yJ) boot_max zf (aj aq (aj (aN iC (aX CZTake (hr.mono δ) bw bO (aj (ao bU) (aj aq aA rfl) rfl) rfl rfl) aq) aA rfl) rfl) rfl rfl) (fun _ _=>rfl)) rfl (.inl rfl))
  (aD (bV eU bY.nd (aX CZTake (hr.mono δ) bw bO (aj (ao bU) (aj (ao gG) aA rfl) rfl) rfl rfl) rfl (.inl rfl))
  (aD (bM (je (j6 (aK (yw hr.aP) (ao eX) (cJ aA) (aG _)) (jy (aK (bF hr.aP) (aH aR (aH aR (ao eX) (j8 iy aq) (fun _ _=>rfl)) aq (fun _ _=>rfl)) (ao eU) (aG _))))) (aL (bV eU bY.nd (aN gm (aN aV (aN aV (ao eU) aq) (aX CZTake (hr.mono δ) bw bO (aj (ao bU) (aj (aN iC (ao gG) aq) aA rfl) rfl) rfl rfl)) (ao gG)) rfl (.inl rfl))) bx)
  (aD (uR (zX (ao eX) (b8 (aj (ao eY) (aj (aN iC (aN aV (ao eY) (ao eV)) aq) (aj (ao eU) aA rfl) rfl) rfl)) rfl rfl rfl rfl rfl) rfl)
  (aL (bV eY bY.nd (aN aV (ao eY) (ao eV)) rfl (.inl rfl))))))))) (fun _=>rfl))
  (aL (aO (ao eX))))))),?_⟩
 refine aU fun k hk=>?_;push_cast;refine⟨p,100,B,rfl,tp,by show B+2<=1000100;omega,δ,δ,δ,fun z=>absurd z δ,fun r1 H1 r10 r11 s1 tp1=>?_⟩;push_cast;refine⟨⟨δ,δ,δ⟩,?_⟩;refine⟨p,10^9,B+2,rfl,tp1,by show B+2+2<=1000100;omega,δ,δ,δ,fun z=>by decide,fun r2 H2 r20 r21 s2 tp2=>?_⟩;push_cast [Int.one_mul];refine⟨⟨δ,δ,δ⟩,?_⟩;refine⟨⟨δ,δ,δ⟩,aQ δ,fun l0 hl0=>?_⟩;have s3:=au (o:=HO.lst [V.int 0,V.int (r1-50),V.int (r2-10^Int.toNat 8),V.int (0-2^Int.toNat 39)]) hl0;have tp3:=tp2.same s3;have n3:=tp2.ne hl0;have e3:upd H2 l0 (HO.lst [V.int 0,V.int (r1-50),V.int (r2-10^Int.toNat 8),V.int (0-2^Int.toNat 39)]) l0=_:=aB;generalize upd H2 l0 (HO.lst [V.int 0,V.int (r1-50),V.int (r2-10^Int.toNat 8),V.int (0-2^Int.toNat 39)])=H3 at s3 tp3 e3 |-;refine⟨p,4,B+2+2,rfl,tp3,by show B+2+2+2<=1000100;omega,δ,δ,δ,fun z=>absurd z δ,fun r4 H4 r40 r41 s4 tp4=>?_⟩;obtain⟨lo,hlo,elo⟩:=j9 (is:=[0,r1-50,r2-10^Int.toNat 8,0-2^Int.toNat 39]) r40 r41;replace elo:atI [V.int 0,V.int (r1-50),V.int (r2-10^Int.toNat 8),V.int (0-2^Int.toNat 39)] r4=some (.int lo):=elo;have e4:=s4 _ _ n3 e3;have blo:-(10^12)<=lo/\lo<=10^9:=by
  simp only[mem_cons,not_mem_nil,or_false] at hlo;have:(10:Int)^Int.toNat 8=100000000:=by decide
  have:(2:Int)^Int.toNat 39=549755813888:=by decide
  rcases hlo with z|z|z|z <;> omega
 have sx4:cg p H H4:=((s1.trans s2).trans s3.x).trans s4;push_cast [e4,elo];subst hk;refine aU fun k hk=>?_;push_cast;refine⟨p,4,B+2+2+2,rfl,tp4,by show B+2+2+2+2<=1000100;omega,δ,δ,δ,fun z=>absurd z δ,fun r5 H5 r50 r51 s5 tp5=>?_⟩;push_cast;subst hk;refine aU fun k hk=>?_;push_cast;refine⟨aQ δ,fun l hl=>?_⟩;have sx5:=sx4.trans s5;have hlp:l≠p:=tp5.ne hl;have Hl:H l=none:=(G5 sx5 tp5 hl).2;have s6:=au (o:=HO.lst []) hl;have tp6:=tp5.same s6;have e6:upd H5 l (HO.lst []) l=_:=aB;generalize upd H5 l (HO.lst [])=H6 at s6 tp6 e6 |-;have sx6:=sx5.trans s6.x;subst hk;obtain⟨OD,hOD⟩:∃OD:Addr->Prop,OD=fun a=>a≠p/\a≠l:=⟨_,rfl⟩;have kd:∀{H H':Hp},cg p H H'->∀a o,OD a->H a=some o->OD a/\H' a=some o:=fun {H H'} sx a o h e=>by
  refine⟨h,sx a o ?_ e⟩;rw[hOD] at h;exact h.1
 refine aU fun k hk=>?_;refine wZ fun R hR=>?_;push_cast [wV];refine⟨ω,ω,?_⟩;obtain⟨Pv,hPv⟩:∃Pv:Nat->L2.St->Hp->Prop,Pv=fun(i:Nat) σ H'=>∃(xs:List V)(ss:List (Int×Int×Int)) (lo:Int) (o5 o6 o7 o8:Option V),cg p H H'/\bA H' p (B+8+18*(i:Int))/\H' l=some (.lst xs)/\aJ OD H' xs (ss.map stD)/\ss.length=i/\mj ss /\
  (∀s,ss[ss.length-1]?=some s->lo=s.2.1+1)/\(∀s,ss[0]?=some s->s.1<=10^9)/\-(10^12)<=lo/\lo<=10^9+(10^12+10)*(i:Int)/\σ=[some (.ref p),some (.int m),some (.int lo),some (.int (2+r5)),some (.ref l),o5,o6,o7,o8]:=⟨_,rfl⟩
 refine G7 hR Pv (by rw[hPv];exact⟨[],[],lo,_,_,_,_,sx6,tp6.le (by show B+2+2+2+2<=B+8+18*((0:Nat):Int);omega),e6,.nil,rfl,mj.nil,fun s h=>(by cases h),fun s h=>(by cases h),blo.1,by show lo<=10^9+(10^12+10)*((0:Nat):Int);omega,rfl⟩) ?_ ?_
 ·intro i σ H7 hi pv;rw[hPv] at pv;obtain⟨xs,ss,lo,o5,o6,o7,o8,sx7,tp7,e7,ts7,hsl,row,hlast,hfst,bl1,bl2,rfl⟩:=pv;have hi60:i<60:=ω;refine aU fun k2 hk2=>?_;push_cast;refine⟨⟨δ,δ,δ⟩,⟨δ,δ,δ⟩,aQ δ,fun l1 hl1=>?_⟩;have s8:=au (o:=HO.lst [V.int (10^Int.toNat 9),V.int (10^Int.toNat 12)]) hl1;have tp8:=tp7.same s8;have n8:=tp7.ne hl1;have e8:=s8 _ _ e7;have ts8:=ts7.same s8;have e81:upd H7 l1 (HO.lst [V.int (10^Int.toNat 9),V.int (10^Int.toNat 12)]) l1=_:=aB;generalize upd H7 l1 (HO.lst [V.int (10^Int.toNat 9),V.int (10^Int.toNat 12)])=H8 at s8 tp8 e8 ts8 e81 |-;have sx8:=sx7.trans s8.x;refine⟨p,2,B+8+18*(i:Int),rfl,tp8,by show B+8+18*(i:Int)+2<=1000100;omega,δ,δ,δ,fun z=>absurd z δ,fun r9 H9 r90 r91 s9 tp9=>?_⟩;obtain⟨far,hfar,efar⟩:=j9 (is:=[10^Int.toNat 9,10^Int.toNat 12]) r90 r91;replace efar:atI [V.int (10^Int.toNat 9),V.int (10^Int.toNat 12)] r9=some (.int far):=efar;have e91:=s9 _ _ n8 e81;have e9:=s9 _ _ hlp e8;have ts9:=ts8.keep (kd s9);have sx9:=sx8.trans s9;have bfar:10^9<=far/\far<=10^12:=by
   simp only[mem_cons,not_mem_nil,or_false] at hfar;have:(10:Int)^Int.toNat 9=1000000000:=by decide
   have:(10:Int)^Int.toNat 12=1000000000000:=by decide
   rcases hfar with z|z <;> omega
  push_cast [e91,efar];subst hk2;refine aU fun k2 hk2=>?_;push_cast;refine⟨p,4,B+8+18*(i:Int)+2,rfl,tp9,by show B+8+18*(i:Int)+2+2<=1000100;omega,δ,δ,δ,fun z=>absurd z δ,fun u1 H10 u10 u11 s10 tp10=>?_⟩;push_cast;refine⟨p,30,B+8+18*(i:Int)+2+2,rfl,tp10,by show B+8+18*(i:Int)+2+2+2<=1000100;omega,δ,δ,δ,fun z=>absurd z δ,fun u2 H11 u20 u21 s11 tp11=>?_⟩;push_cast;refine⟨p,far,B+8+18*(i:Int)+2+2+2,rfl,tp11,by show B+8+18*(i:Int)+2+2+2+2<=1000100;omega,ω,ω,δ,fun _=>by decide,fun u3 H12 u30 u31 s12 tp12=>?_⟩;push_cast;refine⟨aQ δ,fun l2 hl2=>?_⟩;have e12:=s12 _ _ hlp (s11 _ _ hlp (s10 _ _ hlp e9));have ts12:=((ts9.keep (kd s10)).keep (kd s11)).keep (kd s12);have sx12:=((sx9.trans s10).trans s11).trans s12;have s13:=au (o:=HO.lst [V.int 1,V.int 1,V.int 1,V.int (2+u1),V.int (2+u2),V.int (1+u3)]) hl2;have tp13:=tp12.same s13;have n13:=tp12.ne hl2;have e13:=s13 _ _ e12;have ts13:=ts12.same s13;have e132:upd H12 l2 (HO.lst [V.int 1,V.int 1,V.int 1,V.int (2+u1),V.int (2+u2),V.int (1+u3)]) l2=_:=aB;generalize upd H12 l2 (HO.lst [V.int 1,V.int 1,V.int 1,V.int (2+u1),V.int (2+u2),V.int (1+u3)])=H13 at s13 tp13 e13 ts13 e132 |-;have sx13:=sx12.trans s13.x;subst hk2;refine aU fun k2 hk2=>?_;push_cast;refine⟨p,11,B+8+18*(i:Int)+2+2+2+2,rfl,tp13,by show B+8+18*(i:Int)+2+2+2+2+2<=1000100;omega,δ,δ,δ,fun z=>absurd z δ,fun u4 H14 u40 u41 s14 tp14=>?_⟩;have e14:=s14 _ _ hlp e13;have ts14:=ts13.keep (kd s14);have sx14:=sx13.trans s14;have e142:=s14 _ _ n13 e132;have bu:0<=(if u4-5>0 then u4-5 else 0)/\(if u4-5>0 then u4-5 else 0)<6:=by split <;> omega
  obtain⟨wide,hwide,ewide⟩:=j9 (is:=[1,1,1,2+u1,2+u2,1+u3]) bu.1 bu.2;replace ewide:atI [V.int 1,V.int 1,V.int 1,V.int (2+u1),V.int (2+u2),V.int (1+u3)] (if u4-5>0 then u4-5 else 0)=some (.int wide):=ewide;have bwide:1<=wide/\wide<=10^12:=by
   simp only[mem_cons,not_mem_nil,or_false] at hwide;rcases hwide with z|z|z|z|z|z <;> omega
  push_cast [e142,ewide];subst hk2;refine aU fun k2 hk2=>?_;push_cast;refine⟨p,2+r5,B+8+18*(i:Int)+2+2+2+2+2,rfl,tp14,by show B+8+18*(i:Int)+2+2+2+2+2+2<=1000100;omega,ω,ω,δ,fun z=>absurd z ω,fun lab H15 lab0 lab1 s15 tp15=>?_⟩;have e15:=s15 _ _ hlp e14;have ts15:=ts14.keep (kd s15);have sx15:=sx14.trans s15;push_cast;subst hk2;refine aU fun k2 hk2=>?_;have rest:∀(b:Int) H16 o5 o6,0<=b->b<=9->cg p H H16->H16 l=some (.lst xs)->aJ OD H16 xs (ss.map stD)->bA H16 p (B+8+18*(i:Int)+14)->k2 [some (.ref p),some (.int m),some (.int lo),some (.int (2+r5)),some (.ref l),o5,o6,some (.int wide),some (.int b)] H16:=by
   intro b H16 o5 o6 b0 b9 sx16 e16 ts16 tp16;subst hk2;refine aU fun k3 hk3=>?_;push_cast [e16];refine⟨aQ δ,fun t ht=>?_⟩;have s17:=au (o:=HO.tup [V.int lo,V.int (lo+wide-1),V.int b]) ht;have e17:=s17 _ _ e16;have tp17:=tp16.same s17;have ts17:=ts16.same s17;have nt:t≠p:=tp16.ne ht;have nl:t≠l:=(aM e16 ht).symm;have et:upd H16 t (HO.tup [V.int lo,V.int (lo+wide-1),V.int b]) t=_:=aB;generalize upd H16 t (HO.tup [V.int lo,V.int (lo+wide-1),V.int b])=H17 at s17 e17 tp17 ts17 et |-;have hxl:=ts17.length;rw[length_map] at hxl;push_cast [e17];refine⟨lt_of_lt_of_le (show xs.length<1000000 by omega) (aQ (le_refl _)),?_⟩;have sx18:cg p H (upd H17 l (HO.lst (xs++[V.ref t]))):=Bs (sx16.trans s17.x) Hl;have tp18:bA (upd H17 l (HO.lst (xs++[V.ref t]))) p (B+8+18*(i:Int)+14):=tp17.upd hlp;have e18:upd H17 l (HO.lst (xs++[V.ref t])) l=_:=aB;have kk:∀a o,OD a->H17 a=some o->OD a/\upd H17 l (HO.lst (xs++[V.ref t])) a=some o:=fun a o h e=>by
    refine⟨h,?_⟩;rw[hOD] at h;rw[aZ h.2];exact e
   have tt:aF OD H17 (.ref t) (stD (lo,lo+wide-1,b)):=.tup (by rw[hOD];exact⟨nt,nl⟩) et (by show 3<=1000000;decide) (.cons (.int _) (.cons (.int _) (.cons (.int _) .nil)));have ts18:=(ts17.keep kk).append (.cons (tt.keep kk) .nil);generalize upd H17 l (HO.lst (xs++[V.ref t]))=H18 at sx18 tp18 e18 ts18 |-;subst hk3;push_cast;rw[hPv];refine⟨_,ss++[(lo,lo+wide-1,b)],lo+wide,_,_,_,_,sx18,tp18.le (by show B+8+18*(i:Int)+14<=B+8+18*((i+1:Nat):Int);omega),e18,by rw[map_append];exact ts18,by rw[length_append,length_singleton,hsl],row.snoc ω ⟨b0,b9⟩ ⟨bl1,by rw[hsl];omega⟩ hlast,fun s hs=>?_,fun s hs=>?_,ω,by show lo+wide<=10^9+(10^12+10)*((i+1:Nat):Int);omega,rfl⟩
   ·rw[length_append,length_singleton,add_sub_cancel,getElem?_append_right (le_refl _),sub_self] at hs;cases hs;show lo+wide=lo+wide-1+1;omega
   cases ss with
   | nil=>
    cases hs;show lo<=10^9;have:i=0:=hsl.symm;subst this;omega
   | cons s0 ss0=>exact hfst s hs
  refine mD fun kt ke hkt hke=>?_;push_cast;refine⟨aQ δ,fun l3 hl3=>?_⟩;have s16:=au (o:=HO.lst []) hl3;refine⟨_,_,xs,rfl,rfl,s16 _ _ e15,aB,?_⟩;have e16:=s16 _ _ e15;have ts16:=ts15.same s16;have sx16:=sx15.trans s16.x;have tp16:=tp15.same s16;generalize upd H15 l3 (HO.lst [])=H16 at s16 e16 ts16 sx16 tp16 |-;have hxl:=ts16.length;rw[length_map] at hxl;cases hx:xs.isEmpty with
  | true=>
   push_cast;subst hke;push_cast;exact rest lab H16 _ _ lab0 ω sx16 e16 ts16 (tp16.le (by show B+8+18*(i:Int)+2+2+2+2+2+2<=_;omega))
  | false=>
   have hpos:1<=xs.length:=by
    cases xs with
    | nil=>cases hx
    | cons a b=>simp
   obtain⟨j,x,hxj,hxl2⟩:=J2 xs hpos;obtain⟨ax,sx,rfl,okx,hsx,ex⟩:=ts16.st hxj;push_cast [e16,hxl2,ex];split
   ·subst hkt;push_cast;refine⟨p,2+r5-1,B+8+18*(i:Int)+2+2+2+2+2+2,rfl,tp16,by show B+8+18*(i:Int)+2+2+2+2+2+2+2<=1000100;omega,ω,ω,δ,fun z=>absurd z ω,fun u6 H17 u60 u61 s17 tp17=>?_⟩;push_cast;refine⟨ω,?_⟩;have h1:=emod_nonneg (lab+1+u6) (show(2+r5:Int)≠0 by omega);have h2:=emod_lt_of_pos (lab+1+u6) (show(0:Int)<2+r5 by omega);exact rest _ H17 _ _ h1 ω (sx16.trans s17) (s17 _ _ hlp e16) (ts16.keep (kd s17)) (tp17.le (by show B+8+18*(i:Int)+2+2+2+2+2+2+2<=_;omega))
   subst hke;push_cast;exact rest lab H16 _ _ lab0 ω sx16 e16 ts16 (tp16.le (by show B+8+18*(i:Int)+2+2+2+2+2+2<=_;omega))
 intro σ H7 pv;rw[hPv] at pv;obtain⟨xs,ss,lo,o5,o6,o7,o8,sx7,tp7,e7,ts7,hsl,row,hlast,hfst,bl1,bl2,rfl⟩:=pv;show k _ _;subst hk;push_cast;have hxl:=ts7.length;rw[length_map] at hxl;refine q l ss H7 sx7 (tp7.le ω) (.lst hlp e7 ω (ts7.keep fun a o h e=>?_)) ω row hfst;rw[hOD] at h;exact⟨h.1,e⟩
end
theorem vJ:Bn "MOST_IN_MASK" := ⟨ψ,ψ⟩
theorem tK:Bn "MOST_IN_TABLE" := ⟨ψ,ψ⟩
noncomputable abbrev iV:List Str:=["stretches","left"]
noncomputable abbrev cB:Stmt:=top 5
theorem pU:bK iV q8_ (ak cB):=⟨rfl,rfl,rfl,ψ,rfl,ψ,ψ⟩
theorem jt:NM_ iV cB 0 "stretches" := .of ψ
theorem jr:NM_ iV cB 1 "left" := .of ψ
theorem jT:Bn "numbers_across" := ⟨ψ,ψ⟩
noncomputable abbrev gO:List Str:=["stretches","left","plan","word","ahead"]
noncomputable abbrev cW:Stmt:=top 9
theorem oE:bK gO q13_ (ak cW):=⟨rfl,rfl,rfl,ψ,rfl,ψ,ψ⟩
theorem jG:NM_ gO cW 1 "left" := .of ψ
theorem iI:NM_ gO cW 2 "plan" := .of ψ
theorem jF:NM_ gO cW 3 "word" := .of ψ
theorem mO:NM_ gO cW 4 "ahead" := .of ψ
theorem vz:GI_ cW "len" := by decide +kernel
theorem Dg:Bn "plans_in" := ⟨ψ,ψ⟩
noncomputable def zO:Sp:=fun vs H Q _=>∃(s l p:V)(ok:Addr->Prop)(ss:Sts)(left:List Nat)(pl:Pl),vs=[s,l,p]/\gh ok H/\aF ok H s (.list (ss.map stD))/\aF ok H l (iK left)/\aF ok H p (plD pl)/\Lf ss left /\
 ∀v H',Same H H'->aF ok H' v (.list ((kids ss pl left).map wD))->Q v H'
section
variable {P:Program}{w:World}{K:PySem.W.Frag}{mg:Str->Option Value}{base:Heap}{f:Addr}{fd:FuncData}{bs:List Str}
theorem BX (hB:∀x:Str,x∈BLs->mg x=none) (F:Fun K "numbers_across" "numbers_across" cB f fd):dN P w K mg base CX0 1 f fd q8_ jm:=by
 refine F.okq pU (fun vs H Q E h=>?_) (fun cdv A outer s H vs Q E hr h=>?_)
 ·obtain⟨s,l,ok,ss,left,rfl,_⟩:=h;rfl
 obtain⟨s,l,ok,ss,left,rfl,ts,tl,lf,q⟩:=h;refine⟨_,(aL (aO (aN aV (aN iC (aH aR (aH aR (ao jt) (aH aR (ao jr) (j8 iy aq) (fun _ _=>rfl)) (fun _ _=>rfl)) aq (fun _ _=>rfl)) (aH aR (aH aR (ao jt) (aH aR (ao jr) aq (fun _ _=>rfl)) (fun _ _=>rfl)) aq (fun _ _=>rfl))) aq))),?_⟩;obtain⟨la,rfl,_,el,_⟩:=tl.left;replace el:H la=some (.lst (nv left)):=el;cases ts with
 | lst o es zs tss=>
  obtain⟨k1,e1,m1,a1⟩:=Ab lf.ne;obtain⟨k0,e0,m0,a0⟩:=Ac lf.ne;obtain⟨p1,x1,y1⟩:=tss.stN (lf.lt _ m1);obtain⟨p0,x0,y0⟩:=tss.stN (lf.lt _ m0);unfold fY at q;rw[e1,e0] at q;push_cast [el,a1,a0,es,x1,x0,y1,y0];exact q
theorem yC (hB:∀x:Str,x∈BLs->mg x=none) (F:Fun K "plans_in" "plans_in" cW f fd):dN P w K mg base CX0 1 f fd q13_ zO:=by
 refine F.okq oE (fun vs H Q E h=>?_) (fun cdv A outer s H vs Q E hr h=>?_)
 ·obtain⟨s,l,p,ok,ss,left,pl,rfl,_⟩:=h;rfl
 obtain⟨s,l,p,ok,ss,left,pl,rfl,hn,ts,tl,tp,lf,q⟩:=h;refine⟨_,(aD (bV jF oE.nd (aH aR (ao iI) aq (fun _ _=>rfl)) rfl (.inl rfl))
  (aD (bM (aK (bF hr.aP) (ao jF) bT (aG _)) (aD (lG (NX:=gO) (kX:=(ak cW).names) ["k","plan"] [none,some 2] mO oE.nd rfl rfl ⟨rfl,ψ,ψ,ψ,ψ⟩ rfl (b7 (ao jG)) (fun _ _ _ _ _=>(bI 0 (show List.Nodup (["k","plan"]:List Str) from by decide +kernel) rfl (Or.inl rfl))) (fun _ _ _ _ _=>(eH (aK iY (aW 0) (aH aR (aW 1) aq (fun _ _=>rfl)) (aG _)))) (fun _ _ _ _ _=>(aW 0)))
  (aL (aO (cJ (aj (b8 (aj (ao mO) (aj (aH aR (ao iI) aq (fun _ _=>rfl)) aA rfl) rfl)) (aj (b8 (aj (dX qC (ao jG) (fL (bN aY vz (hB "len" cj) PySem.boot_len cu (aj (ao mO) aA rfl) rfl rfl)) fM) (aj (aH aR (ao iI) aq (fun _ _=>rfl)) aA rfl) rfl)) aA rfl) rfl))))) bx)
  (aD (bM (aK (bF hr.aP) (ao jF) bT (aG _)) (aL (aO (cJ (aj (b8 (aj (cX (NX:=gO) (kX:=(ak cW).names) ["k","plan","stretches"] [none,some 2,some 0] rfl rfl ⟨rfl,ψ,ψ,ψ,ψ⟩ rfl (b7 (ao jG)) (fun _ _ _ _ _=>(bI 0 (show List.Nodup (["k","plan","stretches"]:List Str) from by decide +kernel) rfl (Or.inl rfl))) (fun _ _ _ _ _=>(eH (aK (dY hr.aP) (aH aR (aH aR (aW 2) (aW 0) (fun _ _=>rfl)) aq (fun _ _=>rfl)) (aH aR (aW 1) aq (fun _ _=>rfl)) (aG _)))) (fun _ _ _ _ _=>(aW 0))) (aj (aH aR (ao iI) aq (fun _ _=>rfl)) aA rfl) rfl)) aA rfl)))) bx)
  (aD (bM (aK (Mt hr.un1) (ao jF) (b8 (aj bT (aj bT aA rfl) rfl)) (by with_unfolding_all rfl)) (aL (aO (cJ (aj (b8 (aj (cX (NX:=gO) (kX:=(ak cW).names) ["k","plan"] [none,some 2] rfl rfl ⟨rfl,ψ,ψ,ψ,ψ⟩ rfl (b7 (ao jG)) (fun _ _ _ _ _=>(bI 0 (show List.Nodup (["k","plan"]:List Str) from by decide +kernel) rfl (Or.inl rfl))) (fun _ _ _ _ _=>(eH (aK (dY hr.aP) (aW 0) (aH aR (aW 1) aq (fun _ _=>rfl)) (aG _)))) (fun _ _ _ _ _=>(aW 0))) (aj (aH aR (ao iI) aq (fun _ _=>rfl)) aA rfl) rfl)) aA rfl)))) bx)
  (aL (aO (cJ aA))))))),?_⟩
 obtain⟨la,rfl,okl,el,ll⟩:=tl.left;replace el:H la=some (.lst (nv left)):=el;have ts0:=ts;cases ts with
 | lst os es zs tss=>
  rename_i sa xs;cases pl with
  | pick l=>
   cases tp with
   | tup o e z tt=>
    cases tt with
    | cons t1 tt=>
     cases t1;push_cast [e,rdW];refine⟨aQ δ,fun t ht=>?_⟩;have s1:=au (o:=HO.tup [V.str "is",V.str "within"]) ht;refine⟨t,["is","within"],.str "pick",ok,rfl,aB,.str _,?_⟩;rw[show([("is" : Str), "within"].any (kZ (.str "pick")))=false by decide +kernel];push_cast;exact⟨aQ δ,fun r hr=>q _ _ (s1.trans (au hr)) (.lst (hn.new (jk hr).1) aB (by show 0<=1000000;decide) .nil)⟩
  | tab=>
   cases tp with
   | tup o e z tt=>
    cases tt with
    | cons t1 tt=>
     cases t1;push_cast [e,rdW];refine⟨aQ δ,fun t ht=>?_⟩;have s1:=au (o:=HO.tup [V.str "is",V.str "within"]) ht;refine⟨t,["is","within"],.str "table",ok,rfl,aB,.str _,?_⟩;rw[show([("is" : Str), "within"].any (kZ (.str "table")))=false by decide +kernel];push_cast;exact⟨aQ δ,fun r hr=>q _ _ (s1.trans (au hr)) (.lst (hn.new (jk hr).1) aB (by show 0<=1000000;decide) .nil)⟩
  | one k r=>
   cases tp with
   | tup o e z tt=>
    cases tt with
    | cons t1 tt=>
     cases t1;cases tt with
     | cons t2 tt=>
      cases t2;cases tt with
      | cons t3 tt=>
       cases tt;rename_i pa x3;push_cast [e,rdW];refine⟨aQ δ,fun t ht=>?_⟩;have s1:=au (o:=HO.tup [V.str "is",V.str "within"]) ht;refine⟨t,["is","within"],.str "is",ok,rfl,aB,.str _,?_⟩;rw[show([("is" : Str), "within"].any (kZ (.str "is")))=true by decide +kernel];have e1:=s1 _ _ e;have el1:=s1 _ _ el;have t31:=t3.same s1;have hn1:=hn.same s1;generalize upd H t (HO.tup [V.str "is",V.str "within"])=H1 at s1 e1 el1 t31 hn1 |-;push_cast;refine cF fun R hR=>?_;push_cast [el1];refine bQ (·≠k) (fun τ=>∃o0,τ=[o0,some (.ref pa)]) hR el1 ll ⟨_,rfl⟩ ?_ ?_
       ·rintro i k' τ acc Pn hk ⟨o0,rfl⟩ h1 h2;push_cast [e1];by_cases c:k'=k
        ·subst c;rw[decide_eq_true (show((k':Nat):Int)=(k':Int) from rfl),Bool.not_true,if_neg δ];exact h2 (by simp) _ ⟨_,rfl⟩
        rw[decide_eq_false (show ¬((k':Nat):Int)=(k:Int) by omega),Bool.not_false,if_pos rfl];exact h1 (by simpa using c) _ ⟨_,rfl⟩
       intro d hd;have s2:=au (o:=HO.lst (nv (left.filter (·≠k)))) hd;have e2:=s2 _ _ e1;have okd:=hn1.new hd;have t32:=t31.same s2;have ed:upd H1 d (HO.lst (nv (left.filter (·≠k)))) d=_:=aB;have hn2:=hn1.same s2;generalize upd H1 d (HO.lst (nv (left.filter (·≠k))))=H2 at s2 e2 t32 ed hn2 |-;push_cast [e2];refine⟨aQ δ,fun t2 ht2=>⟨aQ δ,fun r2 hr2=>?_⟩⟩;have s3:=au (o:=HO.tup [V.ref d,x3]) ht2;have s4:=au (o:=HO.lst [V.ref t2]) hr2;have s34:=s3.trans s4;refine q _ _ ((s1.trans s2).trans s34) (.lst (hn2.new (jk hr2).1) aB (by show 1<=1000000;decide) (.cons (.tup (hn2.new ht2) (s4 _ _ aB) (by show 2<=1000000;decide) (.cons (bf okd (s34 _ _ ed) (le_trans (length_filter_le _ _) ll)) (.cons (t32.same s34) .nil))) .nil))
  | wit k r=>
   cases tp with
   | tup o e z tt=>
    cases tt with
    | cons t1 tt=>
     cases t1;cases tt with
     | cons t2 tt=>
      cases t2;cases tt with
      | cons t3 tt=>
       cases tt;rename_i pa x3;push_cast [e,rdW];refine⟨aQ δ,fun t ht=>?_⟩;have s1:=au (o:=HO.tup [V.str "is",V.str "within"]) ht;refine⟨t,["is","within"],.str "within",ok,rfl,aB,.str _,?_⟩;rw[show([("is" : Str), "within"].any (kZ (.str "within")))=true by decide +kernel];have e1:=s1 _ _ e;have el1:=s1 _ _ el;have t31:=t3.same s1;have hn1:=hn.same s1;generalize upd H t (HO.tup [V.str "is",V.str "within"])=H1 at s1 e1 el1 t31 hn1 |-;push_cast;refine cF fun R hR=>?_;push_cast [el1];refine bQ (·≠k) (fun τ=>∃o0,τ=[o0,some (.ref pa)]) hR el1 ll ⟨_,rfl⟩ ?_ ?_
       ·rintro i k' τ acc Pn hk ⟨o0,rfl⟩ h1 h2;push_cast [e1];by_cases c:k'=k
        ·subst c;rw[decide_eq_true (show((k':Nat):Int)=(k':Int) from rfl),Bool.not_true,if_neg δ];exact h2 (by simp) _ ⟨_,rfl⟩
        rw[decide_eq_false (show ¬((k':Nat):Int)=(k:Int) by omega),Bool.not_false,if_pos rfl];exact h1 (by simpa using c) _ ⟨_,rfl⟩
       intro d hd;have s2:=au (o:=HO.lst (nv (left.filter (·≠k)))) hd;have e2:=s2 _ _ e1;have okd:=hn1.new hd;have t32:=t31.same s2;have ed:upd H1 d (HO.lst (nv (left.filter (·≠k)))) d=_:=aB;have hn2:=hn1.same s2;generalize upd H1 d (HO.lst (nv (left.filter (·≠k))))=H2 at s2 e2 t32 ed hn2 |-;push_cast [e2];refine⟨aQ δ,fun t2 ht2=>⟨aQ δ,fun r2 hr2=>?_⟩⟩;have s3:=au (o:=HO.tup [V.ref d,x3]) ht2;have s4:=au (o:=HO.lst [V.ref t2]) hr2;have s34:=s3.trans s4;refine q _ _ ((s1.trans s2).trans s34) (.lst (hn2.new (jk hr2).1) aB (by show 1<=1000000;decide) (.cons (.tup (hn2.new ht2) (s4 _ _ aB) (by show 2<=1000000;decide) (.cons (bf okd (s34 _ _ ed) (le_trans (length_filter_le _ _) ll)) (.cons (t32.same s34) .nil))) .nil))
  | low k a b=>
   cases tp with
   | tup o e z tt=>
    cases tt with
    | cons t1 tt=>
     cases t1;cases tt with
     | cons t2 tt=>
      cases t2;cases tt with
      | cons t3 tt=>
       cases tt with
       | cons t4 tt=>
        cases tt;rename_i pa x3 x4;push_cast [e,rdW];refine cF fun R hR=>?_;push_cast [el];refine bQ (· < k) (fun τ=>∃o0,τ=[o0,some (.ref pa)]) hR el ll ⟨_,rfl⟩ ?_ ?_
        ·rintro i k' τ acc Pn hk ⟨o0,rfl⟩ h1 h2;push_cast [e];by_cases c:k'<k
         ·rw[if_pos (show((k':Nat):Int)<(k:Int) by omega)];exact h1 (by simpa using c) _ ⟨_,rfl⟩
         rw[if_neg (show ¬((k':Nat):Int)<(k:Int) by omega)];exact h2 (by simpa using c) _ ⟨_,rfl⟩
        intro d hd;have s2:=au (o:=HO.lst (nv (left.filter (· < k)))) hd;have e2:=s2 _ _ e;have okd:=hn.new hd;have t32:=t3.same s2;have t42:=t4.same s2;have el2:=s2 _ _ el;have ed:upd H d (HO.lst (nv (left.filter (· < k)))) d=_:=aB;have hn2:=hn.same s2;generalize upd H d (HO.lst (nv (left.filter (· < k))))=H2 at s2 e2 t32 t42 el2 ed hn2 |-;push_cast [e2];refine⟨aQ δ,fun t5 ht5=>?_⟩;have s3:=au (o:=HO.tup [V.ref d,x3]) ht5;have e3:=s3 _ _ e2;have el3:=s3 _ _ el2;have ed3:=s3 _ _ ed;have et5:upd H2 t5 (HO.tup [V.ref d,x3]) t5=_:=aB;have ok5:=hn2.new ht5;have hn3:=hn2.same s3;have t33:=t32.same s3;have t43:=t42.same s3;generalize upd H2 t5 (HO.tup [V.ref d,x3])=H3 at s3 e3 el3 ed3 et5 hn3 t33 t43 |-;push_cast [ed3,dH,el3];intro d6 hd6;rw[Cz lf.up];have s6:=au (o:=HO.lst (nv (left.filter (k<=·)))) hd6;have e6:=s6 _ _ e3;have ed6:upd H3 d6 (HO.lst (nv (left.filter (k<=·)))) d6=_:=aB;have ok6:=hn3.new hd6;have hn6:=hn3.same s6;have ed36:=s6 _ _ ed3;have et56:=s6 _ _ et5;have t36:=t33.same s6;have t46:=t43.same s6;generalize upd H3 d6 (HO.lst (nv (left.filter (k<=·))))=H6 at s6 e6 ed6 hn6 ed36 et56 t36 t46 |-;push_cast [e6];refine⟨aQ δ,fun t7 ht7=>⟨aQ δ,fun r8 hr8=>?_⟩⟩;have s7:=au (o:=HO.tup [V.ref d6,x4]) ht7;have s8:=au (o:=HO.lst [V.ref t5,V.ref t7]) hr8;have s78:=s7.trans s8;refine q _ _ (((s2.trans s3).trans s6).trans s78) (.lst (hn6.new (jk hr8).1) aB (by show 2<=1000000;decide) (.cons (.tup ok5 (s78 _ _ et56) (by show 2<=1000000;decide) (.cons (bf okd (s78 _ _ ed36) (le_trans (length_filter_le _ _) ll)) (.cons (t36.same s78) .nil))) (.cons (.tup (hn6.new ht7) (s8 _ _ aB) (by show 2<=1000000;decide) (.cons (bf ok6 (s78 _ _ ed6) (le_trans (length_filter_le _ _) ll)) (.cons (t46.same s78) .nil))) .nil)))
  | msk l r=>
   cases tp with
   | tup o e z tt=>
    cases tt with
    | cons t1 tt=>
     cases t1;cases tt with
     | cons t2 tt=>
      cases t2;cases tt with
      | cons t3 tt=>
       cases tt;rename_i pa x3;push_cast [e,rdW];refine cF fun R hR=>?_;push_cast [el];refine bQ (fun k=>(bh ss k).2.2≠l) (fun τ=>∃o0,τ=[o0,some (.ref pa),some (.ref sa)]) hR el ll ⟨_,rfl⟩ ?_ ?_
       ·rintro i k' τ acc Pn hk ⟨o0,rfl⟩ h1 h2;obtain⟨sk,x1,y1⟩:=tss.stN (lf.lt _ (mem_of_getElem? hk));push_cast [e,es,x1,y1];by_cases c:(bh ss k').2.2=l
        ·rw[decide_eq_true c,Bool.not_true,if_neg δ];exact h2 (by simpa using c) _ ⟨_,rfl⟩
        rw[decide_eq_false c,Bool.not_false,if_pos rfl];exact h1 (by simpa using c) _ ⟨_,rfl⟩
       intro d hd;have s2:=au (o:=HO.lst (nv (left.filter fun k=>(bh ss k).2.2≠l))) hd;have e2:=s2 _ _ e;have okd:=hn.new hd;have t32:=t3.same s2;have ed:upd H d (HO.lst (nv (left.filter fun k=>(bh ss k).2.2≠l))) d=_:=aB;have hn2:=hn.same s2;generalize upd H d (HO.lst (nv (left.filter fun k=>(bh ss k).2.2≠l)))=H2 at s2 e2 t32 ed hn2 |-;push_cast [e2];refine⟨aQ δ,fun t2 ht2=>⟨aQ δ,fun r2 hr2=>?_⟩⟩;have s3:=au (o:=HO.tup [V.ref d,x3]) ht2;have s4:=au (o:=HO.lst [V.ref t2]) hr2;have s34:=s3.trans s4;refine q _ _ (s2.trans s34) (.lst (hn2.new (jk hr2).1) aB (by show 1<=1000000;decide) (.cons (.tup (hn2.new ht2) (s4 _ _ aB) (by show 2<=1000000;decide) (.cons (bf okd (s34 _ _ ed) (le_trans (length_filter_le _ _) ll)) (.cons (t32.same s34) .nil))) .nil))
noncomputable abbrev lB:List Str:=["stretches","left"]
noncomputable abbrev dB:Stmt:=top 6
theorem uJ:bK lB q8_ (ak dB):=⟨rfl,rfl,rfl,ψ,rfl,ψ,ψ⟩
theorem sW:NM_ lB dB 1 "left" := .of ψ
theorem nT:Bn "labels_left" := ⟨ψ,ψ⟩
theorem JQ (hB:∀x:Str,x∈BLs->mg x=none) (F:Fun K "labels_left" "labels_left" dB f fd):dN P w K mg base CX0 1 f fd q8_ yg:=by
 refine F.okq uJ (fun vs H Q E h=>?_) (fun cdv A outer s H vs Q E hr h=>?_)
 ·obtain⟨s,l,ok,ss,left,rfl,_⟩:=h;rfl
 obtain⟨s,l,ok,ss,left,rfl,ts,tl,lf,q⟩:=h;refine⟨_,(aL (aO (cX (NX:=lB) (kX:=(ak dB).names) ["k","stretches"] [none,some 0] rfl rfl ⟨rfl,ψ,ψ,ψ,ψ⟩ rfl (b7 (ao sW)) (fun _ _ _ _ _=>(bI 0 (show List.Nodup (["k","stretches"]:List Str) from by decide +kernel) rfl (Or.inl rfl))) (fun _ _ _ _ _=>mF) (fun _ _ _ _ _=>(aH aR (aH aR (aW 1) (aW 0) (fun _ _=>rfl)) aq (fun _ _=>rfl)))))),?_⟩;obtain⟨la,rfl,_,el,hll⟩:=tl.left;replace el:H la=some (.lst (nv left)):=el;cases ts with
 | lst o es zs tss=>
  push_cast;refine cF fun R hR=>?_;push_cast [el];refine pC (lbl ss) (fun τ=>∃o0,τ=[o0,some (.ref _)]) hR el hll ⟨_,rfl⟩ ?_ ?_
  ·rintro i k τ acc Pn hk ⟨o0,rfl⟩ hN;obtain⟨p1,x1,y1⟩:=tss.stN (lf.lt _ (mem_of_getElem? hk));push_cast [es,x1,y1];exact hN _ ⟨_,rfl⟩
  intro d hd;exact q d hd
noncomputable abbrev zA:List Str:=["_law_stretches_here","_law_left"]
noncomputable abbrev j4:Stmt:=top 16
theorem Ih:bK zA q6_ (ak j4):=⟨rfl,rfl,rfl,ψ,rfl,ψ,ψ⟩
theorem wL:NM_ zA j4 0 "_law_stretches_here" := .of ψ
theorem wK:NM_ zA j4 1 "_law_left" := .of ψ
theorem nR:Bn "_law_span" := ⟨ψ,ψ⟩
noncomputable abbrev zB:List Str:=["_law_tape_here","_law_great"]
noncomputable abbrev jx:Stmt:=top 19
theorem zR:bK zB ["_law_tape_here"] (ak jx):=⟨rfl,rfl,rfl,ψ,rfl,ψ,ψ⟩
theorem qX:NM_ zB jx 0 "_law_tape_here" := .of ψ
theorem wQ:NM_ zB jx 1 "_law_great" := .of ψ
theorem jL:GI_ jx "_law_take" := by decide +kernel
theorem Kq:Bn "_law_many" := ⟨ψ,ψ⟩
noncomputable abbrev gC:List Str:=["_law_tape_here","_law_stretches_here","_law_end","_law_low","_law_high","_law_label"]
noncomputable abbrev cG:Stmt:=top 24
theorem iz:bK gC q4_ (ak cG):=⟨rfl,rfl,rfl,ψ,rfl,ψ,ψ⟩
theorem pJ:NM_ gC cG 0 "_law_tape_here" := .of ψ
theorem iZ:NM_ gC cG 1 "_law_stretches_here" := .of ψ
theorem pI:NM_ gC cG 2 "_law_end" := .of ψ
theorem kE:NM_ gC cG 3 "_law_low" := .of ψ
theorem wJ:NM_ gC cG 4 "_law_high" := .of ψ
theorem pH:NM_ gC cG 5 "_law_label" := .of ψ
theorem jQ:GI_ cG "_law_take" := by decide +kernel
theorem sY:GI_ cG "max" := by decide +kernel
theorem zj:Bn "_law_spanned" := ⟨ψ,ψ⟩
theorem JL (hB:∀x:Str,x∈BLs->mg x=none) (F:Fun K "_law_span" "_law_span" j4 f fd):dN P w K mg base CX0 1 f fd q6_ jm:=by
 refine F.okq Ih (fun vs H Q E h=>?_) (fun cdv A outer s H vs Q E hr h=>?_)
 ·obtain⟨s,l,ok,ss,left,rfl,_⟩:=h;rfl
 obtain⟨s,l,ok,ss,left,rfl,ts,tl,lf,q⟩:=h;refine⟨_,(aL (aO (aN aV (aN iC (aH aR (aH aR (ao wL) (aH aR (ao wK) (j8 iy aq) (fun _ _=>rfl)) (fun _ _=>rfl)) aq (fun _ _=>rfl)) (aH aR (aH aR (ao wL) (aH aR (ao wK) aq (fun _ _=>rfl)) (fun _ _=>rfl)) aq (fun _ _=>rfl))) aq))),?_⟩;obtain⟨la,rfl,_,el,_⟩:=tl.left;replace el:H la=some (.lst (nv left)):=el;cases ts with
 | lst o es zs tss=>
  obtain⟨k1,e1,m1,a1⟩:=Ab lf.ne;obtain⟨k0,e0,m0,a0⟩:=Ac lf.ne;obtain⟨p1,x1,y1⟩:=tss.stN (lf.lt _ m1);obtain⟨p0,x0,y0⟩:=tss.stN (lf.lt _ m0);unfold fY at q;rw[e1,e0] at q;push_cast [el,a1,a0,es,x1,x0,y1,y0];exact q
theorem JN (hB:∀x:Str,x∈BLs->mg x=none) (CZTake:Cal P w K mg base "_law_take" 2 q0_ (jd 2)) (F:Fun K "_law_many" "_law_many" jx f fd):dN P w K mg base CX0 3 f fd ["_law_tape_here"] Eb:=by
 refine F.okq zR (fun vs H Q E h=>?_) (fun cdv A outer s H vs Q E hr h=>?_)
 ·obtain⟨p,B,rfl,_⟩:=h;rfl
 obtain⟨p,B,rfl,tp,hB0,hB1,q⟩:=h;refine⟨_,(aD (bV wQ zR.nd (dG (bF hr.aP) (aX CZTake (hr.mono δ) jL bO (aj (ao qX) (aj aq aA rfl) rfl) rfl rfl) aq (aG _)) rfl (.inl rfl))
  (aL (aO (zU (iB (ao wQ) (fun _=>rfl)) (aN aV aq (aX CZTake (hr.mono δ) jL bO (aj (ao qX) (aj aq aA rfl) rfl) rfl rfl)) (aN aV aq (aX CZTake (hr.mono δ) jL bO (aj (ao qX) (aj aq aA rfl) rfl) rfl rfl)))))),?_⟩
 refine aU fun k hk=>?_;push_cast;refine⟨p,8,B,rfl,tp,by show B+2<=1000100;omega,δ,δ,δ,fun z=>absurd z δ,fun r1 H1 r10 r11 s1 tp1=>?_⟩;push_cast;subst hk;push_cast;by_cases c:r1=0
 ·rw[if_pos c];refine⟨p,50,B+2,rfl,tp1,by show B+2+2<=1000100;omega,δ,δ,δ,fun z=>absurd z δ,fun r2 H2 r20 r21 s2 tp2=>?_⟩;push_cast;exact q _ _ (s1.trans s2) (tp2.le (by show B+2+2<=B+4;omega)) ω ω
 rw[if_neg c];refine⟨p,9,B+2,rfl,tp1,by show B+2+2<=1000100;omega,δ,δ,δ,fun z=>absurd z δ,fun r2 H2 r20 r21 s2 tp2=>?_⟩;push_cast;exact q _ _ (s1.trans s2) (tp2.le (by show B+2+2<=B+4;omega)) ω ω
theorem yx (hB:∀x:Str,x∈BLs->mg x=none) (CZTake:Cal P w K mg base "_law_take" 2 q0_ (jd 2)) (F:Fun K "_law_spanned" "_law_spanned" cG f fd):dN P w K mg base CX0 3 f fd q4_ tR:=by
 refine F.okq iz (fun vs H Q E h=>?_) (fun cdv A outer s H vs Q E hr h=>?_)
 ·obtain⟨p,l,B,ss,rfl,_⟩:=h;rfl
 obtain⟨p,l,B,ss,rfl,tp,hB0,hB1,ts,hne,rs,hfst,q⟩:=h;refine⟨_,(aD (bM (aK qI (aX CZTake (hr.mono δ) jQ bO (aj (ao pJ) (aj aq aA rfl) rfl) rfl rfl) aq (aG _)) (aL (aO (ao iZ))) bx)
  (aD (bV pI iz.nd (aN iC (aN aV (aH aR (aH aR (ao iZ) aq (fun _ _=>rfl)) aq (fun _ _=>rfl)) (aH aR (cJ (aj aq (aj aq (aj aq (aj aq aA rfl) rfl) rfl) rfl)) (aX CZTake (hr.mono δ) jQ bO (aj (ao pJ) (aj aq aA rfl) rfl) rfl rfl) (fun _ _=>rfl))) aq) rfl (.inl rfl))
  (aD (j7 (aH aR (ao iZ) (j8 iy aq) (fun _ _=>rfl)) (jg (n:=3) rfl (bH (fO kE iz.nd (.inl rfl)) (bH (fO wJ iz.nd (.inl rfl)) (bH (fO pH iz.nd (.inl rfl)) gF rfl) rfl) rfl) rfl rfl) rfl rfl rfl)
  (aL (aO (aN aV (dX qC (ao iZ) fM (fL (j8 iy aq))) (cJ (aj (b8 (aj (ao kE) (aj (bN (uq rfl) sY (hB "max" yJ) boot_max zf (aj (ao kE) (aj (ao pI) aA rfl) rfl) rfl rfl) (aj (ao pH) aA rfl) rfl) rfl)) aA rfl)))))))),?_⟩
 have ts0:=ts;cases ts with
 | lst o el zl tsl=>
  rename_i xs;have hxl:=tsl.length;rw[length_map] at hxl;obtain⟨sa,⟨lo,hi,b⟩,rfl⟩:=gA ss (length_pos_iff.mpr hne);refine aU fun k hk=>?_;push_cast;refine⟨p,4,B,rfl,tp,by show B+2<=1000100;omega,δ,δ,δ,fun z=>absurd z δ,fun r1 H1 r10 r11 s1 tp1=>?_⟩;have el1:=s1 _ _ o el;have tsl1:=tsl.cL s1;push_cast;split
  ·exact q l _ H1 s1 (tp1.le (by show B+2<=B+4;omega)) (ts0.cL s1) rfl rs
  subst hk;refine aU fun k hk=>?_;obtain⟨p0,x0,y0⟩:=tsl1.stN (k:=0) (by rw[length_append,length_singleton];omega);replace x0:atI xs 0=some (.ref p0):=x0;push_cast [el1,x0,y0];refine⟨aQ δ,fun l2 hl2=>?_⟩;have s2:=au (o:=HO.lst [V.int 64,V.int 65,V.int 200,V.int 201]) hl2;have e2:upd H1 l2 (HO.lst [V.int 64,V.int 65,V.int 200,V.int 201]) l2=_:=aB;have n2:=tp1.ne hl2;have tp2:=tp1.same s2;generalize upd H1 l2 (HO.lst [V.int 64,V.int 65,V.int 200,V.int 201])=H2 at s2 e2 tp2 |-;refine⟨p,4,B+2,rfl,tp2,by show B+2+2<=1000100;omega,δ,δ,δ,fun z=>absurd z δ,fun r3 H3 r30 r31 s3 tp3=>?_⟩;obtain⟨wd,hwd,ewd⟩:=j9 (is:=[64,65,200,201]) r30 r31;replace ewd:atI [V.int 64,V.int 65,V.int 200,V.int 201] r3=some (.int wd):=ewd;have bwd:wd<=201:=by
   simp only[mem_cons,not_mem_nil,or_false] at hwd;rcases hwd with rfl|rfl|rfl|rfl <;> decide
  have e3:=s3 _ _ n2 e2;push_cast [e3,ewd];have sx3:=(s1.trans s2.x).trans s3;have el3:=sx3 _ _ o el;have tsl3:=tsl.cL sx3;have hs0:(bh (sa++[(lo,hi,b)]) 0).1<=10^9:=hfst _ (DW (by rw[length_append,length_singleton];omega));generalize (bh (sa++[(lo,hi,b)]) 0).1=f0 at hs0 |-;have hlen:xs.length=sa.length+1:=by rw[hxl,length_append,length_singleton]
  rw[map_append] at tsl3;obtain⟨tpre,y,hy,ty⟩:=aJ.dropLast tsl3;obtain⟨py,vs,rfl,ey,tvs⟩:=aF.yd (show aF (·≠p) H3 y (.tuple [.int lo,.int hi,.int b]) from ty);have evs:=aJ.ints (is:=[lo,hi,b]) tvs;subst evs;replace ey:H3 py=some (.tup [.int lo,.int hi,.int b]):=ey;have hyl:atI xs (-1)=some (.ref py):=by
   obtain⟨xa,xb,rfl⟩:=gA xs ω;rw[length_append,length_singleton,add_sub_cancel,getElem?_append_right (le_refl _),sub_self] at hy;cases hy;exact nW xa _
  subst hk;refine aU fun k hk=>?_;push_cast [el3,hyl,ey];subst hk;push_cast [el3];obtain⟨h4,hh4,b4⟩:∃h4:Int,h4=(if f0+wd-1>lo then f0+wd-1 else lo)/\lo<=h4/\h4<=10^9+(10^12+10)*(sa.length+1):=by
   have hb:=rs.bd sa.length (lo,hi,b) (by rw[getElem?_append_right (le_refl _),sub_self];rfl);have hl:=(rs.lh sa.length (lo,hi,b) (by rw[getElem?_append_right (le_refl _),sub_self];rfl)).1;replace hb:-(10^12)<=lo/\hi<=10^9+(10^12+10)*((sa.length:Int)+1):=hb;replace hl:lo<=hi:=hl;refine⟨_,rfl,?_⟩;split <;> omega
  rw[<- hh4,xu];intro a4 ha4;refine⟨aQ δ,fun a5 ha5=>⟨aQ δ,fun a6 ha6=>?_⟩⟩;have s4:=au (o:=HO.lst xs.dropLast) ha4;have s5:=au (o:=HO.tup [V.int lo,V.int h4,V.int b]) ha5;have s6:=au (o:=HO.lst [V.ref a5]) ha6;have e4:=(s5.trans s6) _ _ (show upd H3 a4 (HO.lst xs.dropLast) a4=_ from aB);have e5:=s6 _ _ (show upd (upd H3 a4 (HO.lst xs.dropLast)) a5 (HO.tup [V.int lo,V.int h4,V.int b]) a5=_ from aB);have s46:=(s4.trans s5).trans s6;have n5:a5≠p:=(tp3.same s4).ne ha5;generalize upd (upd (upd H3 a4 (HO.lst xs.dropLast)) a5 (HO.tup [V.int lo,V.int h4,V.int b])) a6 (HO.lst [V.ref a5])=H6 at e4 e5 s46 |-;push_cast [e4];have hdl:=List.length_dropLast (xs:=xs);refine⟨aQ (show xs.dropLast.length+1<=1000000 by omega),fun a7 ha7=>?_⟩;have s7:=au (o:=HO.lst (xs.dropLast++[V.ref a5])) ha7;have tp7:=(tp3.same s46).same s7;refine q a7 (sa++[(lo,h4,b)]) _ (sx3.trans (s46.trans s7).x) (tp7.le (by show B+2+2<=B+4;omega)) (.lst ((tp3.same s46).ne ha7) aB (by rw[length_append,length_singleton,hdl];omega) ?_) (by rw[length_append,length_append];rfl) (rs.Gx b4.1 b4.2);rw[map_append];exact((tpre.same s46).same s7).append (.cons (.tup n5 (s7 _ _ e5) (show 3<=1000000 by decide) (.cons (.int _) (.cons (.int _) (.cons (.int _) .nil)))) .nil)
noncomputable abbrev d9:List Str:=["_law_tape_here","_law_stretches_here","_law_left","_law_labels","_law_way","_law_at","_law_rest","_law_others","_law_single","_law_sort","_law_one"]
noncomputable abbrev bZ:Stmt:=top 17
theorem gD:bK d9 q2_ (ak bZ):=⟨rfl,rfl,rfl,ψ,rfl,ψ,ψ⟩
theorem gK:NM_ d9 bZ 0 "_law_tape_here" := .of ψ
theorem fU:NM_ d9 bZ 1 "_law_stretches_here" := .of ψ
theorem dJ:NM_ d9 bZ 2 "_law_left" := .of ψ
theorem nq:NM_ d9 bZ 3 "_law_labels" := .of ψ
theorem kI:NM_ d9 bZ 4 "_law_way" := .of ψ
theorem iG:NM_ d9 bZ 5 "_law_at" := .of ψ
theorem wO:NM_ d9 bZ 6 "_law_rest" := .of ψ
theorem qU:NM_ d9 bZ 7 "_law_others" := .of ψ
theorem wN:NM_ d9 bZ 8 "_law_single" := .of ψ
theorem wM:NM_ d9 bZ 9 "_law_sort" := .of ψ
theorem tX:NM_ d9 bZ 10 "_law_one" := .of ψ
theorem gW:GI_ bZ "_law_plan" := by decide +kernel
theorem nJ:GI_ bZ "_law_span" := by decide +kernel
theorem gU:GI_ bZ "_law_take" := by decide +kernel
theorem yS:GI_ bZ "int" := by decide +kernel
theorem mQ:GI_ bZ "len" := by decide +kernel
theorem yR:GI_ bZ "max" := by decide +kernel
theorem yQ:GI_ bZ "min" := by decide +kernel
theorem lU:Bn "_law_plan" := ⟨ψ,ψ⟩
theorem Bx:dN P w K mg base CX0 2 f fd q2_ (lD 0):=by
 have no:∀vs H Q E,¬lD 0 vs H Q E:=fun vs H Q E h=>by
  obtain⟨p,s,l,B,ss,left,_,_,_,_,_,_,lf,h0,_⟩:=h;exact lf.ne (List.eq_nil_of_length_eq_zero ω)
 exact⟨fun vs H Q E h=>absurd h (no vs H Q E),fun A outer s H args us vs Q E _ _ _ _ h=>absurd h (no vs H Q E)⟩
theorem JM {n:Nat}(hB:∀x:Str,x∈BLs->mg x=none) (CZTake:Cal P w K mg base "_law_take" 2 q0_ (jd 2)) (CZSpan:Cal P w K mg base "_law_span" 1 q6_ jm) (CZPlan:Cal P w K mg base "_law_plan" (n+2) q2_ (lD n)) (F:Fun K "_law_plan" "_law_plan" bZ f fd):dN P w K mg base CX0 (n+3) f fd q2_ (lD (n+1)):=by
 refine F.okq gD (fun vs H Q E h=>?_) (fun cdv A outer s H vs Q E hr h=>?_)
 ·obtain⟨p,s,l,B,ss,left,rfl,_⟩:=h;rfl
 obtain⟨p,s,l,B,ss,left,rfl,tp,hB0,hB1,ts,tl,lf,hn1,h60,q⟩:=h;refine⟨_,(aD (lG (NX:=d9) (kX:=(ak bZ).names) ["_law_k","_law_stretches_here"] [none,some 1] nq gD.nd rfl rfl ⟨rfl,ψ,ψ,ψ,ψ⟩ rfl (b7 (ao dJ)) (fun _ _ _ _ _=>(bI 0 (show List.Nodup (["_law_k","_law_stretches_here"]:List Str) from by decide +kernel) rfl (Or.inl rfl))) (fun _ _ _ _ _=>mF) (fun _ _ _ _ _=>(aH aR (aH aR (aW 1) (aW 0) (fun _ _=>rfl)) aq (fun _ _=>rfl))))
  (aD (j7 (b8 (aj (aX CZTake (hr.mono ω) gU bO (aj (ao gK) (aj aq aA rfl) rfl) rfl rfl) (aj (aH aR (ao dJ) (aX CZTake (hr.mono ω) gU bO (aj (ao gK) (aj (bN aY mQ (hB "len" cj) PySem.boot_len cu (aj (ao dJ) aA rfl) rfl rfl) aA rfl) rfl) rfl rfl) (fun _ _=>rfl)) aA rfl) rfl)) (jg (n:=2) rfl (bH (fO kI gD.nd (.inl rfl)) (bH (fO iG gD.nd (.inl rfl)) gF rfl) rfl) rfl rfl) rfl rfl rfl)
  (aD (bM (je (j6 (aK (bF hr.aP) (bN (CP rfl) yQ (hB "min" Gr) boot_min Hr (aj (ao nq) aA rfl) rfl rfl) (bN (CT rfl) yR (hB "max" yJ) boot_max zf (aj (ao nq) aA rfl) rfl rfl) (aG _)) (jy (je (fZ (aK (bF hr.aP) (bN aY mQ (hB "len" cj) PySem.boot_len cu (aj (ao dJ) aA rfl) rfl rfl) aq (aG _)) (fK (aK qI (ao kI) aq (aG _)))))))) (aL (aO (b8 (aj bT (aj (aH aR (ao nq) aq (fun _ _=>rfl)) aA rfl) rfl)))) bx)
  (aD (lG (NX:=d9) (kX:=(ak bZ).names) ["_law_k","_law_at"] [none,some 5] wO gD.nd rfl rfl ⟨rfl,ψ,ψ,ψ,ψ⟩ rfl (b7 (ao dJ)) (fun _ _ _ _ _=>(bI 0 (show List.Nodup (["_law_k","_law_at"]:List Str) from by decide +kernel) rfl (Or.inl rfl))) (fun _ _ _ _ _=>(eH (aK (dY hr.aP) (aW 0) (aW 1) (aG _)))) (fun _ _ _ _ _=>(aW 0)))
  (aD (bM (je (j6 (aK (bF hr.aP) (ao kI) aq (aG _)) (jy (aK wu (aX CZSpan (hr.mono ω) nJ nR (aj (ao fU) (aj (ao dJ) aA rfl) rfl) rfl rfl) aq (aG _))))) (aL (aO (b8 (aj bT aA rfl)))) bx)
  (aD (lG (NX:=d9) (kX:=(ak bZ).names) ["_law_k","_law_stretches_here","_law_at"] [none,some 1,some 5] qU gD.nd rfl rfl ⟨rfl,ψ,ψ,ψ,ψ⟩ rfl (b7 (ao dJ)) (fun _ _ _ _ _=>(bI 0 (show List.Nodup (["_law_k","_law_stretches_here","_law_at"]:List Str) from by decide +kernel) rfl (Or.inl rfl))) (fun _ _ _ _ _=>(eH (aK (dY hr.aP) (aH aR (aH aR (aW 1) (aW 0) (fun _ _=>rfl)) aq (fun _ _=>rfl)) (aH aR (aH aR (aW 1) (aW 2) (fun _ _=>rfl)) aq (fun _ _=>rfl)) (aG _)))) (fun _ _ _ _ _=>(aW 0)))
  (aD (bM (je (j6 (aK iY (ao kI) aq (aG _)) (j6 (aK (dY hr.aP) (ao qU) (cJ aA) (aG _)) (jy (aK wu (aX CZSpan (hr.mono ω) nJ nR (aj (ao fU) (aj (ao dJ) aA rfl) rfl) rfl rfl) aq (aG _)))))) (aL (aO (b8 (aj bT (aj (aH aR (aH aR (ao fU) (ao iG) (fun _ _=>rfl)) aq (fun _ _=>rfl)) (aj (aX CZPlan (hr.mono ω) gW lU (aj (ao gK) (aj (ao fU) (aj (ao qU) aA rfl) rfl) rfl) rfl rfl) aA rfl) rfl) rfl)))) bx)
  (aD (bM (aK iY (ao kI) aq (aG _)) (aD (bV wN gD.nd (zW mW yS (hB "int" rB) boot_int rT (aj (dG (bF hr.aP) (aH aR (aH aR (ao fU) (ao iG) (fun _ _=>rfl)) aq (fun _ _=>rfl)) (aH aR (aH aR (ao fU) (ao iG) (fun _ _=>rfl)) aq (fun _ _=>rfl)) (aG _)) aA rfl) rfl rfl) rfl (.inl rfl))
  (aD (bV wM gD.nd (aH aR (cJ (aj bT (aj bT aA rfl) rfl)) (aN fQ (ao wN) (aX CZTake (hr.mono ω) gU bO (aj (ao gK) (aj aq aA rfl) rfl) rfl rfl)) (fun _ _=>rfl)) rfl (.inl rfl))
  (aL (aO (b8 (aj (ao wM) (aj (ao iG) (aj (aX CZPlan (hr.mono ω) gW lU (aj (ao gK) (aj (ao fU) (aj (ao wO) aA rfl) rfl) rfl) rfl rfl) aA rfl) rfl) rfl)))))) bx)
  (aD (bV iG gD.nd (aH aR (dX qC (ao dJ) (fL aq) fM) (aX CZTake (hr.mono ω) gU bO (aj (ao gK) (aj (aN iC (bN aY mQ (hB "len" cj) PySem.boot_len cu (aj (ao dJ) aA rfl) rfl rfl) aq) aA rfl) rfl) rfl rfl) (fun _ _=>rfl)) rfl (.inl rfl))
  (aD (bV tX gD.nd (aX CZPlan (hr.mono ω) gW lU (aj (ao gK) (aj (ao fU) (aj (cX (NX:=d9) (kX:=(ak bZ).names) ["_law_k","_law_at"] [none,some 5] rfl rfl ⟨rfl,ψ,ψ,ψ,ψ⟩ rfl (b7 (ao dJ)) (fun _ _ _ _ _=>(bI 0 (show List.Nodup (["_law_k","_law_at"]:List Str) from by decide +kernel) rfl (Or.inl rfl))) (fun _ _ _ _ _=>(eH (aK iY (aW 0) (aW 1) (aG _)))) (fun _ _ _ _ _=>(aW 0))) aA rfl) rfl) rfl) rfl rfl) rfl (.inl rfl))
  (aL (aO (b8 (aj bT (aj (ao iG) (aj (ao tX) (aj (aX CZPlan (hr.mono ω) gW lU (aj (ao gK) (aj (ao fU) (aj (cX (NX:=d9) (kX:=(ak bZ).names) ["_law_k","_law_at"] [none,some 5] rfl rfl ⟨rfl,ψ,ψ,ψ,ψ⟩ rfl (b7 (ao dJ)) (fun _ _ _ _ _=>(bI 0 (show List.Nodup (["_law_k","_law_at"]:List Str) from by decide +kernel) rfl (Or.inl rfl))) (fun _ _ _ _ _=>(eH (aK zZ (aW 0) (aW 1) (aG _)))) (fun _ _ _ _ _=>(aW 0))) aA rfl) rfl) rfl) rfl rfl) aA rfl) rfl) rfl) rfl)))))))))))))),?_⟩
 obtain⟨la,rfl,okl,el,ll⟩:=tl.left;replace el:H la=some (.lst (nv left)):=el;cases ts with
 | lst os es zs tss=>
  rename_i sa xs;refine aU fun k hk=>?_;push_cast;refine cF fun R hR=>?_;push_cast [el];refine pC (fun k=>(bh ss k).2.2) (fun τ=>∃o0,τ=[o0,some (.ref sa)]) hR el ll ⟨_,rfl⟩ ?_ ?_
  ·rintro i k' τ acc Pn hk' ⟨o0,rfl⟩ h1;obtain⟨sk,x1,y1⟩:=tss.stN (lf.lt _ (mem_of_getElem? hk'));push_cast [es,x1,y1];exact h1 _ ⟨_,rfl⟩
  intro d hd;have s1:=au (o:=HO.lst ((left.map fun k=>(bh ss k).2.2).map V.int)) hd;have ed:upd H d (HO.lst ((left.map fun k=>(bh ss k).2.2).map V.int)) d=_:=aB;have nd:=tp.ne hd;have tp1:=tp.same s1;have el1:=s1 _ _ el;have es1:=s1 _ _ es;have tss1:=tss.same s1;generalize upd H d (HO.lst ((left.map fun k=>(bh ss k).2.2).map V.int))=H1 at s1 ed tp1 el1 es1 tss1 |-;subst hk;refine aU fun k hk=>?_;push_cast;refine⟨p,8,B,rfl,tp1,by show B+2<=1000100;omega,δ,δ,δ,fun z=>absurd z δ,fun way H2 w0 w1 s2 tp2=>?_⟩;have el2:=s2 _ _ okl el1;push_cast [el2,dH];have hpos:0<left.length:=length_pos_iff.mpr lf.ne;refine⟨p,left.length,B+2,rfl,tp2,by show B+2+2<=1000100;omega,ω,ω,δ,fun z=>absurd z ω,fun r3 H3 r30 r31 s3 tp3=>?_⟩;obtain⟨at0,hat,mat,aat⟩:=Kz r30 r31;have el3:=s3 _ _ okl el2;push_cast [el3,aat];refine⟨aQ δ,fun t4 ht4=>?_⟩;have s4:=au (o:=HO.tup [V.int way,V.int (at0:Int)]) ht4;have tp4:=tp3.same s4;have el4:=s4 _ _ el3;have ed4:=s4 _ _ (s3 _ _ nd (s2 _ _ nd ed));have es4:=s4 _ _ (s3 _ _ os (s2 _ _ os es1));have tss4:=((tss1.cL s2).cL s3).same s4;have sx4:cg p H _:=((s1.x.trans s2).trans s3).trans s4.x;generalize upd H3 t4 (HO.tup [V.int way,V.int (at0:Int)])=H4 at s4 tp4 el4 ed4 es4 tss4 sx4 |-;replace tp4:bA H4 p (B+4):=tp4.le (by show B+2+2<=B+4;omega);clear tp1 tp2 tp3 s1 s2 s3 s4 el1 el2 el3 es1 tss1 ht4;subst hk;refine aU fun k hk=>?_;push_cast [ed4];have hpick:∀(a:Addr)(l:Int),(∀k∈left,lbl ss k=l)->H4 a=none->Q (.ref a) (upd H4 a (.tup [.str "pick",.int l])):=fun a l hl ha=>
   q _ (.pick l) _ (sx4.trans (au ha).x) ((tp4.same (au ha)).le ω) (.tup (tp4.ne ha) aB (by show 2<=1000000;decide) (.cons (.str _) (.cons (.int _) .nil))) ⟨lf,hl⟩ hpos (by show 1+1<=2*left.length;omega)
  obtain⟨l0,hl0,ml0⟩:∃l,atI ((left.map fun k=>(bh ss k).2.2).map V.int) 0=some (.int l)/\l∈(left.map fun k=>(bh ss k).2.2):=by
   cases hle:left with
   | nil=>exact absurd hle lf.ne
   | cons a l=>exact⟨_,cU (j:=0) (show(_::_)[0]?=_ from rfl),mem_cons_self⟩
  suffices go:2<=left.length->k [some (V.ref p),some (V.ref sa),some (V.ref la),some (V.ref d),some (V.int way),some (V.int (at0:Int)),none,none,none,none,none] H4 by
   refine⟨_,.inl ed4,fun z=>lf.ne (List.map_eq_nil_iff.mp z),fun M hM lM=>⟨_,.inl ed4,fun z=>lf.ne (List.map_eq_nil_iff.mp z),fun M1 hM1 lM1=>?_⟩⟩;by_cases c1:M=M1
   ·rw[if_pos c1];have hsame:∀k∈left,lbl ss k=l0:=by
     have all:∀x∈(left.map fun k=>(bh ss k).2.2),x=M:=fun x hx=>by
      have:=lM x hx;have:=lM1 x hx;omega
     have h0:l0=M:=all _ ml0;exact fun k hk=>(all _ (mem_map.mpr ⟨k,hk,rfl⟩)).trans h0.symm
    push_cast [el4,dH];by_cases c2:(left.length:Int)=1
    ·rw[if_pos c2];push_cast [ed4,hl0];exact⟨aQ δ,fun a ha=>hpick a l0 hsame ha⟩
    rw[if_neg c2];by_cases c3:0<way
    ·rw[if_pos c3];push_cast [ed4,hl0];exact⟨aQ δ,fun a ha=>hpick a l0 hsame ha⟩
    rw[if_neg c3];exact go ω
   rw[if_neg c1];refine go ?_
   match left,hM,hM1,hpos with
   | [a],hM,hM1,_=>
    rw[map_cons,map_nil,mem_singleton] at hM hM1;exact absurd (hM.trans hM1.symm) c1
   | a::b::l,_,_,_=>exact Nat.le_add_left 2 _
  intro h2;clear hpick hl0 ml0 l0 ed4 hd nd ed;subst hk;refine aU fun k hk=>?_;push_cast;refine cF fun R2 hR2=>?_;push_cast [el4];refine bQ (·≠at0) (fun τ=>∃o0,τ=[o0,some (.int (at0:Int))]) hR2 el4 ll ⟨_,rfl⟩ ?_ ?_
  ·rintro i k' τ acc Pn hk' ⟨o0,rfl⟩ h1 h2;push_cast;by_cases c:k'=at0
   ·subst c;rw[decide_eq_true (show((k':Nat):Int)=(k':Int) from rfl),Bool.not_true,if_neg δ];exact h2 (by simp) _ ⟨_,rfl⟩
   rw[decide_eq_false (show ¬((k':Nat):Int)=(at0:Int) by omega),Bool.not_false,if_pos rfl];exact h1 (by simpa using c) _ ⟨_,rfl⟩
  intro d5 hd5;have s5:=au (o:=HO.lst (nv (left.filter (·≠at0)))) hd5;have ok5:=tp4.ne hd5;have tp5:=tp4.same s5;have el5:=s5 _ _ el4;have es5:=s5 _ _ es4;have tss5:=tss4.same s5;have sx5:=sx4.trans s5.x;have e5:upd H4 d5 (HO.lst (nv (left.filter (·≠at0)))) d5=_:=aB;generalize upd H4 d5 (HO.lst (nv (left.filter (·≠at0))))=H5 at s5 tp5 el5 es5 tss5 sx5 e5 |-;clear tp4 el4 es4 tss4 sx4 hd5 s5;subst hk;refine aU fun k hk=>?_;push_cast;have tS5:aF (·≠p) H5 (.ref sa) (.list (ss.map stD)):=.lst os es5 zs tss5;have tL5:aF (·≠p) H5 (.ref la) (iK left):=bf okl el5 ll
  suffices go:k [some (V.ref p),some (V.ref sa),some (V.ref la),some (V.ref d),some (V.int way),some (V.int (at0:Int)),some (V.ref d5),none,none,none,none] H5 by
   by_cases c1:way=1
   ·rw[if_pos c1];refine⟨_,_,_,ss,left,rfl,tS5,tL5,lf,_,rfl,?_⟩;by_cases c2:fY ss left<=200
    ·rw[if_pos c2];refine⟨aQ δ,fun a ha=>?_⟩;exact q _ .tab _ (sx5.trans (au ha).x) ((tp5.same (au ha)).le ω) (.tup (tp5.ne ha) aB (by show 1<=1000000;decide) (.cons (.str _) .nil)) ⟨lf,c2⟩ hpos (by show 1+1<=2*left.length;omega)
    rw[if_neg c2];exact go
   rw[if_neg c1];exact go
  subst hk;refine aU fun k hk=>?_;push_cast;refine cF fun R3 hR3=>?_;push_cast [el5];obtain⟨pat,xat,yat⟩:=tss5.stN (lf.lt _ mat);refine bQ (fun k=>(bh ss k).2.2≠(bh ss at0).2.2) (fun τ=>∃o0,τ=[o0,some (.ref sa),some (.int (at0:Int))]) hR3 el5 ll ⟨_,rfl⟩ ?_ ?_
  ·rintro i k' τ acc Pn hk' ⟨o0,rfl⟩ h1 h2;obtain⟨sk,x1,y1⟩:=tss5.stN (lf.lt _ (mem_of_getElem? hk'));push_cast [es5,x1,y1,xat,yat];by_cases c:(bh ss k').2.2=(bh ss at0).2.2
   ·rw[decide_eq_true c,Bool.not_true,if_neg δ];exact h2 (by simpa using c) _ ⟨_,rfl⟩
   rw[decide_eq_false c,Bool.not_false,if_pos rfl];exact h1 (by simpa using c) _ ⟨_,rfl⟩
  intro d6 hd6;have s6:=au (o:=HO.lst (nv (left.filter fun k=>(bh ss k).2.2≠(bh ss at0).2.2))) hd6;have ok6:=tp5.ne hd6;have tp6:=tp5.same s6;have el6:=s6 _ _ el5;have es6:=s6 _ _ es5;have tss6:=tss5.same s6;have sx6:=sx5.trans s6.x;have e56:=s6 _ _ e5;have tS6:=tS5.same s6;have tL6:=tL5.same s6;have yat6:=s6 _ _ yat;have e6:upd H5 d6 (HO.lst (nv (left.filter fun k=>(bh ss k).2.2≠(bh ss at0).2.2))) d6=_:=aB;generalize upd H5 d6 (HO.lst (nv (left.filter fun k=>(bh ss k).2.2≠(bh ss at0).2.2)))=H6 at s6 tp6 el6 es6 tss6 sx6 e56 tS6 tL6 yat6 e6 |-;clear tp5 el5 es5 tss5 sx5 hd6 e5 tS5 tL5 s6 yat;subst hk;refine aU fun k hk=>?_;push_cast
  suffices go:∀H7,Same H6 H7->k [some (V.ref p),some (V.ref sa),some (V.ref la),some (V.ref d),some (V.int way),some (V.int (at0:Int)),some (V.ref d5),some (V.ref d6),none,none,none] H7 by
   by_cases c1:way<4
   ·rw[if_pos c1];refine⟨aQ δ,fun a ha=>?_⟩;have s7:=au (o:=HO.lst []) ha;have e7:=s7 _ _ e6;have tS7:=tS6.same s7;have tL7:=tL6.same s7;have es7:=s7 _ _ es6;have yat7:=s7 _ _ yat6;have tp7:=tp6.same s7;have go:=go _ s7;have sx7:=sx6.trans s7.x;generalize upd H6 a (HO.lst [])=H7 at s7 e7 tS7 tL7 es7 yat7 tp7 go sx7 |-;push_cast [e7];refine⟨jB _,rfl,?_⟩;have hlt:(left.filter fun k=>(bh ss k).2.2≠(bh ss at0).2.2).length<left.length:=Ao mat (by simp);by_cases c2:left.filter (fun k=>(bh ss k).2.2≠(bh ss at0).2.2)=[]
    ·rw[c2,if_neg δ];exact go
    rw[MK c2,Bool.not_false,if_pos rfl];have lfo:=lf.Kd c2;generalize hO:left.filter (fun k=>(bh ss k).2.2≠(bh ss at0).2.2)=others at hlt lfo e7 c2;refine⟨_,_,_,ss,left,rfl,tS7,tL7,lf,_,rfl,?_⟩;by_cases c3:fY ss left<=64
    ·rw[if_pos c3];push_cast [es7,xat,yat7];refine⟨p,_,_,B+4,ss,others,rfl,tp7,ω,ω,tS7,bf ok6 e7 ω,lfo,ω,ω,fun v pl H8 s8 tp8 t8 pok8 dep8 siz8=>?_⟩;refine⟨aQ δ,fun a8 ha8=>?_⟩;have s9:=au (o:=HO.tup [V.str "mask",V.int (bh ss at0).2.2,v]) ha8;refine q _ (.msk (bh ss at0).2.2 pl) _ ((sx7.trans s8).trans s9.x) ((tp8.same s9).le ω) (.tup (tp8.ne ha8) aB (by show 3<=1000000;decide) (.cons (.str _) (.cons (.int _) (.cons (t8.same s9) .nil)))) ⟨⟨lf,c3,at0,mat,rfl⟩,?_⟩ (by show dI pl+1<left.length;omega) (by show cD pl+1+1<=2*left.length;omega);rw[hO];exact pok8
    rw[if_neg c3];exact go
   rw[if_neg c1];exact go _ (Same.refl _)
  intro H7 s7;have e7:=s7 _ _ e56;have tS7:=tS6.same s7;have tL7:=tL6.same s7;have es7:=s7 _ _ es6;have el7:=s7 _ _ el6;have yat7:=s7 _ _ yat6;have tp7:=tp6.same s7;have sx7:=sx6.trans s7.x;have tss7:=tss6.same s7;clear e56 tS6 tL6 es6 el6 yat6 tp6 sx6 e6 s7 tss6;subst hk;refine aU fun k hk=>?_;refine mD fun kt ke hkt hke=>?_;push_cast;by_cases c1:way<6
  ·rw[if_pos c1];subst hkt;refine aU fun k2 hk2=>?_;push_cast [es7,xat,yat7];obtain⟨sg,hsg,sg0,sg1⟩:∃sg:Int,sg=(if (bh ss at0).1=(bh ss at0).2.1 then 1 else 0)/\0<=sg/\sg<=1:=by
    refine⟨_,rfl,?_,?_⟩ <;> split <;> decide
   rw[<- hsg];subst hk2;refine aU fun k2 hk2=>?_;push_cast;refine⟨aQ δ,fun a8 ha8=>?_⟩;have s8:=au (o:=HO.lst [V.str "within",V.str "is"]) ha8;have n8:=tp7.ne ha8;have tp8:=tp7.same s8;have e8:upd H7 a8 (HO.lst [V.str "within",V.str "is"]) a8=_:=aB;generalize upd H7 a8 (HO.lst [V.str "within",V.str "is"])=H8 at s8 tp8 e8 |-;refine⟨p,2,B+4,rfl,tp8,by show B+4+2<=1000100;omega,δ,δ,δ,fun z=>absurd z δ,fun r9 H9 r90 r91 s9 tp9=>?_⟩;have e9:=s9 _ _ n8 e8;push_cast;obtain⟨wd,hwd,awd⟩:∃wd:Str,(wd = "within" \/ (wd = "is" /\ sg=1))/\atI [V.str "within",V.str "is"] (sg*r9)=some (.str wd):=by
    clear hsg;have:sg=0\/sg=1:=by omega
    rcases this with rfl|rfl
    ·rw[Int.zero_mul];exact⟨"within",.inl rfl,rfl⟩
    rw[Int.one_mul];have:r9=0\/r9=1:=by omega
    rcases this with rfl|rfl
    ·exact⟨"within",.inl rfl,rfl⟩
    exact⟨"is",.inr ⟨rfl,rfl⟩,rfl⟩
   refine⟨.inl ⟨ω,ω⟩,?_⟩;push_cast [e9,awd];subst hk2;push_cast;have s79:=s8.x.trans s9;have lfr:=lf.rest h2 at0;have hlt:(left.filter (·≠at0)).length<left.length:=Ao mat (by simp);have e79:=s79 _ _ ok5 e7;refine⟨p,_,_,B+6,ss,left.filter (·≠at0),rfl,tp9.le (by show B+4+2<=B+6;omega),ω,ω,tS7.cL s79,bf ok5 e79 ω,lfr,ω,ω,fun v pl H10 s10 tp10 t10 pok10 dep10 siz10=>?_⟩;refine⟨aQ δ,fun a11 ha11=>?_⟩;have s11:=au (o:=HO.tup [V.str wd,V.int (at0:Int),v]) ha11;have sxf:=((sx7.trans s79).trans s10).trans s11.x;rcases hwd with rfl|⟨rfl,hs1⟩
   ·exact q _ (.wit at0 pl) _ sxf ((tp10.same s11).le ω) (.tup (tp10.ne ha11) aB (by show 3<=1000000;decide) (.cons (.str _) (.cons (.int _) (.cons (t10.same s11) .nil)))) ⟨⟨lf,mat⟩,pok10⟩ (by show dI pl+1<left.length;omega) (by show cD pl+1+1<=2*left.length;omega)
   exact q _ (.one at0 pl) _ sxf ((tp10.same s11).le ω) (.tup (tp10.ne ha11) aB (by show 3<=1000000;decide) (.cons (.str _) (.cons (.int _) (.cons (t10.same s11) .nil)))) ⟨⟨lf,mat,(by rw[hs1] at hsg;split at hsg;assumption;cases hsg)⟩,pok10⟩ (by show dI pl+1<left.length;omega) (by show cD pl+1+1<=2*left.length;omega)
  rw[if_neg c1];subst hke;push_cast;subst hk;refine aU fun k hk=>?_;push_cast [el7];intro a8 ha8;have hcut:jj (nv left) (some 1) none=nv (left.drop 1):=by
   have:=xG (nv left) 1 (by rw[dH];omega);rw[show((1:Nat):Int)=1 from rfl] at this;rw[this];unfold nv;rw[map_drop]
  rw[hcut];have s8:=au (o:=HO.lst (nv (left.drop 1))) ha8;have n8:=tp7.ne ha8;have tp8:=tp7.same s8;have el8:=s8 _ _ el7;have tS8:=tS7.same s8;have sx8:=sx7.trans s8.x;have e8:upd H7 a8 (HO.lst (nv (left.drop 1))) a8=_:=aB;generalize upd H7 a8 (HO.lst (nv (left.drop 1)))=H8 at s8 tp8 e8 el8 tS8 sx8 |-;push_cast [el8,dH];refine⟨p,(left.length:Int)-1,B+4,rfl,tp8,by show B+4+2<=1000100;omega,ω,ω,δ,fun z=>absurd z ω,fun r9 H9 r90 r91 s9 tp9=>?_⟩;have e9:=s9 _ _ n8 e8;have el9:=s9 _ _ okl el8;have tS9:=tS8.cL s9;have sx9:=sx8.trans s9;obtain⟨at1,hat1,_,aat1⟩:=Kz (left:=left.drop 1) r90 (by rw[length_drop];omega);rw[List.getElem?_drop,Nat.add_comm] at hat1;obtain⟨mat1,lfa,lfb⟩:=lf.cuts hat1;have h2l:=w6 at1 left;have hla:=length_pos_iff.mpr lfa.ne;have hlb:=length_pos_iff.mpr lfb.ne;push_cast [e9,aat1];clear s8 tp8 e8 el8 tS8 sx8 sx7 tp7 tss7 es7 el7 tS7 tL7 e7;subst hk;refine aU fun k hk=>?_;push_cast;refine cF fun R4 hR4=>?_;push_cast [el9];refine bQ (· < at1) (fun τ=>∃o0,τ=[o0,some (.int (at1:Int))]) hR4 el9 ll ⟨_,rfl⟩ ?_ ?_
  ·rintro i k' τ acc Pn hk' ⟨o0,rfl⟩ h1 h2;push_cast;by_cases c:k'<at1
   ·rw[if_pos (show((k':Nat):Int)<(at1:Int) by omega)];exact h1 (by simpa using c) _ ⟨_,rfl⟩
   rw[if_neg (show ¬((k':Nat):Int)<(at1:Int) by omega)];exact h2 (by simpa using c) _ ⟨_,rfl⟩
  intro d10 hd10;have s10:=au (o:=HO.lst (nv (left.filter (· < at1)))) hd10;have ok10:=tp9.ne hd10;have e10:upd H9 d10 (HO.lst (nv (left.filter (· < at1)))) d10=_:=aB;have tp10:=tp9.same s10;have tS10:=tS9.same s10;have el10:=s10 _ _ el9;have sx10:=sx9.trans s10.x;generalize upd H9 d10 (HO.lst (nv (left.filter (· < at1))))=H10 at s10 e10 tp10 tS10 el10 sx10 |-;generalize hA:left.filter (· < at1)=LA at lfa h2l hla e10;generalize hBq:left.filter (at1<=·)=LB at lfb h2l hlb;refine⟨p,_,_,B+6,ss,LA,rfl,tp10.le (by show B+4+2<=B+6;omega),ω,ω,tS10,bf ok10 e10 ω,lfa,ω,ω,fun v1 pl1 H11 s11 tp11 t11 pok11 dep11 siz11=>?_⟩;have el11:=s11 _ _ okl el10;have tS11:=tS10.cL s11;have sx11:=sx10.trans s11;clear s10 e10 tp10 tS10 el10 sx10 sx9 tS9 el9 tp9 e9;subst hk;push_cast;refine cF fun R5 hR5=>?_;push_cast [el11];refine bQ (at1<=·) (fun τ=>∃o0,τ=[o0,some (.int (at1:Int))]) hR5 el11 ll ⟨_,rfl⟩ ?_ ?_
  ·rintro i k' τ acc Pn hk' ⟨o0,rfl⟩ h1 h2;push_cast;by_cases c:at1<=k'
   ·rw[if_pos (show(at1:Int)<=((k':Nat):Int) by omega)];exact h1 (by simpa using c) _ ⟨_,rfl⟩
   rw[if_neg (show ¬(at1:Int)<=((k':Nat):Int) by omega)];exact h2 (by simpa using c) _ ⟨_,rfl⟩
  intro d12 hd12;rw[hBq];have s12:=au (o:=HO.lst (nv LB)) hd12;have ok12:=tp11.ne hd12;have e12:upd H11 d12 (HO.lst (nv LB)) d12=_:=aB;have tp12:=tp11.same s12;have tS12:=tS11.same s12;have t12:=t11.same s12;have sx12:=sx11.trans s12.x;generalize upd H11 d12 (HO.lst (nv LB))=H12 at s12 e12 tp12 tS12 t12 sx12 |-;refine⟨p,_,_,_,ss,LB,rfl,tp12,ω,ω,tS12,bf ok12 e12 ω,lfb,ω,ω,fun v2 pl2 H13 s13 tp13 t13 pok13 dep13 siz13=>?_⟩;refine⟨aQ δ,fun a14 ha14=>?_⟩;have s14:=au (o:=HO.tup [V.str "below",V.int (at1:Int),v1,v2]) ha14;refine q _ (.low at1 pl1 pl2) _ ((sx12.trans s13).trans s14.x) ((tp13.same s14).le ω) (.tup (tp13.ne ha14) aB (by show 4<=1000000;decide) (.cons (.str _) (.cons (.int _) (.cons ((t12.cL s13).same s14) (.cons (t13.same s14) .nil))))) ⟨⟨lf,mat1⟩,?_,?_⟩ (by show max (dI pl1) (dI pl2)+1<left.length;omega) (by show cD pl1+cD pl2+1+1<=2*left.length;omega)
  ·rw[hA];exact pok11
  rw[hBq];exact pok13
noncomputable abbrev dz:List Str:=["_law_tape_here","_law_stretches_here","_law_left","_law_plan_here","_law_word","_law_one","_law_other_here","_law_rest"]
noncomputable abbrev bR:Stmt:=top 25
theorem gZ:bK dz q1_ (ak bR):=⟨rfl,rfl,rfl,ψ,rfl,ψ,ψ⟩
theorem jD:NM_ dz bR 0 "_law_tape_here" := .of ψ
theorem jC:NM_ dz bR 1 "_law_stretches_here" := .of ψ
theorem iD:NM_ dz bR 2 "_law_left" := .of ψ
theorem fj:NM_ dz bR 3 "_law_plan_here" := .of ψ
theorem dZ:NM_ dz bR 4 "_law_word" := .of ψ
theorem qT:NM_ dz bR 5 "_law_one" := .of ψ
theorem qR:NM_ dz bR 6 "_law_other_here" := .of ψ
theorem mH:NM_ dz bR 7 "_law_rest" := .of ψ
theorem rH:GI_ bR "_law_span" := by decide +kernel
theorem gB:GI_ bR "_law_tabled" := by decide +kernel
theorem rG:GI_ bR "_law_take" := by decide +kernel
theorem lR:Bn "_law_tabled" := ⟨ψ,ψ⟩
theorem Bm:dN P w K mg base CX0 2 f fd q1_ (ou 0):=by
 have no:∀vs H Q E,¬ou 0 vs H Q E:=fun vs H Q E h=>by
  obtain⟨p,s,l,v,B,ss,left,pl,_,_,_,_,_,_,_,_,h0,_⟩:=h;exact absurd h0 (not_lt_zero _)
 exact⟨fun vs H Q E h=>absurd h (no vs H Q E),fun A outer s H args us vs Q E _ _ _ _ h=>absurd h (no vs H Q E)⟩
theorem JK {n:Nat}(hB:∀x:Str,x∈BLs->mg x=none) (CZTake:Cal P w K mg base "_law_take" 2 q0_ (jd 2)) (CZSpan:Cal P w K mg base "_law_span" 1 q6_ jm) (CZTabled:Cal P w K mg base "_law_tabled" (n+2) q1_ (ou n)) (F:Fun K "_law_tabled" "_law_tabled" bR f fd):dN P w K mg base CX0 (n+3) f fd q1_ (ou (n+1)):=by
 refine F.okq gZ (fun vs H Q E h=>?_) (fun cdv A outer s H vs Q E hr h=>?_)
 ·obtain⟨p,s,l,v,B,ss,left,pl,rfl,_⟩:=h;rfl
 obtain⟨p,s,l,v,B,ss,left,pl,rfl,tp,hB0,hB1,ts,tl,tv,pv,hdep,h60,q⟩:=h;refine⟨_,(aD (bV dZ gZ.nd (aH aR (ao fj) aq (fun _ _=>rfl)) rfl (.inl rfl))
  (aD (bM (je (fZ (aK (bF hr.aP) (ao dZ) bT (aG _)) (fK (je (j6 (aK (bF hr.aP) (ao dZ) bT (aG _)) (jy (je (fZ (aK qI (aX CZTake (hr.mono ω) rG bO (aj (ao jD) (aj aq aA rfl) rfl) rfl rfl) aq (aG _)) (fK (aK qI (aX CZSpan (hr.mono ω) rH nR (aj (ao jC) (aj (ao iD) aA rfl) rfl) rfl rfl) aq (aG _))))))))))) (aL (aO (ao fj))) bx)
  (aD (bM (aK (bF hr.aP) (ao dZ) bT (aG _)) (aL (aO (b8 (aj bT aA rfl)))) bx)
  (aD (bM (aK (bF hr.aP) (ao dZ) bT (aG _)) (aD (bV qT gZ.nd (aX CZTabled (hr.mono ω) gB lR (aj (ao jD) (aj (ao jC) (aj (cX (NX:=dz) (kX:=(ak bR).names) q14_ [none,some 3] rfl rfl ⟨rfl,ψ,ψ,ψ,ψ⟩ rfl (b7 (ao iD)) (fun _ _ _ _ _=>(bI 0 (show List.Nodup (["_law_k","_law_plan_here"]:List Str) from by decide +kernel) rfl (Or.inl rfl))) (fun _ _ _ _ _=>(eH (aK iY (aW 0) (aH aR (aW 1) aq (fun _ _=>rfl)) (aG _)))) (fun _ _ _ _ _=>(aW 0))) (aj (aH aR (ao fj) aq (fun _ _=>rfl)) aA rfl) rfl) rfl) rfl) rfl rfl) rfl (.inl rfl))
  (aD (bV qR gZ.nd (aX CZTabled (hr.mono ω) gB lR (aj (ao jD) (aj (ao jC) (aj (cX (NX:=dz) (kX:=(ak bR).names) q14_ [none,some 3] rfl rfl ⟨rfl,ψ,ψ,ψ,ψ⟩ rfl (b7 (ao iD)) (fun _ _ _ _ _=>(bI 0 (show List.Nodup (["_law_k","_law_plan_here"]:List Str) from by decide +kernel) rfl (Or.inl rfl))) (fun _ _ _ _ _=>(eH (aK zZ (aW 0) (aH aR (aW 1) aq (fun _ _=>rfl)) (aG _)))) (fun _ _ _ _ _=>(aW 0))) (aj (aH aR (ao fj) aq (fun _ _=>rfl)) aA rfl) rfl) rfl) rfl) rfl rfl) rfl (.inl rfl))
  (aL (aO (b8 (aj (ao dZ) (aj (aH aR (ao fj) aq (fun _ _=>rfl)) (aj (ao qT) (aj (ao qR) aA rfl) rfl) rfl) rfl)))))) bx)
  (aD (bM (aK (bF hr.aP) (ao dZ) bT (aG _)) (aL (lG (NX:=dz) (kX:=(ak bR).names) ["_law_k","_law_plan_here","_law_stretches_here"] [none,some 3,some 1] mH gZ.nd rfl rfl ⟨rfl,ψ,ψ,ψ,ψ⟩ rfl (b7 (ao iD)) (fun _ _ _ _ _=>(bI 0 (show List.Nodup (["_law_k","_law_plan_here","_law_stretches_here"]:List Str) from by decide +kernel) rfl (Or.inl rfl))) (fun _ _ _ _ _=>(eH (aK (dY hr.aP) (aH aR (aH aR (aW 2) (aW 0) (fun _ _=>rfl)) aq (fun _ _=>rfl)) (aH aR (aW 1) aq (fun _ _=>rfl)) (aG _)))) (fun _ _ _ _ _=>(aW 0)))) (aL (lG (NX:=dz) (kX:=(ak bR).names) q14_ [none,some 3] mH gZ.nd rfl rfl ⟨rfl,ψ,ψ,ψ,ψ⟩ rfl (b7 (ao iD)) (fun _ _ _ _ _=>(bI 0 (show List.Nodup (["_law_k","_law_plan_here"]:List Str) from by decide +kernel) rfl (Or.inl rfl))) (fun _ _ _ _ _=>(eH (aK (dY hr.aP) (aW 0) (aH aR (aW 1) aq (fun _ _=>rfl)) (aG _)))) (fun _ _ _ _ _=>(aW 0)))))
  (aL (aO (b8 (aj (ao dZ) (aj (aH aR (ao fj) aq (fun _ _=>rfl)) (aj (aX CZTabled (hr.mono ω) gB lR (aj (ao jD) (aj (ao jC) (aj (ao mH) (aj (aH aR (ao fj) aq (fun _ _=>rfl)) aA rfl) rfl) rfl) rfl) rfl rfl) aA rfl) rfl) rfl))))))))),?_⟩
 have tl0:=tl;obtain⟨la,rfl,okl,el,ll⟩:=tl.left;replace el:H la=some (.lst (nv left)):=el;have lf:=pv.here.1;have tv0:=tv;have hone:∀(wd:Str)(k0:PyData)(x0:V)(r:Pl)(L:List Nat),En k0=some x0->plD pl=.tuple [.str wd,k0,plD r]->dI pl=dI r+1->cD pl=cD r+1->∃pa va,v=.ref pa/\H pa=some (.tup [.str wd,x0,va])/\aF (·≠p) H va (plD r):=by
  intro wd k0 x0 r L h0 he _ _;rw[he] at tv0;obtain⟨pa',xs,rfl,ex,txs⟩:=aF.yd tv0;obtain⟨y0,rr,rfl,t0,txs⟩:=txs.ju;obtain⟨y1,rr,rfl,t1,txs⟩:=txs.ju;obtain⟨y2,rr,rfl,t2,txs⟩:=txs.ju;obtain rfl:rr=[]:=length_eq_zero_iff.mp txs.length;cases t0;rw[t1.sc2 h0] at ex;exact⟨pa',y2,rfl,ex,t2⟩
 cases pl with
 | tab=>
  obtain⟨pa,pys,rfl,epa,hword⟩:=tv.Fy;replace hword:atI pys 0=some (V.str "table"):=hword;push_cast [epa,hword,rdW];exact q _ .tab H (cg.refl _ _) (tp.le ω) tv0 pv rfl
 | pick m=>
  obtain⟨pa,pys,rfl,epa,hword⟩:=tv.Fy;replace hword:atI pys 0=some (V.str "pick"):=hword;refine aU fun k hk=>?_;push_cast [epa,hword,rdW];subst hk;refine aU fun k hk=>?_;push_cast [rdW];refine⟨p,8,B,rfl,tp,by show B+2<=1000100;simp only[cD] at hB1;omega,δ,δ,δ,fun z=>absurd z δ,fun r1 H1 r10 r11 s1 tp1=>?_⟩;have tp1':=tp1.le (show B+((2:Nat):Int)<=B+2*((cD (.pick m):Nat):Int) by simp only[cD];omega);push_cast;have hsame:Q (.ref pa) H1:=q _ (.pick m) H1 s1 tp1' (tv0.cL s1) pv rfl;split
  ·exact hsame
  refine⟨_,_,(·≠p),ss,left,rfl,ts.cL s1,tl0.cL s1,lf,?_⟩;push_cast;split
  ·exact hsame
  rename_i c2;subst hk;push_cast [rdW];refine⟨aQ δ,fun a2 ha2=>?_⟩;have s2:=au (o:=HO.tup [V.str "table"]) ha2;exact q _ .tab _ (s1.trans s2.x) (tp1'.same s2) (.tup (tp1.ne ha2) aB (by show 1<=1000000;decide) (.cons (.str _) .nil)) ⟨lf,by show fY ss left<=200;omega⟩ rfl
 | one k0 r=>
  obtain⟨pa,va,rfl,epa,tva⟩:=hone "is" _ _ r left (show En (.int (k0:Int))=some (.int (k0:Int)) from rfl) rfl rfl rfl;refine aU fun k hk=>?_;push_cast [epa];subst hk;refine aU fun k hk=>?_;push_cast [rdW];subst hk;refine aU fun k hk=>?_;push_cast [rdW];subst hk;refine aU fun k hk=>?_;push_cast [rdW];subst hk;refine aU fun k hk=>?_;refine mD fun kt ke hkt hke=>?_;push_cast [rdW];subst hke;push_cast;refine cF fun R hR=>?_;push_cast [el];refine bQ (·≠k0) (fun τ=>∃o0,τ=[o0,some (.ref pa)]) hR el ll ⟨_,rfl⟩ ?_ ?_
  ·rintro i k' τ acc Pn hk' ⟨o0,rfl⟩ h1 h2;push_cast [epa];by_cases c:k'=k0
   ·subst c;rw[decide_eq_true (show((k':Nat):Int)=(k':Int) from rfl),Bool.not_true,if_neg δ];exact h2 (by simp) _ ⟨_,rfl⟩
   rw[decide_eq_false (show ¬((k':Nat):Int)=(k0:Int) by omega),Bool.not_false,if_pos rfl];exact h1 (by simpa using c) _ ⟨_,rfl⟩
  intro d hd;have s1:=au (o:=HO.lst (nv (left.filter (·≠k0)))) hd;have nd:=tp.ne hd;have e1:upd H d (HO.lst (nv (left.filter (·≠k0)))) d=_:=aB;have epa1:=s1 _ _ epa;generalize upd H d (HO.lst (nv (left.filter (·≠k0))))=H1 at s1 e1 epa1 |-;subst hk;push_cast [epa1];simp only[dI] at hdep;simp only[cD] at hB1 q;refine⟨p,_,_,_,B+2,ss,left.filter (·≠k0),r,rfl,(tp.same s1).le ω,ω,ω,ts.same s1,bf nd e1 (le_trans (length_filter_le _ _) ll),tva.same s1,pv.2,ω,h60,fun v' pl' H2 s2 tp2 t2 pv2 hsz2=>?_⟩;push_cast;refine⟨aQ δ,fun a3 ha3=>?_⟩;have s3:=au (o:=HO.tup [V.str "is",V.int (k0:Int),v']) ha3;exact q _ (.one k0 pl') _ ((s1.x.trans s2).trans s3.x) ((tp2.same s3).le ω) (.tup (tp2.ne ha3) aB (by show 3<=1000000;decide) (.cons (.str _) (.cons (.int _) (.cons (t2.same s3) .nil)))) ⟨pv.1,pv2⟩ (by show cD pl'+1=_;rw[hsz2])
 | wit k0 r=>
  obtain⟨pa,va,rfl,epa,tva⟩:=hone "within" _ _ r left (show En (.int (k0:Int))=some (.int (k0:Int)) from rfl) rfl rfl rfl;refine aU fun k hk=>?_;push_cast [epa];subst hk;refine aU fun k hk=>?_;push_cast [rdW];subst hk;refine aU fun k hk=>?_;push_cast [rdW];subst hk;refine aU fun k hk=>?_;push_cast [rdW];subst hk;refine aU fun k hk=>?_;refine mD fun kt ke hkt hke=>?_;push_cast [rdW];subst hke;push_cast;refine cF fun R hR=>?_;push_cast [el];refine bQ (·≠k0) (fun τ=>∃o0,τ=[o0,some (.ref pa)]) hR el ll ⟨_,rfl⟩ ?_ ?_
  ·rintro i k' τ acc Pn hk' ⟨o0,rfl⟩ h1 h2;push_cast [epa];by_cases c:k'=k0
   ·subst c;rw[decide_eq_true (show((k':Nat):Int)=(k':Int) from rfl),Bool.not_true,if_neg δ];exact h2 (by simp) _ ⟨_,rfl⟩
   rw[decide_eq_false (show ¬((k':Nat):Int)=(k0:Int) by omega),Bool.not_false,if_pos rfl];exact h1 (by simpa using c) _ ⟨_,rfl⟩
  intro d hd;have s1:=au (o:=HO.lst (nv (left.filter (·≠k0)))) hd;have nd:=tp.ne hd;have e1:upd H d (HO.lst (nv (left.filter (·≠k0)))) d=_:=aB;have epa1:=s1 _ _ epa;generalize upd H d (HO.lst (nv (left.filter (·≠k0))))=H1 at s1 e1 epa1 |-;subst hk;push_cast [epa1];simp only[dI] at hdep;simp only[cD] at hB1 q;refine⟨p,_,_,_,B+2,ss,left.filter (·≠k0),r,rfl,(tp.same s1).le ω,ω,ω,ts.same s1,bf nd e1 (le_trans (length_filter_le _ _) ll),tva.same s1,pv.2,ω,h60,fun v' pl' H2 s2 tp2 t2 pv2 hsz2=>?_⟩;push_cast;refine⟨aQ δ,fun a3 ha3=>?_⟩;have s3:=au (o:=HO.tup [V.str "within",V.int (k0:Int),v']) ha3;exact q _ (.wit k0 pl') _ ((s1.x.trans s2).trans s3.x) ((tp2.same s3).le ω) (.tup (tp2.ne ha3) aB (by show 3<=1000000;decide) (.cons (.str _) (.cons (.int _) (.cons (t2.same s3) .nil)))) ⟨pv.1,pv2⟩ (by show cD pl'+1=_;rw[hsz2])
 | msk m r=>
  obtain⟨pa,va,rfl,epa,tva⟩:=hone "mask" _ _ r left (show En (.int m)=some (.int m) from rfl) rfl rfl rfl;refine aU fun k hk=>?_;push_cast [epa];subst hk;refine aU fun k hk=>?_;push_cast [rdW];subst hk;refine aU fun k hk=>?_;push_cast [rdW];subst hk;refine aU fun k hk=>?_;push_cast [rdW];subst hk;refine aU fun k hk=>?_;refine mD fun kt ke hkt hke=>?_;push_cast [rdW];subst hkt;push_cast;refine cF fun R hR=>?_;push_cast [el];have ts0:=ts;cases ts with
  | lst os es zs tss=>
  rename_i sa xs;refine bQ (fun k=>(bh ss k).2.2≠m) (fun τ=>∃o0,τ=[o0,some (.ref pa),some (.ref sa)]) hR el ll ⟨_,rfl⟩ ?_ ?_
  ·rintro i k' τ acc Pn hk' ⟨o0,rfl⟩ h1 h2;obtain⟨sk,x1,y1⟩:=tss.stN (lf.lt _ (mem_of_getElem? hk'));push_cast [epa,es,x1,y1];by_cases c:(bh ss k').2.2=m
   ·rw[decide_eq_true c,Bool.not_true,if_neg δ];exact h2 (by simpa using c) _ ⟨_,rfl⟩
   rw[decide_eq_false c,Bool.not_false,if_pos rfl];exact h1 (by simpa using c) _ ⟨_,rfl⟩
  intro d hd;have s1:=au (o:=HO.lst (nv (left.filter fun k=>(bh ss k).2.2≠m))) hd;have nd:=tp.ne hd;have e1:upd H d (HO.lst (nv (left.filter fun k=>(bh ss k).2.2≠m))) d=_:=aB;have epa1:=s1 _ _ epa;generalize upd H d (HO.lst (nv (left.filter fun k=>(bh ss k).2.2≠m)))=H1 at s1 e1 epa1 |-;subst hk;push_cast [epa1];simp only[dI] at hdep;simp only[cD] at hB1 q;refine⟨p,_,_,_,B+2,ss,left.filter (fun k=>(bh ss k).2.2≠m),r,rfl,(tp.same s1).le ω,ω,ω,ts0.same s1,bf nd e1 (le_trans (length_filter_le _ _) ll),tva.same s1,pv.2,ω,h60,fun v' pl' H2 s2 tp2 t2 pv2 hsz2=>?_⟩;push_cast;refine⟨aQ δ,fun a3 ha3=>?_⟩;have s3:=au (o:=HO.tup [V.str "mask",V.int m,v']) ha3;exact q _ (.msk m pl') _ ((s1.x.trans s2).trans s3.x) ((tp2.same s3).le ω) (.tup (tp2.ne ha3) aB (by show 3<=1000000;decide) (.cons (.str _) (.cons (.int _) (.cons (t2.same s3) .nil)))) ⟨pv.1,pv2⟩ (by show cD pl'+1=_;rw[hsz2])
 | low k0 a b=>
  obtain⟨pa,xs,rfl,epa,txs⟩:=aF.yd (show aF (·≠p) H v (.tuple [.str "below",.int (k0:Int),plD a,plD b]) from tv);obtain⟨y0,rr,rfl,t0,txs⟩:=txs.ju;obtain⟨y1,rr,rfl,t1,txs⟩:=txs.ju;obtain⟨va,rr,rfl,tva,txs⟩:=txs.ju;obtain⟨vb,rr,rfl,tvb,txs⟩:=txs.ju;obtain rfl:rr=[]:=length_eq_zero_iff.mp txs.length;cases t0;cases t1;simp only[dI] at hdep;simp only[cD] at hB1 q;have hpa:=wk a;have hpb:=wk b;refine aU fun k hk=>?_;push_cast [epa];subst hk;refine aU fun k hk=>?_;push_cast [rdW];subst hk;refine aU fun k hk=>?_;push_cast [rdW];subst hk;refine aU fun k hk=>?_;refine mD fun kt ke hkt hke=>?_;push_cast [rdW];subst hkt;refine aU fun k2 hk2=>?_;push_cast;refine cF fun R hR=>?_;push_cast [el];refine bQ (· < k0) (fun τ=>∃o0,τ=[o0,some (.ref pa)]) hR el ll ⟨_,rfl⟩ ?_ ?_
  ·rintro i k' τ acc Pn hk' ⟨o0,rfl⟩ h1 h2;push_cast [epa];by_cases c:k'<k0
   ·rw[if_pos (show((k':Nat):Int)<(k0:Int) by omega)];exact h1 (by simpa using c) _ ⟨_,rfl⟩
   rw[if_neg (show ¬((k':Nat):Int)<(k0:Int) by omega)];exact h2 (by simpa using c) _ ⟨_,rfl⟩
  intro d hd;have s1:=au (o:=HO.lst (nv (left.filter (· < k0)))) hd;have nd:=tp.ne hd;have e1:upd H d (HO.lst (nv (left.filter (· < k0)))) d=_:=aB;have epa1:=s1 _ _ epa;generalize upd H d (HO.lst (nv (left.filter (· < k0))))=H1 at s1 e1 epa1 |-;push_cast [epa1];refine⟨p,_,_,_,B+2,ss,left.filter (· < k0),a,rfl,(tp.same s1).le ω,ω,ω,ts.same s1,bf nd e1 (le_trans (length_filter_le _ _) ll),tva.same s1,pv.2.1,ω,h60,fun v1 pl1 H2 s2 tp2 t2 pv2 hsz2=>?_⟩;have sx2:=s1.x.trans s2;have el2:=sx2 _ _ okl el;have npa:=tp.net epa;have epa2:=sx2 _ _ npa epa;push_cast;subst hk2;refine aU fun k2 hk2=>?_;push_cast;refine cF fun R3 hR3=>?_;push_cast [el2];refine bQ (k0<=·) (fun τ=>∃o0,τ=[o0,some (.ref pa)]) hR3 el2 ll ⟨_,rfl⟩ ?_ ?_
  ·rintro i k' τ acc Pn hk' ⟨o0,rfl⟩ h1 h2;push_cast [epa2];by_cases c:k0<=k'
   ·rw[if_pos (show(k0:Int)<=((k':Nat):Int) by omega)];exact h1 (by simpa using c) _ ⟨_,rfl⟩
   rw[if_neg (show ¬(k0:Int)<=((k':Nat):Int) by omega)];exact h2 (by simpa using c) _ ⟨_,rfl⟩
  intro d3 hd3;have s3:=au (o:=HO.lst (nv (left.filter (k0<=·)))) hd3;have nd3:=tp2.ne hd3;have e3:upd H2 d3 (HO.lst (nv (left.filter (k0<=·)))) d3=_:=aB;have epa3:=s3 _ _ epa2;have sx3:=sx2.trans s3.x;have tp3:=tp2.same s3;have t13:=t2.same s3;generalize upd H2 d3 (HO.lst (nv (left.filter (k0<=·))))=H3 at s3 e3 epa3 sx3 tp3 t13 |-;push_cast [epa3];refine⟨p,_,_,_,_,ss,left.filter (k0<=·),b,rfl,tp3,ω,ω,ts.cL sx3,bf nd3 e3 (le_trans (length_filter_le _ _) ll),tvb.cL sx3,pv.2.2,ω,h60,fun v2 pl2 H4 s4 tp4 t4 pv4 hsz4=>?_⟩;have epa4:=s4 _ _ npa epa3;push_cast;subst hk2;push_cast [epa4];refine⟨aQ δ,fun a5 ha5=>?_⟩;have s5:=au (o:=HO.tup [V.str "below",V.int (k0:Int),v1,v2]) ha5;exact q _ (.low k0 pl1 pl2) _ ((sx3.trans s4).trans s5.x) ((tp4.same s5).le ω) (.tup (tp4.ne ha5) aB (by show 4<=1000000;decide) (.cons (.str _) (.cons (.int _) (.cons ((t13.cL s4).same s5) (.cons (t4.same s5) .nil))))) ⟨pv.1,pv2,pv4⟩ (by show cD pl1+cD pl2+1=_;rw[hsz2,hsz4])
end
noncomputable abbrev uD:List Str:=["thing"]
noncomputable abbrev dO:Stmt:=top 1
theorem yh:bK uD ["thing"] (ak dO):=⟨rfl,rfl,rfl,ψ,rfl,ψ,ψ⟩
theorem pK:NM_ uD dO 0 "thing" := .of ψ
theorem rO:GI_ dO "bool" := by decide +kernel
theorem tG:GI_ dO "int" := by decide +kernel
theorem gM:GI_ dO "isinstance" := by decide +kernel
theorem zm:Bn "is_number" := ⟨ψ,ψ⟩
noncomputable abbrev jO:List Str:=["stretches","left","label"]
noncomputable abbrev cQ:Stmt:=top 7
theorem vX:bK jO q10_ (ak cQ):=⟨rfl,rfl,rfl,ψ,rfl,ψ,ψ⟩
theorem uZ:NM_ jO cQ 0 "stretches" := .of ψ
theorem nu:NM_ jO cQ 1 "left" := .of ψ
theorem uY:NM_ jO cQ 2 "label" := .of ψ
theorem jV:GI_ cQ "labels_left" := by decide +kernel
theorem rK:GI_ cQ "len" := by decide +kernel
theorem xQ:Bn "parts_some" := ⟨ψ,ψ⟩
noncomputable abbrev lW:List Str:=["stretches","left","thing","word","which"]
noncomputable abbrev cI:Stmt:=top 8
theorem qF:bK lW q11_ (ak cI):=⟨rfl,rfl,rfl,ψ,rfl,ψ,ψ⟩
theorem iw:NM_ lW cI 0 "stretches" := .of ψ
theorem fC:NM_ lW cI 1 "left" := .of ψ
theorem dR:NM_ lW cI 2 "thing" := .of ψ
theorem gw:NM_ lW cI 3 "word" := .of ψ
theorem gq:NM_ lW cI 4 "which" := .of ψ
theorem mU:GI_ cI "MOST_IN_MASK" := by decide +kernel
theorem lZ:GI_ cI "MOST_IN_TABLE" := by decide +kernel
theorem pA:GI_ cI "is_number" := by decide +kernel
theorem mR:GI_ cI "isinstance" := by decide +kernel
theorem mV:GI_ cI "labels_left" := by decide +kernel
theorem d8:GI_ cI "len" := by decide +kernel
theorem gb:GI_ cI "numbers_across" := by decide +kernel
theorem nP:GI_ cI "parts_some" := by decide +kernel
theorem tD:GI_ cI "tuple" := by decide +kernel
theorem Hu:Bn "is_step" := ⟨ψ,ψ⟩
theorem Ay (left:List Nat):jj (nv left) (some 1) none=nv (left.drop 1):=by
 unfold jj;have e2:HT.sIx (nv left).length (nv left).length none=(nv left).length:=rfl;rw[e2];cases left with
 | nil=>rfl
 | cons a r=>
  have e1:HT.sIx (nv (a::r)).length 0 (some 1)=1:=by
   simp only[HT.sIx,dH,length_cons];split
   ·omega
   omega
  rw[e1];show(((nv (a::r)).drop 1).take _)=nv r;rw[take_of_length_le (by rw[length_drop];exact le_refl _)];rfl
theorem oX (k:Nat)(left:List Nat):inV (V.int (k:Int)) (nv left)=left.contains k:=J8 k left
section
variable {P:Program}{w:World}{K:PySem.W.Frag}{mg:Str->Option Value}{base:Heap}{f:Addr}{fd:FuncData}{bs:List Str}{ckMostInMask ckMostInTable:Tok}
theorem Gi (hB:∀x:Str,x∈BLs->mg x=none) (F:Fun K "is_number" "is_number" dO f fd):dN P w K mg base CX0 1 f fd ["thing"] Ea:=by
 refine F.okq yh (fun vs H Q E h=>?_) (fun cdv A outer s H vs Q E hr h=>?_)
 ·obtain⟨v,ok,d,rfl,_⟩:=h;rfl
 obtain⟨v,ok,d,rfl,t,q⟩:=h;refine⟨_,(aL (aO (jA (bN fD gM (hB "isinstance" cM) boot_isinstance cN (aj (ao pK) (aj (pG "int" tG (hB "int" rB) boot_int rT) aA rfl) rfl) rfl rfl) (jz (Li (bN fD gM (hB "isinstance" cM) boot_isinstance cN (aj (ao pK) (aj (pG "bool" rO (hB "bool" vg) boot_bool vH) aA rfl) rfl) rfl rfl)))))),?_⟩;cases t with
 | non=>push_cast;exact q
 | bl b=>push_cast;exact q
 | int i=>push_cast;exact q
 | str x=>push_cast;exact q
 | lst o e z t=>push_cast [e];exact q
 | tup o e z t=>push_cast [e];exact q
theorem Gd (hB:∀x:Str,x∈BLs->mg x=none) (CLabelsLeft:Cal P w K mg base "labels_left" 1 q8_ yg) (F:Fun K "parts_some" "parts_some" cQ f fd):dN P w K mg base CX0 2 f fd q10_ zM:=by
 refine F.okq vX (fun vs H Q E h=>?_) (fun cdv A outer s H vs Q E hr h=>?_)
 ·obtain⟨s,l,ok,ss,left,m,rfl,_⟩:=h;rfl
 obtain⟨s,l,ok,ss,left,m,rfl,ts,tl,lf,hl9,q⟩:=h;refine⟨_,(aL (aO (Ft iY iY aq (qm K hr.un1 (aX CLabelsLeft (hr.mono δ) jV nT (aj (ao uZ) (aj (ao nu) aA rfl) rfl) rfl rfl) (ao uY)) (bN aY rK (hB "len" cj) PySem.boot_len cu (aj (ao nu) aA rfl) rfl rfl)))),?_⟩;obtain⟨la,rfl,okl,el,ll⟩:=tl.left;replace el:H la=some (.lst (nv left)):=el;push_cast;refine⟨s,_,ok,ss,left,rfl,ts,tl,lf,fun a ha=>?_⟩;have s1:=au (o:=HO.lst ((left.map (lbl ss)).map V.int)) ha;have e1:upd H a (HO.lst ((left.map (lbl ss)).map V.int)) a=_:=aB;generalize upd H a (HO.lst ((left.map (lbl ss)).map V.int))=H1 at s1 e1 |-;have el1:=s1 _ _ el;push_cast [el1];refine⟨⟨_,SqL.of e1⟩,_,SqL.of e1,_,.inl ⟨_,_,rfl,rfl,rfl⟩,?_⟩;have qq:=q _ s1;rw[dH];split
 ·rename_i c;rw[decide_eq_true (show 0<dM ss left m from by have:(0:Int)<((left.map (lbl ss)).count m:Nat):=c;unfold dM;omega),Bool.true_and] at qq;rw[show decide ((((left.map (lbl ss)).count m:Nat):Int)<(left.length:Int))=decide (dM ss left m<left.length) from decide_eq_decide.mpr Int.ofNat_lt];exact qq
 rename_i c;rw[decide_eq_false (show ¬0<dM ss left m from by have:¬(0:Int)<((left.map (lbl ss)).count m:Nat):=c;unfold dM;omega),Bool.false_and] at qq;exact qq
theorem BV (hB:∀x:Str,x∈BLs->mg x=none) (cgMostInMask:mg "MOST_IN_MASK" = some (.int 64 ckMostInMask)) (cgMostInTable:mg "MOST_IN_TABLE" = some (.int 200 ckMostInTable)) (CIsNumber:Cal P w K mg base "is_number" 1 ["thing"] Ea) (CNumbersAcross:Cal P w K mg base "numbers_across" 1 q8_ jm) (CLabelsLeft:Cal P w K mg base "labels_left" 1 q8_ yg) (CPartsSome:Cal P w K mg base "parts_some" 2 q10_ zM) (F:Fun K "is_step" "is_step" cI f fd):dN P w K mg base CX0 3 f fd q11_ zK:=by
 refine F.okq qF (fun vs H Q E h=>?_) (fun cdv A outer s H vs Q E hr h=>?_)
 ·obtain⟨s,l,p,ok,ss,left,pl,rfl,_⟩:=h;rfl
 obtain⟨s,l,p,ok,ss,left,pl,rfl,ts,tl,tp,lf,q⟩:=h;refine⟨_,(aD (bM (je (fZ (jf (iB (bN fD mR (hB "isinstance" cM) boot_isinstance cN (aj (ao dR) (aj (pG "tuple" tD (hB "tuple" wR) boot_tuple xM) aA rfl) rfl) rfl rfl) (fun _=>rfl))) (fK (jf (Fl (ao dR)))))) (aL (aO fP)) bx)
  (aD (bV gw qF.nd (aH aR (ao dR) aq (fun _ _=>rfl)) rfl (.inl rfl))
  (aD (bM (aK (bF hr.aP) (ao gw) bT (aG _)) (aL (aO (jA (dG (bF hr.aP) (bN aY d8 (hB "len" cj) PySem.boot_len cu (aj (ao dR) aA rfl) rfl rfl) aq (aG _)) (jz (dG wu (aX CNumbersAcross (hr.mono δ) gb jT (aj (ao iw) (aj (ao fC) aA rfl) rfl) rfl rfl) (zV (v:=V.int 200) lZ cgMostInTable ⟨_,rfl⟩ tK) (aG _)))))) bx)
  (aD (bM (je (fZ (aK iY (bN aY d8 (hB "len" cj) PySem.boot_len cu (aj (ao dR) aA rfl) rfl rfl) aq (aG _)) (fK (jf (iB (aX CIsNumber (hr.mono δ) pA zm (aj (aH aR (ao dR) aq (fun _ _=>rfl)) aA rfl) rfl rfl) (fun _=>rfl)))))) (aL (aO fP)) bx)
  (aD (bV gq qF.nd (aH aR (ao dR) aq (fun _ _=>rfl)) rfl (.inl rfl))
  (aD (bM (aK (bF hr.aP) (ao gw) bT (aG _)) (aL (aO (jA (dG (bF hr.aP) (bN aY d8 (hB "len" cj) PySem.boot_len cu (aj (ao dR) aA rfl) rfl rfl) aq (aG _)) (jz (dG (bF hr.aP) (qm K hr.un1 (aX CLabelsLeft (hr.mono δ) mV nT (aj (ao iw) (aj (ao fC) aA rfl) rfl) rfl rfl) (ao gq)) (bN aY d8 (hB "len" cj) PySem.boot_len cu (aj (ao fC) aA rfl) rfl rfl) (aG _)))))) bx)
  (aD (bM (aK (bF hr.aP) (ao gw) bT (aG _)) (aL (aO (jA (dG (bF hr.aP) (bN aY d8 (hB "len" cj) PySem.boot_len cu (aj (ao dR) aA rfl) rfl rfl) aq (aG _)) (jz (dG Mu (ao gq) (dX qC (ao fC) (fL aq) fM) (by with_unfolding_all rfl)))))) bx)
  (aD (bM (aK (dY hr.aP) (bN aY d8 (hB "len" cj) PySem.boot_len cu (aj (ao dR) aA rfl) rfl rfl) aq (aG _)) (aL (aO fP)) bx)
  (aD (bM (aK (bF hr.aP) (ao gw) bT (aG _)) (aL (aO (jA (aX CPartsSome (hr.mono δ) nP xQ (aj (ao iw) (aj (ao fC) (aj (ao gq) aA rfl) rfl) rfl) rfl rfl) (jz (dG wu (aX CNumbersAcross (hr.mono δ) gb jT (aj (ao iw) (aj (ao fC) aA rfl) rfl) rfl rfl) (zV (v:=V.int 64) mU cgMostInMask ⟨_,rfl⟩ vJ) (aG _)))))) bx)
  (aD (bM (je (fZ (aK lK (ao gq) (ao fC) (by with_unfolding_all rfl)) (fK (aK (bF hr.aP) (bN aY d8 (hB "len" cj) PySem.boot_len cu (aj (ao fC) aA rfl) rfl rfl) aq (aG _))))) (aL (aO fP)) bx)
  (aD (bM (aK (bF hr.aP) (ao gw) bT (aG _)) (aL (aO (dG (bF hr.aP) (aH aR (aH aR (ao iw) (ao gq) (fun _ _=>rfl)) aq (fun _ _=>rfl)) (aH aR (aH aR (ao iw) (ao gq) (fun _ _=>rfl)) aq (fun _ _=>rfl)) (aG _)))) bx)
  (aL (aO (dG (bF hr.aP) (ao gw) bT (aG _))))))))))))))),?_⟩
 obtain⟨la,rfl,okl,el,ll⟩:=tl.left;replace el:H la=some (.lst (nv left)):=el;cases pl with
 | pick l=>
  cases tp with
  | tup o e z tt=>
   cases tt with
   | cons t1 tt=>
    cases t1;cases tt with
    | cons t2 tt=>
     cases t2;cases tt;push_cast [e];rw[if_neg (show ¬(!![V.str "pick",V.int l].isEmpty)=true by simp),if_neg (show ¬("pick" : Str) = "table" by decide +kernel),if_neg (show ¬((2:Nat):Int)<2 by decide)];refine⟨_,ok,_,rfl,.int l,?_⟩;push_cast [e,oW];refine⟨s,_,ok,ss,left,rfl,ts,tl,lf,fun a ha=>?_⟩;have s1:=au (o:=HO.lst ((left.map (lbl ss)).map V.int)) ha;have e1:upd H a (HO.lst ((left.map (lbl ss)).map V.int)) a=_:=aB;generalize upd H a (HO.lst ((left.map (lbl ss)).map V.int))=H1 at s1 e1 |-;have el1:=s1 _ _ el;push_cast [el1];refine⟨⟨_,SqL.of e1⟩,_,SqL.of e1,_,.inl ⟨_,_,rfl,rfl,rfl⟩,?_⟩;have qq:=q _ s1;rw[dH];rw[show decide ((((left.map (lbl ss)).count l:Nat):Int)=(left.length:Int))=decide (dM ss left l=left.length) from decide_eq_decide.mpr Int.ofNat_inj];exact qq
 | tab=>
  cases tp with
  | tup o e z tt=>
   cases tt with
   | cons t1 tt=>
    cases t1;cases tt;push_cast [e];rw[if_neg (show ¬(!![V.str "table"].isEmpty)=true by simp),if_pos δ];exact⟨s,_,ok,ss,left,rfl,ts,tl,lf,_,rfl,q _ (Same.refl _)⟩
 | low k a b=>
  cases tp with
  | tup o e z tt=>
   cases tt with
   | cons t1 tt=>
    cases t1;cases tt with
    | cons t2 tt=>
     cases t2;cases tt with
     | cons t3 tt=>
      cases tt with
      | cons t4 tt=>
       cases tt;push_cast [e];rw[if_neg (by simp),if_neg (show ¬("below" : Str) = "table" by decide +kernel),if_neg δ];refine⟨_,ok,_,rfl,.int _,?_⟩;push_cast [e,oW,el];rw[if_neg (show ¬("below" : Str) = "pick" by decide +kernel),if_pos δ];intro p1 hp1;rw[Ay];refine⟨rfl,jB _,?_⟩;rw[oX];exact q _ (au hp1)
 | msk l r=>
  cases tp with
  | tup o e z tt=>
   cases tt with
   | cons t1 tt=>
    cases t1;cases tt with
    | cons t2 tt=>
     cases t2;cases tt with
     | cons t3 tt=>
      cases tt;push_cast [e];rw[if_neg (by simp),if_neg (show ¬("mask" : Str) = "table" by decide +kernel),if_neg δ];refine⟨_,ok,_,rfl,.int _,?_⟩;push_cast [e,oW,el];rw[if_neg (show ¬("mask" : Str) = "pick" by decide +kernel),if_neg (show ¬("mask" : Str) = "below" by decide +kernel),if_neg δ];refine⟨s,_,ok,ss,left,l,rfl,ts,tl,lf,ll,fun H1 s1=>⟨_,rfl,?_⟩⟩;cases hc:(decide (0<dM ss left l)&&decide (dM ss left l<left.length)) with
      | true=>
       rw[if_pos rfl];refine⟨s,_,ok,ss,left,rfl,ts.same s1,tl.same s1,lf,_,rfl,?_⟩;have qq:=q _ s1;rw[show stepOk ss left (.msk l r)=((decide (0<dM ss left l)&&decide (dM ss left l<left.length))&&decide (fY ss left<=64)) from rfl,hc,Bool.true_and] at qq;exact qq
      | false=>
       rw[if_neg δ];have qq:=q _ s1;rw[show stepOk ss left (.msk l r)=((decide (0<dM ss left l)&&decide (dM ss left l<left.length))&&decide (fY ss left<=64)) from rfl,hc,Bool.false_and] at qq;exact qq
 | one k r=>
  cases tp with
  | tup o e z tt=>
   cases tt with
   | cons t1 tt=>
    cases t1;cases tt with
    | cons t2 tt=>
     cases t2;cases tt with
     | cons t3 tt=>
      cases tt;push_cast [e];rw[if_neg (by simp),if_neg (show ¬("is" : Str) = "table" by decide +kernel),if_neg δ];refine⟨_,ok,_,rfl,.int _,?_⟩;push_cast [e,oW,el];rw[if_neg (show ¬("is" : Str) = "pick" by decide +kernel),if_neg (show ¬("is" : Str) = "below" by decide +kernel),if_neg δ,if_neg (show ¬("is" : Str) = "mask" by decide +kernel)];refine⟨rfl,jB _,?_⟩;rw[oX,dH];cases hc:left.contains k with
      | false=>
       rw[if_pos (show(!false)=true from rfl)];have qq:=q _ (Same.refl _);rw[show stepOk ss left (.one k r)=((left.contains k&&decide (left.length≠1))&&decide ((bh ss k).1=(bh ss k).2.1)) from rfl,hc,Bool.false_and,Bool.false_and] at qq;exact qq
      | true=>
       rw[if_neg δ];have hk:=contains_iff_mem.mp hc;by_cases h1:left.length=1
       ·rw[if_pos ω];have qq:=q _ (Same.refl _);rw[show stepOk ss left (.one k r)=((left.contains k&&decide (left.length≠1))&&decide ((bh ss k).1=(bh ss k).2.1)) from rfl,decide_eq_false (show ¬left.length≠1 from fun z=>z h1),Bool.and_false,Bool.false_and] at qq;exact qq
       rw[if_neg ω];have qq:=q _ (Same.refl _);rw[show stepOk ss left (.one k r)=((left.contains k&&decide (left.length≠1))&&decide ((bh ss k).1=(bh ss k).2.1)) from rfl,hc,decide_eq_true h1,Bool.true_and,Bool.true_and] at qq;cases ts with
       | lst os es zs tss=>
        obtain⟨p1,x1,y1⟩:=tss.stN (lf.lt _ hk);push_cast [es,x1,y1];exact qq
 | wit k r=>
  cases tp with
  | tup o e z tt=>
   cases tt with
   | cons t1 tt=>
    cases t1;cases tt with
    | cons t2 tt=>
     cases t2;cases tt with
     | cons t3 tt=>
      cases tt;push_cast [e];rw[if_neg (by simp),if_neg (show ¬("within" : Str) = "table" by decide +kernel),if_neg δ];refine⟨_,ok,_,rfl,.int _,?_⟩;push_cast [e,oW,el];rw[if_neg (show ¬("within" : Str) = "pick" by decide +kernel),if_neg (show ¬("within" : Str) = "below" by decide +kernel),if_neg δ,if_neg (show ¬("within" : Str) = "mask" by decide +kernel)];refine⟨rfl,jB _,?_⟩;rw[oX,dH];cases hc:left.contains k with
      | false=>
       rw[if_pos (show(!false)=true from rfl)];have qq:=q _ (Same.refl _);rw[show stepOk ss left (.wit k r)=(left.contains k&&decide (left.length≠1)) from rfl,hc,Bool.false_and] at qq;exact qq
      | true=>
       rw[if_neg δ];by_cases h1:left.length=1
       ·rw[if_pos ω];have qq:=q _ (Same.refl _);rw[show stepOk ss left (.wit k r)=(left.contains k&&decide (left.length≠1)) from rfl,decide_eq_false (show ¬left.length≠1 from fun z=>z h1),Bool.and_false] at qq;exact qq
       rw[if_neg ω,if_neg (show ¬("within" : Str) = "is" by decide +kernel)];have qq:=q _ (Same.refl _);rw[show stepOk ss left (.wit k r)=(left.contains k&&decide (left.length≠1)) from rfl,hc,decide_eq_true h1,Bool.true_and] at qq;exact qq
end
noncomputable abbrev lX:List Str:=["stretches","thing","waiting","left","part"]
noncomputable abbrev dj:Stmt:=top 10
theorem m8:bK lX ["stretches","thing"] (ak dj):=⟨rfl,rfl,rfl,ψ,rfl,ψ,ψ⟩
theorem oV:NM_ lX dj 0 "stretches" := .of ψ
theorem BZ:NM_ lX dj 1 "thing" := .of ψ
theorem lO:NM_ lX dj 2 "waiting" := .of ψ
theorem oU:NM_ lX dj 3 "left" := .of ψ
theorem oR:NM_ lX dj 4 "part" := .of ψ
theorem rN:GI_ dj "is_step" := by decide +kernel
theorem wX:GI_ dj "len" := by decide +kernel
theorem vB:GI_ dj "list" := by decide +kernel
theorem qg:GI_ dj "plans_in" := by decide +kernel
theorem tE:GI_ dj "range" := by decide +kernel
theorem nU:Bn "is_plan" := ⟨ψ,ψ⟩
theorem O1 {ok OD:Addr->Prop}{H H':Hp}{lw:Addr}{xs:List V}(hn:gh ok H)(hOD:OD=fun x=>ok x/\x≠lw)(s:Same H H')(e:H' lw=some (.lst xs)):gh OD H':=by
 rw[hOD];exact fun H2 p s2 hp=>⟨hn H2 p (s.trans s2) hp,(aM (s2 _ _ e) hp).symm⟩
theorem Gu {ss:Sts}(h:0<ss.length):Lf ss (List.range ss.length):=by
 refine⟨fun z=>?_,fun k hk=>by simpa using hk,pairwise_lt_range⟩;have e:(List.range ss.length).length=0:=by rw[z];rfl
 rw[length_range] at e;omega
section
variable {P:Program}{w:World}{K:PySem.W.Frag}{mg:Str->Option Value}{base:Heap}{f:Addr}{fd:FuncData}{bs:List Str}
theorem BW (hB:∀x:Str,x∈BLs->mg x=none) (CIsStep:Cal P w K mg base "is_step" 3 q11_ zK) (CPlansIn:Cal P w K mg base "plans_in" 1 q13_ zO) (F:Fun K "is_plan" "is_plan" dj f fd):dN P w K mg base CX0 4 f fd ["stretches","thing"] vU:=by
 refine F.okq m8 (fun vs H Q E h=>?_) (fun cdv A outer s H vs Q E hr h=>?_)
 ·obtain⟨s,p,ok,ss,pl,rfl,_⟩:=h;rfl
 obtain⟨s,p,ok,ss,pl,rfl,hn,ts,tp,h0,h60,hsz,q⟩:=h;refine⟨_,(aD (bV lO m8.nd (cJ (aj (b8 (aj (m9 rfl vB (hB "list" nA) tE (hB "range" iJ) (aj (bN aY wX (hB "len" cj) PySem.boot_len cu (aj (ao oV) aA rfl) rfl rfl) aA rfl)) (aj (ao BZ) aA rfl) rfl)) aA rfl)) rfl (.inl rfl))
  (aD (Fp PassesOwn.never (Fl (ao lO)) (aD (j7 (IW (ao lO)) (jg (n:=2) rfl (bH (fO oU m8.nd (.inl rfl)) (bH (fO oR m8.nd (.inl rfl)) gF rfl) rfl) rfl rfl) rfl rfl rfl)
  (aD (bM (jf (iB (aX CIsStep (hr.mono δ) rN Hu (aj (ao oV) (aj (ao oU) (aj (ao oR) aA rfl) rfl) rfl) rfl rfl) (fun _=>rfl))) (aL (aO fP)) bx)
  (aL (uR (Ja (ao lO) (aX CPlansIn (hr.mono δ) qg Dg (aj (ao oV) (aj (ao oU) (aj (ao oR) aA rfl) rfl) rfl) rfl rfl) rfl rfl rfl rfl rfl) rfl)))))
  (aL (aO fP)))),?_⟩
 refine aU fun k hk=>?_;have ts0:=ts;cases ts with
 | lst os es zs tss=>
  rename_i sa sxs;have hsl:=tss.length;rw[length_map] at hsl;push_cast [es];refine⟨⟨ω,ω⟩,aQ ω,fun la hla=>⟨aQ δ,fun ta hta=>⟨aQ δ,fun lw hlw=>?_⟩⟩⟩;rw[show uO 0 ((sxs.length:Int)-0).toNat=nv (List.range ss.length) by
   unfold uO nv;rw[show((sxs.length:Int)-0).toNat=ss.length by omega];refine List.map_congr_left fun k _=>?_;rw[Int.zero_add]] at hta hlw |-
  have u1:=au (o:=HO.lst (nv (List.range ss.length))) hla;have u2:=au (o:=HO.tup [V.ref la,p]) hta;have u3:=au (o:=HO.lst [V.ref ta]) hlw;have f1:=(u2.trans u3) _ _ (show upd H la (HO.lst (nv (List.range ss.length))) la=_ from aB);have f2:=u3 _ _ (show upd (upd H la (HO.lst (nv (List.range ss.length)))) ta (HO.tup [V.ref la,p]) ta=_ from aB);have f3:upd (upd (upd H la (HO.lst (nv (List.range ss.length)))) ta (HO.tup [V.ref la,p])) lw (HO.lst [V.ref ta]) lw=_:=aB;have u:=(u1.trans u2).trans u3;have Hta:H ta=none:=u1.none hta;have Hlw:H lw=none:=(u1.trans u2).none hlw;have nlaw:la≠lw:=aM (u2 _ _ (show upd H la (HO.lst (nv (List.range ss.length))) la=_ from aB)) hlw;have ntaw:ta≠lw:=aM (show upd (upd H la (HO.lst (nv (List.range ss.length)))) ta (HO.tup [V.ref la,p]) ta=_ from aB) hlw;generalize upd (upd (upd H la (HO.lst (nv (List.range ss.length)))) ta (HO.tup [V.ref la,p])) lw (HO.lst [V.ref ta])=H1 at u3 f1 f2 f3 u |-;obtain⟨OD,hOD⟩:∃OD:Addr->Prop,OD=fun x=>ok x/\x≠lw:=⟨_,rfl⟩;have up:∀a o,ok a->H a=some o->OD a/\H1 a=some o:=fun a o h e=>by
   rw[hOD];exact⟨⟨h,aM e Hlw⟩,u _ _ e⟩
  have tsO:aF OD H1 (.ref sa) (.list (ss.map stD)):=ts0.keep up;have tpO:aF OD H1 p (plD pl):=tp.keep up;have okla:OD la:=by rw[hOD];exact⟨hn.new hla,nlaw⟩
  have okta:OD ta:=by rw[hOD];exact⟨hn.new Hta,ntaw⟩
  have tw:aJ OD H1 [V.ref ta] ([(List.range ss.length,pl)].map wD):=.cons (.tup okta f2 (by show 2<=1000000;decide) (.cons (bf okla f1 (by rw[length_range];omega)) (.cons tpO .nil))) .nil;subst hk;refine aU fun k hk=>?_;obtain⟨Pv,hPv⟩:∃Pv:Nat->L2.St->Hp->Prop,Pv=fun m σ H'=>∃(W:List (List Nat×Pl)) (xs:List V) (o4 o5:Option V),m=jn W/\Same H H'/\H' lw=some (.lst xs)/\aJ OD H' xs (W.map wD)/\(∀x∈W,Lf ss x.1) /\
   okP ss pl (List.range ss.length)=(W.all fun x=>okP ss x.2 x.1)/\jn W<=4000/\aF OD H' (.ref sa) (.list (ss.map stD))/\σ=[some (.ref sa),some p,some (.ref lw),o4,o5]:=⟨_,rfl⟩
  refine⟨Pv,⟨jn [(List.range ss.length,pl)],?_⟩,?_⟩
  ·rw[hPv];refine⟨[(List.range ss.length,pl)],_,_,_,rfl,u,f3,tw,?_,?_,?_,tsO,rfl⟩
   ·intro x hx;rw[mem_singleton.mp hx];exact Gu h0
   ·simp
   simp [jn];exact hsz
  intro m σ H2 pv;rw[hPv] at pv;obtain⟨W,xs,o4,o5,rfl,s2,elw,tW,okW,hall,hlen,tsO2,rfl⟩:=pv;have hxl:=tW.length;rw[length_map] at hxl;push_cast [elw];cases hx:xs.isEmpty with
  | true=>
   have hW:W=[]:=length_eq_zero_iff.mp (by rw[List.isEmpty_iff_length_eq_zero] at hx;omega);subst hW;push_cast;subst hk;push_cast;rw[hall] at q;exact q _ s2
  | false=>
   have hWp:0<W.length:=by
    rw[<- hxl];cases xs with
    | nil=>cases hx
    | cons a b=>simp
   obtain⟨W0,⟨left,p1⟩,rfl⟩:=gA W hWp;push_cast;refine⟨fun σ' H'=>∃m',m'<jn (W0++[(left,p1)])/\Pv m' σ' H',fun σ' H' h=>h,?_⟩;rw[map_append] at tW;obtain⟨tW0,y,hy,ty⟩:=aJ.dropLast tW;refine⟨y,hy,?_⟩;have lf1:=okW (left,p1) (by simp);have kk:∀(H':Hp)(o':HO) a o,OD a->H' a=some o->OD a/\upd H' lw o' a=some o:=fun H' o' a o h e=>by
    refine⟨h,?_⟩;rw[hOD] at h;rw[aZ h.2];exact e
   have s3:Same H (upd H2 lw (HO.lst xs.dropLast)):=oG s2 Hlw;have ty3:=ty.keep (kk H2 (HO.lst xs.dropLast));have tW3:=tW0.keep (kk H2 (HO.lst xs.dropLast));have tsO3:=tsO2.keep (kk H2 (HO.lst xs.dropLast));have elw3:upd H2 lw (HO.lst xs.dropLast) lw=_:=aB;generalize upd H2 lw (HO.lst xs.dropLast)=H3 at s3 ty3 tW3 tsO3 elw3 |-;cases ty3 with
   | tup oy ey zy tty=>
    cases tty with
    | cons tl tty=>
     cases tty with
     | cons tpl tty=>
      cases tty;rename_i ya xl xp;push_cast [ey,Dz,Kh];refine⟨_,_,_,OD,ss,left,p1,rfl,tsO3,tl,tpl,lf1,fun H4 s4=>?_⟩;cases hst:stepOk ss left p1 with
      | false=>
       push_cast;have hf:okP ss pl (List.range ss.length)=false:=by
        rw[hall,all_append];simp only[all_cons,all_nil,Bool.and_true];rw[wB,hst,Bool.false_and,Bool.and_false]
       rw[hf] at q;exact q _ (s3.trans s4)
      | true=>
       have elw4:=s4 _ _ elw3;have tW4:=tW3.same s4;have hn4:gh OD H4:=O1 hn hOD (s3.trans s4) elw4;push_cast [elw4,Ai];refine⟨_,_,_,OD,ss,left,p1,rfl,hn4,tsO3.same s4,tl.same s4,tpl.same s4,lf1,fun v H6 s6 t6=>?_⟩;cases t6 with
       | lst or er zr tr=>
        rename_i r zs;have elw6:=s6 _ _ elw4;push_cast [G9,elw6,er,Ny];have hzl:=tr.length;rw[length_map] at hzl;have hk2:(kids ss p1 left).length<=2:=by cases p1 <;> simp [kids]
        have hW0:=tW4.length;rw[length_map] at hW0;have hWs:W0.length<=jn W0:=J1 W0;rw[m5] at hlen;refine⟨aQ ω,jn (W0++kids ss p1 left),?_,?_⟩
        ·rw[m5,m5];have:=vV ss p1 left;simp only[jn,map_cons,map_nil,List.sum_cons,List.sum_nil] at this |-;omega
        rw[hPv];refine⟨W0++kids ss p1 left,_,_,_,rfl,oG ((s3.trans s4).trans s6) Hlw,aB,?_,?_,?_,?_,((tsO3.same s4).same s6).keep (kk H6 _),rfl⟩
        ·rw[map_append];exact((tW4.same s6).keep (kk H6 _)).append (tr.keep (kk H6 _))
        ·intro x hx;rcases mem_append.mp hx with z|z
         ·exact okW x (List.mem_append_left _ z)
         exact jl lf1 hst x z
        ·rw[hall,all_append,all_append];simp only[all_cons,all_nil,Bool.and_true];rw[wB ss p1 left,hst,Bool.true_and]
        rw[m5];have:=vV ss p1 left;have h4:jn [(left,p1)]=cD p1:=by simp [jn]
        omega
end
noncomputable abbrev dg:List Str:=["_law_stretches_here","_law_left","_law_thing","_law_word","_law_labels","_law_one","_law_ahead","_law_behind"]
noncomputable abbrev bD:Stmt:=top 20
theorem lF:bK dg q3_ (ak bD):=⟨rfl,rfl,rfl,ψ,rfl,ψ,ψ⟩
theorem d7:NM_ dg bD 0 "_law_stretches_here" := .of ψ
theorem dh:NM_ dg bD 1 "_law_left" := .of ψ
theorem bL:NM_ dg bD 2 "_law_thing" := .of ψ
theorem gn:NM_ dg bD 3 "_law_word" := .of ψ
theorem jE:NM_ dg bD 4 "_law_labels" := .of ψ
theorem fB:NM_ dg bD 5 "_law_one" := .of ψ
theorem yH:NM_ dg bD 6 "_law_ahead" := .of ψ
theorem yG:NM_ dg bD 7 "_law_behind" := .of ψ
theorem eF:GI_ bD "_law_is_plan" := by decide +kernel
theorem lu:GI_ bD "_law_span" := by decide +kernel
theorem sZ:GI_ bD "bool" := by decide +kernel
theorem vq:GI_ bD "int" := by decide +kernel
theorem dm:GI_ bD "isinstance" := by decide +kernel
theorem cZ:GI_ bD "len" := by decide +kernel
theorem vp:GI_ bD "str" := by decide +kernel
theorem rJ:GI_ bD "tuple" := by decide +kernel
theorem fG:Bn "_law_is_plan" := ⟨ψ,ψ⟩
noncomputable def Ph:Pl->List PyData
 | .pick l=>[.int l]
 | .one k r=>[.int (k:Int),plD r]
 | .wit k r=>[.int (k:Int),plD r]
 | .low k a b=>[.int (k:Int),plD a,plD b]
 | .msk l r=>[.int l,plD r]
 | .tab=>[]
theorem Jo {ok:Addr->Prop}{H:Hp}{x:V}{p:Pl}(t:aF ok H x (plD p)):∃pa rest,x=.ref pa/\ok pa/\H pa=some (.tup (V.str (pF p)::rest))/\aJ ok H rest (Ph p):=by
 cases p <;> (cases t with|tup o e z tt=>cases tt with|cons t1 tt=>cases t1;exact⟨_,_,rfl,o,e,tt⟩)
section
variable {P:Program}{w:World}{K:PySem.W.Frag}{mg:Str->Option Value}{base:Heap}{f:Addr}{fd:FuncData}{bs:List Str}
theorem yL:dN P w K mg base CX0 2 f fd q3_ (lE 0):=by
 have no:∀vs H Q E,¬lE 0 vs H Q E:=fun vs H Q E h=>by
  obtain⟨_,_,_,_,_,_,_,_,_,_,_,_,_,h1,_⟩:=h;omega
 exact⟨fun vs H Q E h=>absurd h (no vs H Q E),fun A outer s H args us vs Q E _ _ _ _ h=>absurd h (no vs H Q E)⟩
theorem Gh {n:Nat}(hB:∀x:Str,x∈BLs->mg x=none) (CZSpan:Cal P w K mg base "_law_span" 1 q6_ jm) (CZIsPlan:Cal P w K mg base "_law_is_plan" (n+2) q3_ (lE n)) (F:Fun K "_law_is_plan" "_law_is_plan" bD f fd):dN P w K mg base CX0 (n+3) f fd q3_ (lE (n+1)):=by
 refine F.okq lF (fun vs H Q E h=>?_) (fun cdv A outer s H vs Q E hr h=>?_)
 ·obtain⟨s,l,p,ok,ss,left,pl,rfl,_⟩:=h;rfl
 obtain⟨s,l,p,ok,ss,left,pl,rfl,hn,ts,tl,tp,lf,hdep,q⟩:=h;refine⟨_,(aD (bM (je (fZ (jf (iB (bN fD dm (hB "isinstance" cM) boot_isinstance cN (aj (ao bL) (aj (pG "tuple" rJ (hB "tuple" wR) boot_tuple xM) aA rfl) rfl) rfl rfl) (fun _=>rfl))) (fZ (aK (Mv hr.aP) (ao bL) (b8 aA) (aG _)) (fK (jf (iB (bN fD dm (hB "isinstance" cM) boot_isinstance cN (aj (aH aR (ao bL) aq (fun _ _=>rfl)) (aj (pG "str" vp (hB "str" M6) boot_str NK) aA rfl) rfl) rfl rfl) (fun _=>rfl))))))) (aL (aO fP)) bx)
  (aD (Fq (i:=3) (j:=4) rfl lF.nd rfl rfl δ rfl rfl (aj (aH aR (ao bL) aq (fun _ _=>rfl)) (aj (cX (NX:=dg) (kX:=(ak bD).names) ["_law_k","_law_stretches_here"] [none,some 0] rfl rfl ⟨rfl,ψ,ψ,ψ,ψ⟩ rfl (b7 (ao dh)) (fun _ _ _ _ _=>(bI 0 (show List.Nodup (["_law_k","_law_stretches_here"]:List Str) from by decide +kernel) rfl (Or.inl rfl))) (fun _ _ _ _ _=>mF) (fun _ _ _ _ _=>(aH aR (aH aR (aW 1) (aW 0) (fun _ _=>rfl)) aq (fun _ _=>rfl)))) aA rfl) rfl) (by rfl))
  (aD (bM (aK (bF hr.aP) (ao gn) bT (aG _)) (aL (aO (jA (dG (bF hr.aP) (bN aY cZ (hB "len" cj) PySem.boot_len cu (aj (ao bL) aA rfl) rfl rfl) aq (aG _)) (jz (dG wu (aX CZSpan (hr.mono ω) lu nR (aj (ao d7) (aj (ao dh) aA rfl) rfl) rfl rfl) aq (aG _)))))) bx)
  (aD (bM (je (fZ (aK iY (bN aY cZ (hB "len" cj) PySem.boot_len cu (aj (ao bL) aA rfl) rfl rfl) aq (aG _)) (fZ (jf (iB (bN fD dm (hB "isinstance" cM) boot_isinstance cN (aj (aH aR (ao bL) aq (fun _ _=>rfl)) (aj (pG "int" vq (hB "int" rB) boot_int rT) aA rfl) rfl) rfl rfl) (fun _=>rfl))) (fK (iB (bN fD dm (hB "isinstance" cM) boot_isinstance cN (aj (aH aR (ao bL) aq (fun _ _=>rfl)) (aj (pG "bool" sZ (hB "bool" vg) boot_bool vH) aA rfl) rfl) rfl rfl) (fun _=>rfl)))))) (aL (aO fP)) bx)
  (aD (bV fB lF.nd (aH aR (ao bL) aq (fun _ _=>rfl)) rfl (.inl rfl))
  (aD (bM (aK (bF hr.aP) (ao gn) bT (aG _)) (aL (aO (jA (dG (bF hr.aP) (bN aY cZ (hB "len" cj) PySem.boot_len cu (aj (ao bL) aA rfl) rfl rfl) aq (aG _)) (jz (dG (bF hr.aP) (qm K hr.un1 (ao jE) (ao fB)) (bN aY cZ (hB "len" cj) PySem.boot_len cu (aj (ao jE) aA rfl) rfl rfl) (aG _)))))) bx)
  (aD (bM (aK (bF hr.aP) (ao gn) bT (aG _)) (aD (bM (je (fZ (aK (dY hr.aP) (bN aY cZ (hB "len" cj) PySem.boot_len cu (aj (ao bL) aA rfl) rfl rfl) aq (aG _)) (fK (aK lK (ao fB) (dX qC (ao dh) (fL aq) fM) (by with_unfolding_all rfl))))) (aL (aO fP)) bx)
  (aD (Fq (i:=6) (j:=7) rfl lF.nd rfl rfl δ rfl rfl (aj (cX (NX:=dg) (kX:=(ak bD).names) q12_ [none,some 5] rfl rfl ⟨rfl,ψ,ψ,ψ,ψ⟩ rfl (b7 (ao dh)) (fun _ _ _ _ _=>(bI 0 (show List.Nodup (["_law_k","_law_one"]:List Str) from by decide +kernel) rfl (Or.inl rfl))) (fun _ _ _ _ _=>(eH (aK iY (aW 0) (aW 1) (aG _)))) (fun _ _ _ _ _=>(aW 0))) (aj (cX (NX:=dg) (kX:=(ak bD).names) q12_ [none,some 5] rfl rfl ⟨rfl,ψ,ψ,ψ,ψ⟩ rfl (b7 (ao dh)) (fun _ _ _ _ _=>(bI 0 (show List.Nodup (["_law_k","_law_one"]:List Str) from by decide +kernel) rfl (Or.inl rfl))) (fun _ _ _ _ _=>(eH (aK zZ (aW 0) (aW 1) (aG _)))) (fun _ _ _ _ _=>(aW 0))) aA rfl) rfl) (by rfl))
  (aL (aO (jA (aX CZIsPlan (hr.mono ω) eF fG (aj (ao d7) (aj (ao yH) (aj (aH aR (ao bL) aq (fun _ _=>rfl)) aA rfl) rfl) rfl) rfl rfl) (jz (aX CZIsPlan (hr.mono ω) eF fG (aj (ao d7) (aj (ao yG) (aj (aH aR (ao bL) aq (fun _ _=>rfl)) aA rfl) rfl) rfl) rfl rfl))))))) bx)
  (aD (bM (aK (dY hr.aP) (bN aY cZ (hB "len" cj) PySem.boot_len cu (aj (ao bL) aA rfl) rfl rfl) aq (aG _)) (aL (aO fP)) bx)
  (aD (bM (aK (bF hr.aP) (ao gn) bT (aG _)) (aD (bM (je (fZ (jf (Fo iY iY aq (qm K hr.un1 (ao jE) (ao fB)) (bN aY cZ (hB "len" cj) PySem.boot_len cu (aj (ao jE) aA rfl) rfl rfl))) (fK (aK qI (aX CZSpan (hr.mono ω) lu nR (aj (ao d7) (aj (ao dh) aA rfl) rfl) rfl rfl) aq (aG _))))) (aL (aO fP)) bx)
  (aL (aO (aX CZIsPlan (hr.mono ω) eF fG (aj (ao d7) (aj (cX (NX:=dg) (kX:=(ak bD).names) ["_law_k","_law_one","_law_stretches_here"] [none,some 5,some 0] rfl rfl ⟨rfl,ψ,ψ,ψ,ψ⟩ rfl (b7 (ao dh)) (fun _ _ _ _ _=>(bI 0 (show List.Nodup (["_law_k","_law_one","_law_stretches_here"]:List Str) from by decide +kernel) rfl (Or.inl rfl))) (fun _ _ _ _ _=>(eH (aK (dY hr.aP) (aH aR (aH aR (aW 2) (aW 0) (fun _ _=>rfl)) aq (fun _ _=>rfl)) (aW 1) (aG _)))) (fun _ _ _ _ _=>(aW 0))) (aj (aH aR (ao bL) aq (fun _ _=>rfl)) aA rfl) rfl) rfl) rfl rfl)))) bx)
  (aD (bM (je (fZ (aK lK (ao gn) (b8 (aj bT (aj bT aA rfl) rfl)) (by with_unfolding_all rfl)) (fZ (aK lK (ao fB) (ao dh) (by with_unfolding_all rfl)) (fK (aK (bF hr.aP) (bN aY cZ (hB "len" cj) PySem.boot_len cu (aj (ao dh) aA rfl) rfl rfl) aq (aG _)))))) (aL (aO fP)) bx)
  (aD (bM (je (j6 (aK (bF hr.aP) (ao gn) bT (aG _)) (jy (aK (dY hr.aP) (aH aR (aH aR (ao d7) (ao fB) (fun _ _=>rfl)) aq (fun _ _=>rfl)) (aH aR (aH aR (ao d7) (ao fB) (fun _ _=>rfl)) aq (fun _ _=>rfl)) (aG _))))) (aL (aO fP)) bx)
  (aL (aO (aX CZIsPlan (hr.mono ω) eF fG (aj (ao d7) (aj (cX (NX:=dg) (kX:=(ak bD).names) q12_ [none,some 5] rfl rfl ⟨rfl,ψ,ψ,ψ,ψ⟩ rfl (b7 (ao dh)) (fun _ _ _ _ _=>(bI 0 (show List.Nodup (["_law_k","_law_one"]:List Str) from by decide +kernel) rfl (Or.inl rfl))) (fun _ _ _ _ _=>(eH (aK (dY hr.aP) (aW 0) (aW 1) (aG _)))) (fun _ _ _ _ _=>(aW 0))) (aj (aH aR (ao bL) aq (fun _ _=>rfl)) aA rfl) rfl) rfl) rfl rfl)))))))))))))),?_⟩
 obtain⟨la,rfl,okl,el,ll⟩:=tl.left;replace el:H la=some (.lst (nv left)):=el;have ts0:=ts;cases ts with
 | lst os es zs tss=>
  rename_i sa sxs;obtain⟨pa,rest,rfl,opa,epa,trest⟩:=Jo tp;refine aU fun k hk=>?_;push_cast [epa];refine⟨zero_le _,fun t0 ht0=>?_⟩;have s0:=au (o:=HO.tup []) ht0;refine⟨pa,t0,_,rfl,rfl,s0 _ _ epa,aB,_,rfl,?_⟩;generalize upd H t0 (HO.tup [])=H0 at s0 |-;have epa0:=s0 _ _ epa;have el0:=s0 _ _ el;have es0:=s0 _ _ es;rw[if_neg (by simp)];push_cast [epa0];subst hk;refine aU fun k hk=>?_;push_cast [epa0];refine cF fun R hR=>?_;push_cast [el0];refine pC (lbl ss) (fun τ=>∃o0,τ=[o0,some (.ref sa)]) hR el0 ll ⟨_,rfl⟩ ?_ ?_
  ·rintro i k τ acc Pn hk ⟨o0,rfl⟩ hN;obtain⟨p1,x1,y1⟩:=(tss.same s0).stN (lf.lt _ (mem_of_getElem? hk));push_cast [es0,x1,y1];exact hN _ ⟨_,rfl⟩
  intro lb hlb;have s1:=s0.trans (au (o:=HO.lst ((left.map (lbl ss)).map V.int)) hlb);have elb:upd H0 lb (HO.lst ((left.map (lbl ss)).map V.int)) lb=_:=aB;generalize upd H0 lb (HO.lst ((left.map (lbl ss)).map V.int))=H1 at s1 elb |-;have epa1:=s1 _ _ epa;have el1:=s1 _ _ el;have es1:=s1 _ _ es;have hn1:=hn.same s1;have ts1:=ts0.same s1;have tl1:=tl.same s1;have tr1:=trest.same s1;have tss1:=tss.same s1;subst hk;have stp:∀(Hx:Hp),Same H Hx->∀b:Bool,okP ss pl left=b->Q (.bl b) Hx:=fun Hx sx b e=>e ▸ q _ sx;cases pl with
  | tab=>
   cases tr1;replace epa1:H1 pa=some (.tup [V.str "table"]):=epa1;push_cast [epa1];rw[show pF Pl.tab = "table" from rfl,if_pos rfl,if_pos δ];exact⟨_,_,ok,ss,left,rfl,ts1,tl1,lf,_,rfl,q _ s1⟩
  | pick l=>
   cases tr1 with
   | cons t2 tt=>
    cases t2;cases tt;replace epa1:H1 pa=some (.tup [V.str "pick",V.int l]):=epa1;push_cast [epa1,elb];rw[show pF (Pl.pick l) = "pick" from rfl,if_neg (show ¬("pick" : Str) = "table" by decide +kernel),if_neg δ,if_pos rfl,if_pos δ];push_cast [zG,elb];refine⟨⟨_,SqL.of elb⟩,_,SqL.of elb,_,.inl ⟨_,_,rfl,rfl,rfl⟩,?_⟩;have qq:=q _ s1;rw[length_map,length_map];rw[show decide ((((left.map (lbl ss)).count l:Nat):Int)=(left.length:Int))=decide (dM ss left l=left.length) from decide_eq_decide.mpr Int.ofNat_inj];exact qq
  | low k a b=>
   cases tr1 with
   | cons t2 tt=>
    cases t2;cases tt with
    | cons t3 tt=>
     cases tt with
     | cons t4 tt=>
      cases tt;rename_i x3 x4;replace epa1:H1 pa=some (.tup [V.str "below",V.int (k:Int),x3,x4]):=epa1;push_cast [epa1,elb,el1];rw[show pF (Pl.low k a b) = "below" from rfl,if_neg (show ¬("below" : Str) = "table" by decide +kernel),if_neg δ,if_neg (show ¬("below" : Str) = "pick" by decide +kernel),if_pos rfl,if_neg δ];intro p1 hp1;rw[Ay];refine⟨rfl,jB _,?_⟩;rw[oX];have s2:=s1.trans (au (o:=HO.lst (nv (left.drop 1))) hp1);have u2:=au (o:=HO.lst (nv (left.drop 1))) hp1;cases hc:(left.drop 1).contains k with
      | false=>
       rw[if_pos (show(!false)=true from rfl)];refine stp _ s2 _ ?_;show((left.drop 1).contains k&&_)=false;rw[hc,Bool.false_and]
      | true=>
       rw[if_neg δ];generalize upd H1 p1 (HO.lst (nv (left.drop 1)))=H2 at s2 u2 |-;have el2:=s2 _ _ el;have hst:stepOk ss left (.low k a b)=true:=hc;have hk:=jl lf hst;have lfa:Lf ss (left.filter (· < k)):=hk (_,a) (by simp [kids]);have lfb:Lf ss (left.filter (k<=·)):=hk (_,b) (by simp [kids]);refine cF fun R hR=>?_;push_cast [el2];refine bQ (· < k) (fun τ=>∃o0,τ=[o0,some (.int (k:Int))]) hR el2 ll ⟨_,rfl⟩ ?_ ?_
       ·rintro i k' τ acc Pn hk' ⟨o0,rfl⟩ h1 h2;push_cast;by_cases c:k'<k
        ·rw[if_pos ω];exact h1 (by simpa using c) _ ⟨_,rfl⟩
        rw[if_neg ω];exact h2 (by simpa using c) _ ⟨_,rfl⟩
       intro d1 hd1;have s3:=s2.trans (au (o:=HO.lst (nv (left.filter (· < k)))) hd1);have u3:=u2.trans (au (o:=HO.lst (nv (left.filter (· < k)))) hd1);have ed1:upd H2 d1 (HO.lst (nv (left.filter (· < k)))) d1=_:=aB;have od1:=hn.new (s2.none hd1);generalize upd H2 d1 (HO.lst (nv (left.filter (· < k))))=H3 at s3 u3 ed1 |-;have el3:=s3 _ _ el;refine cF fun R hR=>?_;push_cast [el3];refine bQ (k<=·) (fun τ=>∃o0,τ=[o0,some (.int (k:Int))]) hR el3 ll ⟨_,rfl⟩ ?_ ?_
       ·rintro i k' τ acc Pn hk' ⟨o0,rfl⟩ h1 h2;push_cast;by_cases c:k<=k'
        ·rw[if_pos ω];exact h1 (by simpa using c) _ ⟨_,rfl⟩
        rw[if_neg ω];exact h2 (by simpa using c) _ ⟨_,rfl⟩
       intro d2 hd2;have s4:=s3.trans (au (o:=HO.lst (nv (left.filter (k<=·)))) hd2);have u4:=u3.trans (au (o:=HO.lst (nv (left.filter (k<=·)))) hd2);have ed2:upd H3 d2 (HO.lst (nv (left.filter (k<=·)))) d2=_:=aB;have ed14:=(au (o:=HO.lst (nv (left.filter (k<=·)))) hd2) _ _ ed1;have od2:=hn.new (s3.none hd2);generalize upd H3 d2 (HO.lst (nv (left.filter (k<=·))))=H4 at s4 u4 ed2 ed14 |-;have epa4:=u4 _ _ epa1;push_cast [epa4];have dd:dI a<n/\dI b<n:=by have:dI (.low k a b)<n+1:=hdep;simp only[dI] at this;omega
       refine⟨_,_,_,ok,ss,_,a,rfl,hn.same s4,ts0.same s4,bf od1 ed14 (le_trans (length_filter_le ..) ll),t3.same u4,lfa,dd.1,fun H5 s5=>⟨_,rfl,?_⟩⟩;cases hca:okP ss a (left.filter (· < k)) with
       | false=>
        rw[if_neg δ];refine stp _ (s4.trans s5) _ ?_;show(_&&(okP ss a _&&okP ss b _))=false;rw[hca,Bool.false_and,Bool.and_false]
       | true=>
        rw[if_pos rfl];have epa5:=s5 _ _ epa4;push_cast [epa5];refine⟨_,_,_,ok,ss,_,b,rfl,hn.same (s4.trans s5),ts0.same (s4.trans s5),bf od2 (s5 _ _ ed2) (le_trans (length_filter_le ..) ll),t4.same (u4.trans s5),lfb,dd.2,fun H6 s6=>?_⟩;refine stp _ ((s4.trans s5).trans s6) _ ?_;show((left.drop 1).contains k&&(okP ss a _&&okP ss b _))=_;rw[hca,hc,Bool.true_and,Bool.true_and]
  | msk l r=>
   cases tr1 with
   | cons t2 tt=>
    cases t2;cases tt with
    | cons t3 tt=>
     cases tt;rename_i x3;replace epa1:H1 pa=some (.tup [V.str "mask",V.int l,x3]):=epa1;push_cast [epa1,elb,el1];rw[show pF (Pl.msk l r) = "mask" from rfl,if_neg (show ¬("mask" : Str) = "table" by decide +kernel),if_neg δ,if_neg (show ¬("mask" : Str) = "pick" by decide +kernel),if_neg (show ¬("mask" : Str) = "below" by decide +kernel),if_neg δ,if_pos rfl];push_cast [zG,elb];refine⟨⟨_,SqL.of elb⟩,_,SqL.of elb,_,.inl ⟨_,_,rfl,rfl,rfl⟩,?_⟩;have hcnt:(((left.map (lbl ss)).count l:Nat):Int)=(dM ss left l:Nat):=rfl;rw[hcnt,length_map,length_map];have no:∀Hx,Same H Hx->stepOk ss left (.msk l r)=false->Q (V.bl false) Hx:=fun Hx sx hf=>stp _ sx _ (by
      show(stepOk ss left (.msk l r)&&_)=false;rw[hf,Bool.false_and])
     by_cases c1:0<dM ss left l
     ·rw[if_pos ω];by_cases c2:dM ss left l<left.length
      ·rw[if_neg (by rw[decide_eq_true (show((dM ss left l:Nat):Int)<(left.length:Int) by omega)];decide)];refine⟨_,_,ok,ss,left,rfl,ts1,tl1,lf,_,rfl,?_⟩;by_cases c3:fY ss left<=64
       ·rw[if_neg ω];have hst:stepOk ss left (.msk l r)=true:=by
         show((decide (0<dM ss left l)&&decide (dM ss left l<left.length))&&decide (fY ss left<=64))=true;rw[decide_eq_true c1,decide_eq_true c2,decide_eq_true c3];rfl
        have lfr:Lf ss (left.filter fun k=>(bh ss k).2.2≠l):=jl lf hst (_,r) (by simp [kids]);refine cF fun R hR=>?_;push_cast [el1];refine bQ (fun k=>(bh ss k).2.2≠l) (fun τ=>∃o0,τ=[o0,some (.int l),some (.ref sa)]) hR el1 ll ⟨_,rfl⟩ ?_ ?_
        ·rintro i k' τ acc Pn hk' ⟨o0,rfl⟩ h1 h2;obtain⟨p1,x1,y1⟩:=tss1.stN (lf.lt _ (mem_of_getElem? hk'));push_cast [es1,x1,y1];by_cases c:(bh ss k').2.2=l
         ·rw[decide_eq_true c,if_neg δ];exact h2 (by simpa using c) _ ⟨_,rfl⟩
         rw[decide_eq_false c,if_pos (show(!false)=true from rfl)];exact h1 (by simpa using c) _ ⟨_,rfl⟩
        intro d1 hd1;have s3:=s1.trans (au (o:=HO.lst (nv (left.filter fun k=>(bh ss k).2.2≠l))) hd1);have u3:=au (o:=HO.lst (nv (left.filter fun k=>(bh ss k).2.2≠l))) hd1;have ed1:upd H1 d1 (HO.lst (nv (left.filter fun k=>(bh ss k).2.2≠l))) d1=_:=aB;have od1:=hn.new (s1.none hd1);generalize upd H1 d1 (HO.lst (nv (left.filter fun k=>(bh ss k).2.2≠l)))=H3 at s3 u3 ed1 |-;have epa3:=u3 _ _ epa1;push_cast [epa3];refine⟨_,_,_,ok,ss,_,r,rfl,hn.same s3,ts0.same s3,bf od1 ed1 (le_trans (length_filter_le ..) ll),t3.same u3,lfr,by have:dI (.msk l r)<n+1:=hdep;simp only[dI] at this;omega,fun H5 s5=>?_⟩;refine stp _ (s3.trans s5) _ ?_;show(stepOk ss left (.msk l r)&&okP ss r _)=_;rw[hst,Bool.true_and]
       rw[if_pos ω];refine no _ s1 ?_;show((decide (0<dM ss left l)&&decide (dM ss left l<left.length))&&decide (fY ss left<=64))=false;rw[decide_eq_false c3,Bool.and_false]
      rw[if_pos (by rw[decide_eq_false (show ¬((dM ss left l:Nat):Int)<(left.length:Int) by omega)];rfl)];refine no _ s1 ?_;show((decide (0<dM ss left l)&&decide (dM ss left l<left.length))&&decide (fY ss left<=64))=false;rw[decide_eq_false c2,Bool.and_false,Bool.false_and]
     rw[if_neg ω];refine no _ s1 ?_;show((decide (0<dM ss left l)&&decide (dM ss left l<left.length))&&decide (fY ss left<=64))=false;rw[decide_eq_false c1,Bool.false_and,Bool.false_and]
  | one k r=>
   cases tr1 with
   | cons t2 tt=>
    cases t2;cases tt with
    | cons t3 tt=>
     cases tt;rename_i x3;replace epa1:H1 pa=some (.tup [V.str "is",V.int (k:Int),x3]):=epa1;push_cast [epa1,elb,el1];rw[show pF (Pl.one k r) = "is" from rfl,if_neg (show ¬("is" : Str) = "table" by decide +kernel),if_neg δ,if_neg (show ¬("is" : Str) = "pick" by decide +kernel),if_neg (show ¬("is" : Str) = "below" by decide +kernel),if_neg δ,if_neg (show ¬("is" : Str) = "mask" by decide +kernel)];refine⟨aQ δ,fun p1 hp1=>⟨rfl,rfl,?_⟩⟩;rw[show inV (V.str "is") [V.str "is",V.str "within"]=true by decide +kernel,if_neg δ];have s2:=s1.trans (au (o:=HO.tup [V.str "is",V.str "within"]) hp1);have u2:=au (o:=HO.tup [V.str "is",V.str "within"]) hp1;generalize upd H1 p1 (HO.tup [V.str "is",V.str "within"])=H2 at s2 u2 |-;have el2:=s2 _ _ el;have es2:=s2 _ _ es;push_cast [el2];refine⟨rfl,jB _,?_⟩;rw[oX,dH];have no:∀Hx,Same H Hx->stepOk ss left (.one k r)=false->Q (V.bl false) Hx:=fun Hx sx hf=>stp _ sx _ (by
      show(stepOk ss left (.one k r)&&_)=false;rw[hf,Bool.false_and])
     have fin:stepOk ss left (.one k r)=true->∀(σ':L2.St),True:=fun _ _=>trivial;cases hc:left.contains k with
     | false=>
      rw[if_pos (show(!false)=true from rfl)];refine no _ s2 ?_;show((left.contains k&&decide (left.length≠1))&&decide ((bh ss k).1=(bh ss k).2.1))=false;rw[hc];rfl
     | true=>
      rw[if_neg δ];have hk:=contains_iff_mem.mp hc;by_cases h1:left.length=1
      ·rw[if_pos ω];refine no _ s2 ?_;show((left.contains k&&decide (left.length≠1))&&decide ((bh ss k).1=(bh ss k).2.1))=false;rw[decide_eq_false (show ¬left.length≠1 from fun z=>z h1),Bool.and_false];rfl
      rw[if_neg ω];obtain⟨p2,x1,y1⟩:=(tss.same s2).stN (lf.lt _ hk);push_cast [es2,x1,y1];by_cases ce:(bh ss k).1=(bh ss k).2.1
      ·rw[decide_eq_true ce,if_neg δ];have hst:stepOk ss left (.one k r)=true:=by
        show((left.contains k&&decide (left.length≠1))&&decide ((bh ss k).1=(bh ss k).2.1))=true;rw[hc,decide_eq_true h1,decide_eq_true ce];rfl
       have lfr:Lf ss (left.filter (·≠k)):=jl lf hst (_,r) (by simp [kids]);refine cF fun R hR=>?_;push_cast [el2];refine bQ (·≠k) (fun τ=>∃o0,τ=[o0,some (.int (k:Int))]) hR el2 ll ⟨_,rfl⟩ ?_ ?_
       ·rintro i k' τ acc Pn hk' ⟨o0,rfl⟩ h1 h2;push_cast;by_cases c:k'=k
        ·subst c;rw[decide_eq_true (show((k':Nat):Int)=(k':Int) from rfl),if_neg δ];exact h2 (by simp) _ ⟨_,rfl⟩
        rw[decide_eq_false (show ¬((k':Nat):Int)=(k:Int) by omega),if_pos (show(!false)=true from rfl)];exact h1 (by simpa using c) _ ⟨_,rfl⟩
       intro d1 hd1;have s3:=s2.trans (au (o:=HO.lst (nv (left.filter (·≠k)))) hd1);have u3:=u2.trans (au (o:=HO.lst (nv (left.filter (·≠k)))) hd1);have ed1:upd H2 d1 (HO.lst (nv (left.filter (·≠k)))) d1=_:=aB;have od1:=hn.new (s2.none hd1);generalize upd H2 d1 (HO.lst (nv (left.filter (·≠k))))=H3 at s3 u3 ed1 |-;have epa3:=u3 _ _ epa1;push_cast [epa3];refine⟨_,_,_,ok,ss,_,r,rfl,hn.same s3,ts0.same s3,bf od1 ed1 (le_trans (length_filter_le ..) ll),t3.same u3,lfr,by have:dI (.one k r)<n+1:=hdep;simp only[dI] at this;omega,fun H5 s5=>?_⟩;refine stp _ (s3.trans s5) _ ?_;show(stepOk ss left (.one k r)&&okP ss r _)=_;rw[hst,Bool.true_and]
      rw[decide_eq_false ce,if_pos (show(!false)=true from rfl)];refine no _ s2 ?_;show((left.contains k&&decide (left.length≠1))&&decide ((bh ss k).1=(bh ss k).2.1))=false;rw[decide_eq_false ce,Bool.and_false]
  | wit k r=>
   cases tr1 with
   | cons t2 tt=>
    cases t2;cases tt with
    | cons t3 tt=>
     cases tt;rename_i x3;replace epa1:H1 pa=some (.tup [V.str "within",V.int (k:Int),x3]):=epa1;push_cast [epa1,elb,el1];rw[show pF (Pl.wit k r) = "within" from rfl,if_neg (show ¬("within" : Str) = "table" by decide +kernel),if_neg δ,if_neg (show ¬("within" : Str) = "pick" by decide +kernel),if_neg (show ¬("within" : Str) = "below" by decide +kernel),if_neg δ,if_neg (show ¬("within" : Str) = "mask" by decide +kernel)];refine⟨aQ δ,fun p1 hp1=>⟨rfl,rfl,?_⟩⟩;rw[show inV (V.str "within") [V.str "is",V.str "within"]=true by decide +kernel,if_neg δ];have s2:=s1.trans (au (o:=HO.tup [V.str "is",V.str "within"]) hp1);have u2:=au (o:=HO.tup [V.str "is",V.str "within"]) hp1;generalize upd H1 p1 (HO.tup [V.str "is",V.str "within"])=H2 at s2 u2 |-;have el2:=s2 _ _ el;have es2:=s2 _ _ es;push_cast [el2];refine⟨rfl,jB _,?_⟩;rw[oX,dH];have no:∀Hx,Same H Hx->stepOk ss left (.wit k r)=false->Q (V.bl false) Hx:=fun Hx sx hf=>stp _ sx _ (by
      show(stepOk ss left (.wit k r)&&_)=false;rw[hf,Bool.false_and])
     have fin:stepOk ss left (.wit k r)=true->∀(σ':L2.St),True:=fun _ _=>trivial;cases hc:left.contains k with
     | false=>
      rw[if_pos (show(!false)=true from rfl)];refine no _ s2 ?_;show(left.contains k&&decide (left.length≠1))=false;rw[hc];rfl
     | true=>
      rw[if_neg δ];have hk:=contains_iff_mem.mp hc;by_cases h1:left.length=1
      ·rw[if_pos ω];refine no _ s2 ?_;show(left.contains k&&decide (left.length≠1))=false;rw[decide_eq_false (show ¬left.length≠1 from fun z=>z h1),Bool.and_false]
      rw[if_neg ω];rw[if_neg (show ¬("within" : Str) = "is" by decide +kernel)];have hst:stepOk ss left (.wit k r)=true:=by
       show(left.contains k&&decide (left.length≠1))=true;rw[hc,decide_eq_true h1];rfl
      have lfr:Lf ss (left.filter (·≠k)):=jl lf hst (_,r) (by simp [kids]);refine cF fun R hR=>?_;push_cast [el2];refine bQ (·≠k) (fun τ=>∃o0,τ=[o0,some (.int (k:Int))]) hR el2 ll ⟨_,rfl⟩ ?_ ?_
      ·rintro i k' τ acc Pn hk' ⟨o0,rfl⟩ h1 h2;push_cast;by_cases c:k'=k
       ·subst c;rw[decide_eq_true (show((k':Nat):Int)=(k':Int) from rfl),if_neg δ];exact h2 (by simp) _ ⟨_,rfl⟩
       rw[decide_eq_false (show ¬((k':Nat):Int)=(k:Int) by omega),if_pos (show(!false)=true from rfl)];exact h1 (by simpa using c) _ ⟨_,rfl⟩
      intro d1 hd1;have s3:=s2.trans (au (o:=HO.lst (nv (left.filter (·≠k)))) hd1);have u3:=u2.trans (au (o:=HO.lst (nv (left.filter (·≠k)))) hd1);have ed1:upd H2 d1 (HO.lst (nv (left.filter (·≠k)))) d1=_:=aB;have od1:=hn.new (s2.none hd1);generalize upd H2 d1 (HO.lst (nv (left.filter (·≠k))))=H3 at s3 u3 ed1 |-;have epa3:=u3 _ _ epa1;push_cast [epa3];refine⟨_,_,_,ok,ss,_,r,rfl,hn.same s3,ts0.same s3,bf od1 ed1 (le_trans (length_filter_le ..) ll),t3.same u3,lfr,by have:dI (.wit k r)<n+1:=hdep;simp only[dI] at this;omega,fun H5 s5=>?_⟩;refine stp _ (s3.trans s5) _ ?_;show(stepOk ss left (.wit k r)&&okP ss r _)=_;rw[hst,Bool.true_and]
end
noncomputable abbrev mY:List Str:=["_law_stretches_here","_law_far"]
noncomputable abbrev dW:Stmt:=top 22
theorem vW:bK mY q5_ (ak dW):=⟨rfl,rfl,rfl,ψ,rfl,ψ,ψ⟩
theorem uX:NM_ mY dW 0 "_law_stretches_here" := .of ψ
theorem xP:Bn "_law_all_moved" := ⟨ψ,ψ⟩
noncomputable abbrev vM:List Str:=["_law_stretches_here","_law_far"]
noncomputable abbrev gR:Stmt:=top 21
theorem Em:bK vM q5_ (ak gR):=⟨rfl,rfl,rfl,ψ,rfl,ψ,ψ⟩
theorem iu:NM_ vM gR 0 "_law_stretches_here" := .of ψ
theorem oO:NM_ vM gR 1 "_law_far" := .of ψ
theorem nM:GI_ gR "_law_all_moved" := by decide +kernel
theorem xO:Bn "_law_moved" := ⟨ψ,ψ⟩
noncomputable abbrev iU:List Str:=["_law_stretches_here","_law_made","_law_low","_law_high","_law_label","_law_begin"]
noncomputable abbrev dw:Stmt:=top 23
theorem g8:bK iU q9_ (ak dw):=⟨rfl,rfl,rfl,ψ,rfl,ψ,ψ⟩
theorem yF:NM_ iU dw 0 "_law_stretches_here" := .of ψ
theorem fu:NM_ iU dw 1 "_law_made" := .of ψ
theorem mL:NM_ iU dw 2 "_law_low" := .of ψ
theorem qY:NM_ iU dw 3 "_law_high" := .of ψ
theorem mK:NM_ iU dw 4 "_law_label" := .of ψ
theorem mJ:NM_ iU dw 5 "_law_begin" := .of ψ
theorem vo:GI_ dw "int" := by decide +kernel
theorem Dd:Bn "_law_joined" := ⟨ψ,ψ⟩
theorem pB (xs:List V)(n:Nat):jj xs (some (n:Int)) none=xs.drop n:=by
 unfold jj;have e2:HT.sIx xs.length xs.length none=xs.length:=rfl;rw[e2];rcases lt_or_ge n xs.length with h|h
 ·have e1:HT.sIx xs.length 0 (some (n:Int))=n:=by
   simp only[HT.sIx];split <;> omega
  rw[e1,take_of_length_le (by rw[length_drop];exact le_refl _)]
 have e1:HT.sIx xs.length 0 (some (n:Int))=xs.length:=by
  simp only[HT.sIx];split <;> omega
 rw[e1,List.drop_of_length_le h,sub_self];rfl
theorem um (xs:List V)(n:Nat):jj xs none (some (n:Int))=xs.take n:=by
 unfold jj;have e1:HT.sIx xs.length 0 none=0:=rfl;rw[e1];rcases lt_or_ge n xs.length with h|h
 ·have e2:HT.sIx xs.length xs.length (some (n:Int))=n:=by
   simp only[HT.sIx];split <;> omega
  rw[e2];rfl
 have e2:HT.sIx xs.length xs.length (some (n:Int))=xs.length:=by
  simp only[HT.sIx];split <;> omega
 rw[e2,take_of_length_le h];show(xs.drop 0).take (xs.length-0)=xs;rw[List.drop_zero,Nat.sub_zero,List.take_length]
section
variable {P:Program}{w:World}{K:PySem.W.Frag}{mg:Str->Option Value}{base:Heap}{f:Addr}{fd:FuncData}{bs:List Str}
theorem wA (hB:∀x:Str,x∈BLs->mg x=none) (F:Fun K "_law_all_moved" "_law_all_moved" dW f fd):dN P w K mg base CX0 1 f fd q5_ ql:=by
 refine F.okq vW (fun vs H Q E h=>?_) (fun cdv A outer s H vs Q E hr h=>?_)
 ·obtain⟨s,far,ok,ss,rfl,_⟩:=h;rfl
 obtain⟨s,far,ok,ss,rfl,hn,ts,h100,q⟩:=h;refine⟨_,(aL (aO (cX (NX:=mY) (kX:=(ak dW).names) ["_law_low","_law_high","_law_label","_law_far"] [none,none,none,some 1] rfl rfl ⟨rfl,ψ,ψ,ψ,ψ⟩ rfl (b7 (ao uX)) (fun _ _ _ _ _=>(jg (n:=3) rfl (bH (bI 0 (show List.Nodup (["_law_low","_law_high","_law_label","_law_far"]:List Str) from by decide +kernel) rfl (Or.inl rfl)) (bH (bI 1 (show List.Nodup (["_law_low","_law_high","_law_label","_law_far"]:List Str) from by decide +kernel) rfl (Or.inl rfl)) (bH (bI 2 (show List.Nodup (["_law_low","_law_high","_law_label","_law_far"]:List Str) from by decide +kernel) rfl (Or.inl rfl)) gF rfl) rfl) rfl) rfl rfl)) (fun _ _ _ _ _=>mF) (fun _ _ _ _ _=>(b8 (aj (aN aV (aW 0) (aW 3)) (aj (aN aV (aW 1) (aW 3)) (aj (aW 2) aA rfl) rfl) rfl)))))),?_⟩;obtain⟨sa,xs,rfl,os,es,zs,tss⟩:=fH ts;have hxl:=tss.length;rw[length_map] at hxl;push_cast;refine cF fun R hR=>?_;push_cast [es];obtain⟨Pc,hPc⟩:∃Pv:Nat->List V->L2.St->Hp->Prop,Pv=fun(i:Nat) acc τ H'=>∃(us:Sts)(o1 o2 o3:Option V),Same H H'/\aJ ok H' acc (us.map stD)/\us.length=i/\τ=[o1,o2,o3,some (.int far)]:=⟨_,rfl⟩;refine rQ hR (xs:=xs) (aQ zs) Pc (by rw[hPc];exact⟨[],_,_,_,Same.refl _,.nil,rfl,rfl⟩) ?_ ?_ ?_ ?_
 ·intro i9 acc τ H10 pc;rw[hPc] at pc;obtain⟨us,o1,o2,o3,_,ta,hus,rfl⟩:=pc;have:=ta.length;rw[length_map] at this;omega
 ·intro i9 acc τ H10 pc;rw[hPc] at pc;obtain⟨us,o1,o2,o3,s10,ta,hus,rfl⟩:=pc;exact SqL.of (s10 _ _ es)
 ·intro i9 x acc τ H10 hx pc;rw[hPc] at pc;obtain⟨us,o1,o2,o3,s10,ta,hus,rfl⟩:=pc;obtain⟨a,st,rfl,oa,_,ea⟩:=(tss.same s10).st hx;push_cast [ea];refine⟨aQ δ,fun t ht=>?_⟩;rw[hPc];refine⟨us++[(st.1+far,st.2.1+far,st.2.2)],_,_,_,s10.trans (au ht),?_,by simp [hus],rfl⟩;rw[map_append];exact(ta.same (au ht)).append (.cons (jw (hn.new (s10.none ht)) aB) .nil)
 intro acc τ H10 d pc hd;rw[hPc] at pc;obtain⟨us,o1,o2,o3,s10,ta,hus,rfl⟩:=pc;have hal:=ta.length;rw[length_map] at hal;exact q d us _ (s10.trans (au hd)) (.lst (hn.new (s10.none hd)) aB ω (ta.same (au hd))) ω
theorem Gg (hB:∀x:Str,x∈BLs->mg x=none) (CZAllMoved:Cal P w K mg base "_law_all_moved" 1 q5_ ql) (F:Fun K "_law_moved" "_law_moved" gR f fd):dN P w K mg base CX0 2 f fd q5_ ql:=by
 refine F.okq Em (fun vs H Q E h=>?_) (fun cdv A outer s H vs Q E hr h=>?_)
 ·obtain⟨s,far,ok,ss,rfl,_⟩:=h;rfl
 obtain⟨s,far,ok,ss,rfl,hn,ts,h100,q⟩:=h;refine⟨_,(aD (bM (je (fZ (aK (bF hr.aP) (ao oO) aq (aG _)) (fK (aK (Mw hr.aP) (ao iu) (cJ aA) (aG _))))) (aL (aO (ao iu))) bx)
  (aL (aO (aN aV (cJ (aj (b8 (aj (aH aR (aH aR (ao iu) aq (fun _ _=>rfl)) aq (fun _ _=>rfl)) (aj (aN aV (aH aR (aH aR (ao iu) aq (fun _ _=>rfl)) aq (fun _ _=>rfl)) (ao oO)) (aj (aH aR (aH aR (ao iu) aq (fun _ _=>rfl)) aq (fun _ _=>rfl)) aA rfl) rfl) rfl)) aA rfl)) (aX CZAllMoved (hr.mono δ) nM xP (aj (dX qC (ao iu) (fL aq) fM) (aj (ao oO) aA rfl) rfl) rfl rfl))))),?_⟩
 obtain⟨sa,xs,rfl,os,es,zs,tss⟩:=fH ts;have hxl:=tss.length;rw[length_map] at hxl;push_cast [es];split
 ·exact q sa ss H (Same.refl _) ts rfl
 refine⟨zero_le _,fun p0 hp0=>?_⟩;have s0:=au (o:=HO.lst []) hp0;refine⟨sa,p0,xs,rfl,rfl,s0 _ _ es,aB,_,rfl,?_⟩;generalize upd H p0 (HO.lst [])=H0 at s0 |-;have es0:=s0 _ _ es;cases hx:xs with
 | nil=>
  rw[if_pos (show([]:List V).isEmpty=true from rfl)];exact q sa ss H0 s0 (ts.same s0) rfl
 | cons y ys=>
  rw[if_neg (show ¬(y::ys).isEmpty=true by simp)];subst hx;obtain⟨a,st,rfl,oa,_,ea⟩:=(tss.same s0).st (i:=0) rfl;push_cast [es0,ea];refine⟨aQ δ,fun p1 hp1=>⟨aQ δ,fun p2 hp2=>?_⟩⟩;have s1:=au (o:=HO.tup [V.int st.1,V.int (st.2.1+far),V.int st.2.2]) hp1;have e1:upd H0 p1 (HO.tup [V.int st.1,V.int (st.2.1+far),V.int st.2.2]) p1=_:=aB;generalize upd H0 p1 (HO.tup [V.int st.1,V.int (st.2.1+far),V.int st.2.2])=H1 at s1 e1 hp2 |-;have s2:=au (o:=HO.lst [V.ref p1]) hp2;have e2:upd H1 p2 (HO.lst [V.ref p1]) p2=_:=aB;have e12:=s2 _ _ e1;generalize upd H1 p2 (HO.lst [V.ref p1])=H2 at s2 e2 e12 |-;have s02:=s0.trans (s1.trans s2);have es2:=s02 _ _ es;push_cast [es2];intro p3 hp3;rw[show(some (1:Int))=some ((1:Nat):Int) from rfl,pB];have s3:=au (o:=HO.lst ((V.ref a::ys).drop 1)) hp3;have e3:upd H2 p3 (HO.lst ((V.ref a::ys).drop 1)) p3=_:=aB;have s03:=s02.trans s3;have op3:=hn.new (s02.none hp3);have op1:=hn.new (s0.none hp1);have e13:=s3 _ _ e12;have e23:=s3 _ _ e2;generalize upd H2 p3 (HO.lst ((V.ref a::ys).drop 1))=H3 at s3 e3 s03 e13 e23 |-;have tdr:=(tss.same s03).drop 1;rw[<- map_drop] at tdr;refine⟨_,far,ok,ss.drop 1,rfl,hn.same s03,.lst op3 e3 (by rw[length_drop];omega) tdr,by rw[length_drop];omega,fun b ss' H4 s4 tb hb=>?_⟩;obtain⟨b',zs',eb,ob,ebs,zb,tbs⟩:=fH tb;cases eb;have e24:=s4 _ _ e23;have hzl:=tbs.length;rw[length_map] at hzl;rw[length_drop] at hb;push_cast [e24,ebs];refine⟨aQ ω,fun p5 hp5=>?_⟩;refine q p5 ((st.1,st.2.1+far,st.2.2)::ss') _ ((s03.trans s4).trans (au hp5)) (.lst (hn.new ((s03.trans s4).none hp5)) aB (by rw[length_cons];omega) ?_) (by rw[length_cons,hb];simp at hxl;omega);exact aJ.append (.cons ((jw op1 (s4 _ _ e13)).same (au hp5)) .nil) (tbs.same (au hp5))
theorem BR (hB:∀x:Str,x∈BLs->mg x=none) (F:Fun K "_law_joined" "_law_joined" dw f fd):dN P w K mg base CX0 1 f fd q9_ vR:=by
 refine F.okq g8 (fun vs H Q E h=>?_) (fun cdv A outer s H vs Q E hr h=>?_)
 ·obtain⟨s,ok,ss,rfl,_⟩:=h;rfl
 obtain⟨s,ok,ss,rfl,hn,ts,h100,q⟩:=h;refine⟨_,(aD (bV fu g8.nd (cJ aA) rfl (.inl rfl))
  (aD (qH PassesOwn.never rfl (b7 (ao yF)) (jg (n:=3) rfl (bH (fO mL g8.nd (.inl rfl)) (bH (fO qY g8.nd (.inl rfl)) (bH (fO mK g8.nd (.inl rfl)) gF rfl) rfl) rfl) rfl rfl)
  (aD (bV mJ g8.nd (zU (aK (yw hr.aP) (ao fu) (cJ aA) (aG _)) (aN aV (aH aR (aH aR (ao fu) (j8 iy aq) (fun _ _=>rfl)) aq (fun _ _=>rfl)) aq) (ao mL)) rfl (.inl rfl))
  (aL (uR (zX (ao fu) (b8 (aj (ao mJ) (aj (aN iC (aN aV (ao mJ) (ao qY)) (ao mL)) (aj (aN aV (ao mK) (aN fQ aq (zW mW vo (hB "int" rB) boot_int rT (aj (jA (dG (yw hr.aP) (ao fu) (cJ aA) (aG _)) (jz (dG (bF hr.aP) (aH aR (aH aR (ao fu) (j8 iy aq) (fun _ _=>rfl)) aq (fun _ _=>rfl)) (ao mK) (aG _)))) aA rfl) rfl rfl))) aA rfl) rfl) rfl)) rfl rfl rfl rfl rfl) rfl))) (fun _=>rfl))
  (aL (aO (ao fu))))),?_⟩
 obtain⟨sa,xs,rfl,os,es,zs,tss⟩:=fH ts;have hxl:=tss.length;rw[length_map] at hxl;refine aU fun k hk=>?_;push_cast;refine⟨aQ δ,fun lm hlm=>?_⟩;have s1:=au (o:=HO.lst []) hlm;have e1:upd H lm (HO.lst []) lm=_:=aB;generalize upd H lm (HO.lst [])=H1 at s1 e1 |-;subst hk;refine aU fun k hk=>?_;refine wZ fun R hR=>?_;have es1:=s1 _ _ es;push_cast [es1];obtain⟨Pv,hPv⟩:∃Pv:Nat->L2.St->Hp->Prop,Pv=fun(i:Nat) σ H'=>∃(us:Sts)(ys:List V)(o2 o3 o4 o5:Option V),Same H H'/\H' lm=some (.lst ys)/\aJ (fun x=>ok x/\x≠lm) H' ys (us.map stD)/\us.length=i/\σ=[some (.ref sa),some (.ref lm),o2,o3,o4,o5]:=⟨_,rfl⟩;refine KD hR (xs:=xs) Pv (by rw[hPv];exact⟨[],_,_,_,_,_,s1,e1,.nil,rfl,rfl⟩) (fun i σ H' _ pv=>?_) ?_ ?_
 ·rw[hPv] at pv;obtain⟨_,_,_,_,_,_,s',_⟩:=pv;exact SqL.of (s' _ _ es)
 ·intro i x σ H4 hx pv;rw[hPv] at pv;obtain⟨us,ys,o2,o3,o4,o5,s4,e4,t4,hus,rfl⟩:=pv;have hi:=(List.getElem?_eq_some_iff.mp hx).1;have hyl:=t4.length;rw[length_map] at hyl;obtain⟨a,st,rfl,oa,_,ea⟩:=(tss.same s4).st hx;have app:∀(H5:Hp)(A B C:Int)(t:Addr),Same H4 H5->H5 t=none->∀o2' o3' o4' o5',Pv (i+1) [some (.ref sa),some (.ref lm),o2',o3',o4',o5'] (upd (upd H5 t (HO.tup [V.int A,V.int B,V.int C])) lm (HO.lst (ys++[V.ref t]))):=by
   intro H5 A B C t s5 ht o2' o3' o4' o5';have s6:=s5.trans (au (o:=HO.tup [V.int A,V.int B,V.int C]) ht);have et:upd H5 t (HO.tup [V.int A,V.int B,V.int C]) t=_:=aB;have nt:t≠lm:=(aM (s5 _ _ e4) ht).symm;have ot:ok t:=hn.new ((s4.trans s5).none ht);generalize upd H5 t (HO.tup [V.int A,V.int B,V.int C])=H6 at s6 et |-;rw[hPv];have kp:∀a o,(ok a/\a≠lm)->H6 a=some o->(ok a/\a≠lm)/\upd H6 lm (HO.lst (ys++[V.ref t])) a=some o:=fun a o h e=>⟨h,by rw[aZ h.2];exact e⟩;refine⟨us++[(A,B,C)],_,_,_,_,_,oG (s4.trans s6) hlm,aB,?_,by simp [hus],rfl⟩;rw[map_append];exact((t4.same s6).keep kp).append (.cons ((jw (ok:=fun x=>ok x/\x≠lm) ⟨ot,nt⟩ et).keep kp) .nil)
  push_cast [ea,e4];refine⟨zero_le _,fun p0 hp0=>?_⟩;have s5:=au (o:=HO.lst []) hp0;refine⟨lm,p0,ys,rfl,rfl,s5 _ _ e4,aB,_,rfl,?_⟩;generalize upd H4 p0 (HO.lst [])=H5 at s5 |-;have e5:=s5 _ _ e4;have hlt:ys.length<sizeLine:=lt_of_lt_of_le ω (aQ (le_refl 1000000));cases hy:ys.isEmpty with
  | true=>
   rw[if_neg δ];push_cast [e5];refine⟨zero_le _,fun p1 hp1=>?_⟩;have s6:=s5.trans (au (o:=HO.lst []) hp1);refine⟨lm,p1,ys,rfl,rfl,(au hp1) _ _ e5,aB,_,rfl,?_⟩;generalize upd H5 p1 (HO.lst [])=H6 at s6 |-;have e6:=s6 _ _ e4;rw[hy,if_neg δ];push_cast [e6];refine⟨.inl ⟨δ,δ⟩,aQ δ,fun t ht=>?_⟩;rw[(au ht) _ _ e6,vK];exact⟨hlt,app _ _ _ _ t s6 ht _ _ _ _⟩
  | false=>
   have hpos:0<ys.length:=by
    cases ys with
    | nil=>cases hy
    | cons a b=>simp
   have hyg:ys[ys.length-1]?=some (ys[ys.length-1]'ω):=getElem?_eq_getElem ω;obtain⟨pl,stl,epl,_,_,el5⟩:=(t4.same s5).st hyg;rw[epl] at hyg;have hat:atI ys (-1)=some (V.ref pl):=by
    obtain⟨ya,yb,rfl⟩:=gA ys hpos;rw[length_append,length_singleton,add_sub_cancel,getElem?_append_right (le_refl _),sub_self] at hyg;cases hyg;exact nW ya _
   rw[if_pos (show(!false)=true from rfl)];push_cast [e5,hat,el5];refine⟨zero_le _,fun p1 hp1=>?_⟩;have s6:=s5.trans (au (o:=HO.lst []) hp1);have el6:=(au (o:=HO.lst []) hp1) _ _ el5;refine⟨lm,p1,ys,rfl,rfl,(au hp1) _ _ e5,aB,_,rfl,?_⟩;generalize upd H5 p1 (HO.lst [])=H6 at s6 el6 |-;have e6:=s6 _ _ e4;rw[hy,if_pos (show(!false)=true from rfl)];push_cast [e6,hat,el6];refine⟨.inl ⟨δ,δ⟩,aQ δ,fun t ht=>?_⟩;rw[(au ht) _ _ e6,vK];exact⟨hlt,app _ _ _ _ t s6 ht _ _ _ _⟩
 intro σ H4 pv;rw[hPv] at pv;obtain⟨us,ys,o2,o3,o4,o5,s4,e4,t4,hus,rfl⟩:=pv;have hyl:=t4.length;rw[length_map] at hyl;show k _ _;subst hk;push_cast;exact q lm us H4 s4 (.lst (hn.new hlm) e4 ω (t4.keep fun a o h e=>⟨h.1,e⟩)) ω
end
noncomputable abbrev gJ:List Str:=["_law_tape_here","_law_stretches_here","_law_way","_law_at","_law_low","_law_high","_law_label"]
noncomputable abbrev cH:Stmt:=top 18
theorem jo:bK gJ q4_ (ak cH):=⟨rfl,rfl,rfl,ψ,rfl,ψ,ψ⟩
theorem lN:NM_ gJ cH 0 "_law_tape_here" := .of ψ
theorem cV:NM_ gJ cH 1 "_law_stretches_here" := .of ψ
theorem jq:NM_ gJ cH 2 "_law_way" := .of ψ
theorem ig:NM_ gJ cH 3 "_law_at" := .of ψ
theorem tZ:NM_ gJ cH 4 "_law_low" := .of ψ
theorem tY:NM_ gJ cH 5 "_law_high" := .of ψ
theorem oN:NM_ gJ cH 6 "_law_label" := .of ψ
theorem qb:GI_ cH "_law_joined" := by decide +kernel
theorem lg:GI_ cH "_law_moved" := by decide +kernel
theorem gH:GI_ cH "_law_take" := by decide +kernel
theorem jb:GI_ cH "enumerate" := by decide +kernel
theorem pO:GI_ cH "len" := by decide +kernel
theorem Ht:Bn "_law_other" := ⟨ψ,ψ⟩
noncomputable abbrev eG:List Str:=["_law_stretches_here","_law_labels","_law_masks","_law_label"]
noncomputable abbrev bJ:Stmt:=top 26
theorem eO:bK eG q9_ (ak bJ):=⟨rfl,rfl,rfl,ψ,rfl,ψ,ψ⟩
theorem qW:NM_ eG bJ 0 "_law_stretches_here" := .of ψ
theorem iH:NM_ eG bJ 1 "_law_labels" := .of ψ
theorem fV:NM_ eG bJ 2 "_law_masks" := .of ψ
theorem kJ:NM_ eG bJ 3 "_law_label" := .of ψ
theorem oY:GI_ bJ "set" := by decide +kernel
theorem lY:GI_ bJ "sorted" := by decide +kernel
theorem tH:Bn "_law_plain_plans" := ⟨ψ,ψ⟩
theorem Hw {α:Type}(xs:List α)(n:Nat):atI xs (n:Int)=xs[n]?:=by
 cases h:xs[n]? with
 | some x=>exact cU h
 | none=>
  have hn:=List.getElem?_eq_none_iff.mp h;unfold atI;rw[show ixN xs.length (n:Int)=none from by unfold ixN;rw[if_pos ω,if_neg ω]];rfl
theorem Dh {xs:List V}(h:0<xs.length):atI xs (-1)=xs[xs.length-1]?:=by
 obtain⟨a,b,rfl⟩:=gA xs h;rw[nW,length_append,length_singleton,add_sub_cancel,getElem?_append_right (le_refl _),sub_self];rfl
section
variable {P:Program}{w:World}{K:PySem.W.Frag}{mg:Str->Option Value}{base:Heap}{f:Addr}{fd:FuncData}{bs:List Str}
theorem Ge (hB:∀x:Str,x∈BLs->mg x=none) (F:Fun K "_law_plain_plans" "_law_plain_plans" bJ f fd):dN P w K mg base CX0 1 f fd q9_ zL:=by
 refine F.okq eO (fun vs H Q E h=>?_) (fun cdv A outer s H vs Q E hr h=>?_)
 ·obtain⟨s,ok,ss,rfl,_⟩:=h;rfl
 obtain⟨s,ok,ss,rfl,hn,ts,h0,h60,q⟩:=h;refine⟨_,(aD (bV iH eO.nd (IV rfl lY (hB "sorted" Ce) oY (hB "set" M7) (aj (cX (NX:=eG) (kX:=(ak bJ).names) ["_law_low","_law_high","_law_label"] [none,none,none] rfl rfl ⟨rfl,ψ,ψ,ψ,ψ⟩ rfl (b7 (ao qW)) (fun _ _ _ _ _=>(jg (n:=3) rfl (bH (bI 0 (show List.Nodup (["_law_low","_law_high","_law_label"]:List Str) from by decide +kernel) rfl (Or.inl rfl)) (bH (bI 1 (show List.Nodup (["_law_low","_law_high","_law_label"]:List Str) from by decide +kernel) rfl (Or.inl rfl)) (bH (bI 2 (show List.Nodup (["_law_low","_law_high","_law_label"]:List Str) from by decide +kernel) rfl (Or.inl rfl)) gF rfl) rfl) rfl) rfl rfl)) (fun _ _ _ _ _=>mF) (fun _ _ _ _ _=>(aW 2))) aA rfl)) rfl (.inl rfl))
  (aD (bV fV eO.nd (b8 (aj bT (aj (aH aR (ao iH) (j8 iy aq) (fun _ _=>rfl)) aA rfl) rfl)) rfl (.inl rfl))
  (aD (qH PassesOwn.never rfl (b7 (dX qC (ao iH) fM (fL (j8 iy aq)))) (fO kJ eO.nd (.inl rfl))
  (aL (bV fV eO.nd (b8 (aj bT (aj (ao kJ) (aj (ao fV) aA rfl) rfl) rfl)) rfl (.inl rfl))) (fun _=>rfl))
  (aL (aO (cJ (aj (b8 (aj bT aA rfl)) (aj (ao fV) aA rfl) rfl))))))),?_⟩
 obtain⟨sa,xs,rfl,os,es,zs,tss⟩:=fH ts;have hxl:=tss.length;rw[length_map] at hxl;refine aU fun k hk=>?_;push_cast [tSS];refine cF fun R hR=>?_;push_cast [es];obtain⟨Pc,hPc⟩:∃Pv:Nat->List V->L2.St->Hp->Prop,Pv=fun(i:Nat) acc τ H'=>∃(us:List Int)(o1 o2 o3:Option V),H'=H/\acc=us.map V.int/\us.length=i/\τ=[o1,o2,o3]:=⟨_,rfl⟩;refine rQ hR (xs:=xs) (aQ zs) Pc (by rw[hPc];exact⟨[],_,_,_,rfl,rfl,rfl,rfl⟩) ?_ ?_ ?_ ?_
 ·intro i9 acc τ H10 pc;rw[hPc] at pc;obtain⟨us,o1,o2,o3,rfl,rfl,hus,rfl⟩:=pc;rw[length_map];omega
 ·intro i9 acc τ H10 pc;rw[hPc] at pc;obtain⟨us,o1,o2,o3,rfl,rfl,hus,rfl⟩:=pc;exact SqL.of es
 ·intro i9 x acc τ H10 hx pc;rw[hPc] at pc;obtain⟨us,o1,o2,o3,rfl,rfl,hus,rfl⟩:=pc;obtain⟨a,st,rfl,oa,_,ea⟩:=tss.st hx;push_cast [ea];rw[hPc];exact⟨us++[st.2.2],_,_,_,rfl,by simp,by simp [hus],rfl⟩
 intro acc τ H10 d pc hd;rw[hPc] at pc;obtain⟨us,o1,o2,o3,rfl,rfl,hus,rfl⟩:=pc;have s1:=au (o:=HO.lst (us.map V.int)) hd;have e1:upd H10 d (HO.lst (us.map V.int)) d=_:=aB;generalize upd H10 d (HO.lst (us.map V.int))=H1 at s1 e1 |-;push_cast;refine⟨us,SqL.of e1,ω,fun pR ys hpR hperm _=>?_⟩;have hyl:=hperm.length_eq;have hdl:=SRT.vC us;have hyp:0<ys.length:=by
  rw[hyl];cases hu:us with
  | nil=>rw[hu] at hus;simp at hus;omega
  | cons u r=>exact List.length_pos_of_mem (SRT.Km.mpr (mem_cons_self ..))
 have s2:=s1.trans (au (o:=HO.lst (ys.map V.int)) hpR);have e2:upd H1 pR (HO.lst (ys.map V.int)) pR=_:=aB;generalize upd H1 pR (HO.lst (ys.map V.int))=H2 at s2 e2 |-;obtain⟨ya,yb,rfl⟩:=gA ys hyp;subst hk;refine aU fun k hk=>?_;have hat:atI ((ya++[yb]).map V.int) (-1)=some (V.int yb):=by rw[map_append];exact nW _ _
 push_cast [e2,hat];refine⟨aQ δ,fun pm hpm=>?_⟩;have s3:=s2.trans (au (o:=HO.tup [V.str "pick",V.int yb]) hpm);have e3:upd H2 pm (HO.tup [V.str "pick",V.int yb]) pm=_:=aB;have om:=hn.new (s2.none hpm);have e23:=(au (o:=HO.tup [V.str "pick",V.int yb]) hpm) _ _ e2;generalize upd H2 pm (HO.tup [V.str "pick",V.int yb])=H3 at s3 e3 e23 |-;subst hk;refine aU fun k hk=>?_;refine wZ fun R hR=>?_;push_cast [e23];intro pc hpc;rw[xu];have s4:=s3.trans (au (o:=HO.lst ((ya++[yb]).map V.int).dropLast) hpc);have u4:=au (o:=HO.lst ((ya++[yb]).map V.int).dropLast) hpc;have e4:upd H3 pc (HO.lst ((ya++[yb]).map V.int).dropLast) pc=some (.lst (ya.map V.int)):=by rw[aB,map_append];simp
 generalize upd H3 pc (HO.lst ((ya++[yb]).map V.int).dropLast)=H4 at s4 u4 e4 |-;have hyal:ya.length<=60:=by rw[length_append,length_singleton] at hyl;omega
 obtain⟨Pv,hPv⟩:∃Pv:Nat->L2.St->Hp->Prop,Pv=fun(i:Nat) σ H'=>∃(m:Pl)(mv:V)(o3:Option V),Same H4 H'/\aF ok H' mv (plD m)/\dI m<=i/\cD m<=i+1/\σ=[some (.ref sa),some (.ref pR),some mv,o3]:=⟨_,rfl⟩;refine KD hR (xs:=ya.map V.int) Pv (by rw[hPv];exact⟨.pick yb,_,_,Same.refl _,.tup om (u4 _ _ e3) (by show 2<=1000000;decide) (.cons (.str _) (.cons (.int _) .nil)),le_refl _,le_refl _,rfl⟩) (fun i σ H' _ pv=>?_) ?_ ?_
 ·rw[hPv] at pv;obtain⟨_,_,_,s',_⟩:=pv;exact SqL.of (s' _ _ e4)
 ·intro i x σ H5 hx pv;rw[hPv] at pv;obtain⟨m,mv,o3,s5,tm,hd,hs,rfl⟩:=pv;obtain⟨l,_,rfl⟩:=mem_map.mp (mem_of_getElem? hx);push_cast;refine⟨aQ δ,fun t ht=>?_⟩;rw[hPv];refine⟨.msk l m,_,_,s5.trans (au ht),.tup (hn.new ((s4.trans s5).none ht)) aB (by show 3<=1000000;decide) (.cons (.str _) (.cons (.int _) (.cons (tm.same (au ht)) .nil))),?_,?_,rfl⟩
  ·simp only[dI];omega
  simp only[cD];omega
 intro σ H5 pv;rw[hPv] at pv;obtain⟨m,mv,o3,s5,tm,hd,hs,rfl⟩:=pv;rw[length_map] at hd hs;show k _ _;subst hk;push_cast;refine⟨aQ δ,fun t ht=>⟨aQ δ,fun r hr=>?_⟩⟩;have s6:=(s4.trans s5).trans (au (o:=HO.tup [V.str "table"]) ht);have e6:upd H5 t (HO.tup [V.str "table"]) t=_:=aB;have ot:=hn.new ((s4.trans s5).none ht);have tm6:=tm.same (au (o:=HO.tup [V.str "table"]) ht);generalize upd H5 t (HO.tup [V.str "table"])=H6 at s6 e6 tm6 hr |-;refine q r m _ (s6.trans (au hr)) (.lst (hn.new (s6.none hr)) aB (by show 2<=1000000;decide) (.cons (.tup ot ((au hr) _ _ e6) (by show 1<=1000000;decide) (.cons (.str _) .nil)) (.cons (tm6.same (au hr)) .nil))) ω ω
theorem Gf (hB:∀x:Str,x∈BLs->mg x=none) (CZTake:Cal P w K mg base "_law_take" 2 q0_ (jd 2)) (CZMoved:Cal P w K mg base "_law_moved" 2 q5_ ql) (CZJoined:Cal P w K mg base "_law_joined" 1 q9_ vR) (F:Fun K "_law_other" "_law_other" cH f fd):dN P w K mg base CX0 3 f fd q4_ vQ:=by
 refine F.okq jo (fun vs H Q E h=>?_) (fun cdv A outer s H vs Q E hr h=>?_)
 ·obtain⟨p,s,B,ss,rfl,_⟩:=h;rfl
 obtain⟨p,s,B,ss,rfl,tp,hB0,hB1,ts,h0,h59,q⟩:=h;refine⟨_,(aD (j7 (b8 (aj (aX CZTake (hr.mono δ) gH bO (aj (ao lN) (aj aq aA rfl) rfl) rfl rfl) (aj (aX CZTake (hr.mono δ) gH bO (aj (ao lN) (aj (bN aY pO (hB "len" cj) PySem.boot_len cu (aj (ao cV) aA rfl) rfl rfl) aA rfl) rfl) rfl rfl) aA rfl) rfl)) (jg (n:=2) rfl (bH (fO jq jo.nd (.inl rfl)) (bH (fO ig jo.nd (.inl rfl)) gF rfl) rfl) rfl rfl) rfl rfl rfl)
  (aD (j7 (aH aR (ao cV) (ao ig) (fun _ _=>rfl)) (jg (n:=3) rfl (bH (fO tZ jo.nd (.inl rfl)) (bH (fO tY jo.nd (.inl rfl)) (bH (fO oN jo.nd (.inl rfl)) gF rfl) rfl) rfl) rfl rfl) rfl rfl rfl)
  (aD (bM (je (j6 (aK (bF hr.aP) (ao jq) aq (aG _)) (jy (aK qI (bN aY pO (hB "len" cj) PySem.boot_len cu (aj (ao cV) aA rfl) rfl rfl) aq (aG _))))) (aL (aO (aX CZJoined (hr.mono δ) qb Dd (aj (cX (NX:=gJ) (kX:=(ak cH).names) ["_law_k","_law_one","_law_at"] [none,none,some 3] rfl rfl ⟨rfl,ψ,ψ,ψ,ψ⟩ rfl (wj jb (hB "enumerate" nF) (aj (ao cV) aA rfl) rfl) (fun _ _ _ _ _=>(jg (n:=2) rfl (bH (bI 0 (show List.Nodup (["_law_k","_law_one","_law_at"]:List Str) from by decide +kernel) rfl (Or.inl rfl)) (bH (bI 1 (show List.Nodup (["_law_k","_law_one","_law_at"]:List Str) from by decide +kernel) rfl (Or.inl rfl)) gF rfl) rfl) rfl rfl)) (fun _ _ _ _ _=>(eH (aK (dY hr.aP) (aW 0) (aW 2) (aG _)))) (fun _ _ _ _ _=>(aW 1))) aA rfl) rfl rfl))) bx)
  (aD (bM (aK (bF hr.aP) (ao jq) aq (aG _)) (aL (aO (aN aV (ao cV) (cJ (aj (b8 (aj (aN aV (aH aR (aH aR (ao cV) (j8 iy aq) (fun _ _=>rfl)) aq (fun _ _=>rfl)) aq) (aj (aN aV (aN aV (aH aR (aH aR (ao cV) (j8 iy aq) (fun _ _=>rfl)) aq (fun _ _=>rfl)) aq) (aX CZTake (hr.mono δ) gH bO (aj (ao lN) (aj aq aA rfl) rfl) rfl rfl)) (aj (aN aV (ao oN) aq) aA rfl) rfl) rfl)) aA rfl))))) bx)
  (aD (bM (aK (bF hr.aP) (ao jq) aq (aG _)) (aL (aO (aN aV (aX CZMoved (hr.mono δ) lg xO (aj (dX qC (ao cV) fM (fL (aN aV (ao ig) aq))) (aj aq aA rfl) rfl) rfl rfl) (aX CZMoved (hr.mono δ) lg xO (aj (dX qC (ao cV) (fL (aN aV (ao ig) aq)) fM) (aj (aN aV aq (aX CZTake (hr.mono δ) gH bO (aj (ao lN) (aj aq aA rfl) rfl) rfl rfl)) aA rfl) rfl) rfl rfl)))) bx)
  (aD (bM (aK (bF hr.aP) (ao jq) aq (aG _)) (aL (aO (aN aV (aN aV (dX qC (ao cV) fM (fL (ao ig))) (cJ (aj (b8 (aj (ao tZ) (aj (ao tY) (aj (aN aV (ao oN) aq) aA rfl) rfl) rfl)) aA rfl))) (dX qC (ao cV) (fL (aN aV (ao ig) aq)) fM)))) bx)
  (aL (aO (cX (NX:=gJ) (kX:=(ak cH).names) q12_ [none,none] rfl rfl ⟨rfl,ψ,ψ,ψ,ψ⟩ rfl (wj jb (hB "enumerate" nF) (aj (ao cV) aA rfl) rfl) (fun _ _ _ _ _=>(jg (n:=2) rfl (bH (bI 0 (show List.Nodup (["_law_k","_law_one"]:List Str) from by decide +kernel) rfl (Or.inl rfl)) (bH (bI 1 (show List.Nodup (["_law_k","_law_one"]:List Str) from by decide +kernel) rfl (Or.inl rfl)) gF rfl) rfl) rfl rfl)) (fun _ _ _ _ _=>mF) (fun _ _ _ _ _=>(b8 (aj (aH aR (aW 1) aq (fun _ _=>rfl)) (aj (aH aR (aW 1) aq (fun _ _=>rfl)) (aj (aH aR (cJ (aj (aH aR (aW 1) aq (fun _ _=>rfl)) (aj (aN aV aq (aH aR (aW 1) aq (fun _ _=>rfl))) aA rfl) rfl)) (aN gm (aW 0) aq) (fun _ _=>rfl)) aA rfl) rfl) rfl)))))))))))),?_⟩
 obtain⟨sa,xs,rfl,os,es,zs,tss⟩:=fH ts;have hxl:=tss.length;rw[length_map] at hxl;refine aU fun k hk=>?_;push_cast;refine⟨p,5,B,rfl,tp,by show B+2<=1000100;omega,δ,δ,δ,fun z=>absurd z δ,fun r1 H1 r10 r11 s1 tp1=>?_⟩;have es1:=s1 _ _ os es;push_cast [es1];refine⟨p,xs.length,B+2,rfl,tp1,by show B+2+2<=1000100;omega,ω,ω,δ,fun z=>absurd z ω,fun r2 H2 r20 r21 s2 tp2=>?_⟩;have sx2:=s1.trans s2;have es2:=sx2 _ _ os es;have tss2:=tss.cL sx2;refine⟨aQ δ,fun t0 ht0=>?_⟩;have s3:=au (o:=HO.tup [V.int r1,V.int r2]) ht0;have tp3:=tp2.same s3;generalize upd H2 t0 (HO.tup [V.int r1,V.int r2])=H3 at s3 tp3 |-;have sx3:=sx2.trans s3.x;have es3:=sx3 _ _ os es;have tss3:=tss.cL sx3;have ts3:=ts.cL sx3;obtain⟨j,rfl⟩:=Int.eq_ofNat_of_zero_le r20;have hj:j<ss.length:=ω;obtain⟨pj,xj,yj⟩:=tss3.stN hj;have nw:gh (·≠p) H3:=by
  obtain⟨a,b,c,e,_⟩:=tp3;exact qO e
 have fin:∀(a:Addr)(ss':Sts)(H':Hp),cg p H3 H'->bA H' p (B+10)->aF (·≠p) H' (.ref a) (.list (ss'.map stD))->0<ss'.length->ss'.length<=60->Q (.ref a) H':=fun a ss' H' s' tq t' l1 l2=>
  q a ss' H' (sx3.trans s') tq t' l1 l2
 have tp10:bA H3 p (B+10):=tp3.le (by show B+2+2<=B+10;omega);have nwX:∀{Hx:Hp}{B':Int},bA Hx p B'->gh (·≠p) Hx:=fun tx=>by
  obtain⟨a,b,c,e,_⟩:=tx;exact qO e
 subst hk;refine aU fun k hk=>?_;push_cast [es3,xj,yj];subst hk;generalize (bh ss j).1=lo,(bh ss j).2.1=hi,(bh ss j).2.2=lb at yj |-;refine aU fun k hk=>?_;refine mD fun kt ke hkt hke=>?_;push_cast [es3];by_cases c0:r1=0/\1<xs.length
 ·rw[if_pos c0.1,if_pos ω];subst hkt;push_cast;refine cF fun R hR=>?_;push_cast [ug,Ak,es3,Aj];obtain⟨Pc,hPc⟩:∃Pv:Nat->List V->L2.St->Hp->Prop,Pv=fun(i:Nat) acc τ H'=>∃(us:Sts)(o1 o2:Option V),Same H3 H'/\aJ (·≠p) H' acc (us.map stD)/\us.length+(if j<i then 1 else 0)=i/\τ=[o1,o2,some (.int (j:Int))]:=⟨_,rfl⟩;refine Hj hR (xs:=xs) (aQ zs) Pc (by rw[hPc];exact⟨[],_,_,Same.refl _,.nil,rfl,rfl⟩) ?_ ?_ ?_ ?_
  ·intro i acc τ H5 pc;rw[hPc] at pc;obtain⟨us,o1,o2,s5,ta,hl,rfl⟩:=pc;have:=ta.length;rw[length_map] at this;omega
  ·intro i acc τ H5 pc;rw[hPc] at pc;obtain⟨us,o1,o2,s5,ta,hl,rfl⟩:=pc;exact SqL.of (s5 _ _ es3)
  ·intro i x acc τ H5 p5 hx5 pc hp5;rw[hPc] at pc;obtain⟨us,o1,o2,s5,ta,hl,rfl⟩:=pc;have s6:=au (o:=HO.tup [V.int (i:Int),x]) hp5;have e6:upd H5 p5 (HO.tup [V.int (i:Int),x]) p5=_:=aB;have s56:=s5.trans s6;generalize upd H5 p5 (HO.tup [V.int (i:Int),x])=H6 at s6 e6 s56 |-;obtain⟨a,st,rfl,oa,_,ea⟩:=(tss3.same s56).st hx5;push_cast [e6];by_cases c:i=j
   ·subst c;rw[decide_eq_true (show((i:Nat):Int)=(i:Int) from rfl),if_neg δ,hPc];exact⟨us,_,_,s56,ta.same s6,by rw[if_neg ω] at hl;rw[if_pos ω];omega,rfl⟩
   rw[decide_eq_false (show ¬((i:Nat):Int)=(j:Int) by omega),if_pos (show(!false)=true from rfl),hPc];refine⟨us++[st],_,_,s56,?_,?_,rfl⟩
   ·rw[map_append];exact(ta.same s6).append (.cons (jw oa ea) .nil)
   rw[length_append,length_singleton];by_cases c2:j<i
   ·rw[if_pos c2] at hl;rw[if_pos ω];omega
   rw[if_neg c2] at hl;rw[if_neg ω];omega
  intro acc τ H5 d pc hd;rw[hPc] at pc;obtain⟨us,o1,o2,s5,ta,hl,rfl⟩:=pc;rw[if_pos ω] at hl;have hal:=ta.length;rw[length_map] at hal;have s6:=s5.trans (au (o:=HO.lst acc) hd);refine⟨_,_,us,rfl,nw.same s6,.lst (nw.new (s5.none hd)) aB ω (ta.same (au hd)),ω,fun b ss' H7 s7 t7 l7=>?_⟩;exact fin b ss' H7 (s6.trans s7).x (tp10.same (s6.trans s7)) t7 ω ω
 have he:∀(A B:Prop),B->(if r1=0 then (if 1<(xs.length:Int) then A else B) else B):=fun A B hb=>by
  split
  ·split
   ·exact absurd ⟨‹_›,ω⟩ c0
   exact hb
  exact hb
 refine he _ _ ?_;subst hke;push_cast;subst hk;refine aU fun k hk=>?_;refine mD fun kt ke hkt hke=>?_;push_cast;split
 ·subst hkt;obtain⟨pl,xl,yl⟩:=tss3.stN (k:=ss.length-1) ω;have hat:atI xs (-1)=some (V.ref pl):=by
   have hx:=Dh (xs:=xs) ω;rw[hx,<- xl];rw[Hw,hxl]
  push_cast [es3,hat,yl];refine⟨p,9,B+2+2,rfl,tp3,by show B+2+2+2<=1000100;omega,δ,δ,δ,fun z=>absurd z δ,fun r3 H4 r30 r31 s4 tp4=>?_⟩;push_cast;refine⟨aQ δ,fun a1 ha1=>⟨aQ δ,fun a2 ha2=>?_⟩⟩;have es4:=s4 _ _ os es3;have u1:=au (o:=HO.tup [V.int ((bh ss (ss.length-1)).2.1+1),V.int ((bh ss (ss.length-1)).2.1+1+r3),V.int (lb+50)]) ha1;have f1:upd H4 a1 (HO.tup [V.int ((bh ss (ss.length-1)).2.1+1),V.int ((bh ss (ss.length-1)).2.1+1+r3),V.int (lb+50)]) a1=_:=aB;have n1:=tp4.ne ha1;generalize upd H4 a1 (HO.tup [V.int ((bh ss (ss.length-1)).2.1+1),V.int ((bh ss (ss.length-1)).2.1+1+r3),V.int (lb+50)])=H5 at u1 f1 ha2 |-;have u2:=au (o:=HO.lst [V.ref a1]) ha2;have u12:=u1.trans u2;have f12:=u2 _ _ f1;rw[u12 _ _ es4,zq];generalize upd H5 a2 (HO.lst [V.ref a1])=H6 at u2 u12 f12 |-;refine⟨aQ (by rw[length_singleton];omega),fun a3 ha3=>?_⟩;have u3:=au (o:=HO.lst (xs++[V.ref a1])) ha3;have tp6:=tp4.same u12;refine fin a3 (ss++[((bh ss (ss.length-1)).2.1+1,(bh ss (ss.length-1)).2.1+1+r3,lb+50)]) _ (s4.trans (u12.trans u3).x) ((tp4.same (u12.trans u3)).le (by show B+2+2+2<=B+10;omega)) (.lst (tp6.ne ha3) aB (by rw[length_append,length_singleton];omega) ?_) (by simp) (by rw[length_append,length_singleton];omega);rw[map_append];exact((tss3.cL s4).same (u12.trans u3)).append (.cons ((jw (ok:=(·≠p)) n1 f12).same u3) .nil)
 subst hke;push_cast;subst hk;refine aU fun k hk=>?_;refine mD fun kt ke hkt hke=>?_;push_cast;split
 ·subst hkt;push_cast [es3];intro a1 ha1;rw[show(j:Int)+1=((j+1:Nat):Int) from by omega,um];have u1:=au (o:=HO.lst (xs.take (j+1))) ha1;have f1:upd H3 a1 (HO.lst (xs.take (j+1))) a1=_:=aB;have n1:=tp3.ne ha1;generalize upd H3 a1 (HO.lst (xs.take (j+1)))=H4 at u1 f1 |-;have tp4:=tp3.same u1;have tt:=(tss3.same u1).take (j+1);rw[<- map_take] at tt;refine⟨_,0,_,ss.take (j+1),rfl,nwX tp4,.lst n1 f1 (by rw[length_take];omega) tt,by rw[length_take];omega,fun b1 s1' H5 u5 tb1 lb1=>?_⟩;have es5:=(u1.trans u5) _ _ es3;have tp5:=tp4.same u5;push_cast [es5];intro a2 ha2;rw[pB];have u6:=au (o:=HO.lst (xs.drop (j+1))) ha2;have f6:upd H5 a2 (HO.lst (xs.drop (j+1))) a2=_:=aB;have n2:=tp5.ne ha2;generalize upd H5 a2 (HO.lst (xs.drop (j+1)))=H6 at u6 f6 |-;have tp6:=tp5.same u6;have u36:=(u1.trans u5).trans u6;refine⟨p,300,B+2+2,rfl,tp6,by show B+2+2+2<=1000100;omega,δ,δ,δ,fun z=>absurd z δ,fun r3 H7 r30 r31 s7 tp7=>?_⟩;push_cast;have td:=(tss3.same u36).drop (j+1);rw[<- map_drop] at td;have td7:=td.cL s7;refine⟨_,_,_,ss.drop (j+1),rfl,nwX tp7,.lst n2 (s7 _ _ n2 f6) (by rw[length_drop];omega) td7,by rw[length_drop];omega,fun b2 s2' H8 u8 tb2 lb2=>?_⟩;have tb1':=((tb1.same u6).cL s7).same u8;obtain⟨c1,y1,ec1,oc1,e1,z1,t1⟩:=fH tb1';cases ec1;obtain⟨c2,y2,ec2,oc2,e2,z2,t2⟩:=fH tb2;cases ec2;have hy1:=t1.length;rw[length_map] at hy1;have hy2:=t2.length;rw[length_map] at hy2;rw[length_take] at lb1;rw[length_drop] at lb2;push_cast [e1,e2];refine⟨aQ ω,fun a3 ha3=>?_⟩;have u9:=au (o:=HO.lst (y1++y2)) ha3;have tp8:=tp7.same u8;refine fin a3 (s1'++s2') _ ((u36.x.trans s7).trans (u8.trans u9).x) ((tp7.same (u8.trans u9)).le (by show B+2+2+2<=B+10;omega)) (.lst (tp8.ne ha3) aB (by rw[length_append];omega) ?_) (by rw[length_append];omega) (by rw[length_append];omega);rw[map_append];exact(t1.same u9).append (t2.same u9)
 subst hke;push_cast;subst hk;refine aU fun k hk=>?_;refine mD fun kt ke hkt hke=>?_;push_cast;split
 ·subst hkt;push_cast [es3];intro a1 ha1;rw[um];have u1:=au (o:=HO.lst (xs.take j)) ha1;have f1:upd H3 a1 (HO.lst (xs.take j)) a1=_:=aB;generalize upd H3 a1 (HO.lst (xs.take j))=H4 at u1 f1 |-;refine⟨aQ δ,fun a2 ha2=>⟨aQ δ,fun a3 ha3=>?_⟩⟩;have tp4:=tp3.same u1;have u2:=au (o:=HO.tup [V.int lo,V.int hi,V.int (lb+50)]) ha2;have f2:upd H4 a2 (HO.tup [V.int lo,V.int hi,V.int (lb+50)]) a2=_:=aB;have n2:=tp4.ne ha2;generalize upd H4 a2 (HO.tup [V.int lo,V.int hi,V.int (lb+50)])=H5 at u2 f2 ha3 |-;have u3:=au (o:=HO.lst [V.ref a2]) ha3;have f13:=(u2.trans u3) _ _ f1;have f23:=u3 _ _ f2;rw[f13,zq];have u13:=(u1.trans u2).trans u3;generalize upd H5 a3 (HO.lst [V.ref a2])=H6 at u3 f13 f23 u13 |-;refine⟨aQ (by rw[length_take,length_singleton];omega),fun a4 ha4=>?_⟩;have u4:=au (o:=HO.lst (xs.take j++[V.ref a2])) ha4;have f4:upd H6 a4 (HO.lst (xs.take j++[V.ref a2])) a4=_:=aB;generalize upd H6 a4 (HO.lst (xs.take j++[V.ref a2]))=H7 at u4 f4 |-;have u14:=u13.trans u4;have es7:=u14 _ _ es3;push_cast [es7];intro a5 ha5;rw[show(j:Int)+1=((j+1:Nat):Int) from by omega,pB];have u5:=au (o:=HO.lst (xs.drop (j+1))) ha5;have f5:upd H7 a5 (HO.lst (xs.drop (j+1))) a5=_:=aB;have f45:=u5 _ _ f4;generalize upd H7 a5 (HO.lst (xs.drop (j+1)))=H8 at u5 f5 f45 |-;have u15:=u14.trans u5;push_cast [f5,f45];refine⟨aQ (by simp only[length_append,length_take,length_singleton,length_drop];omega),fun a6 ha6=>?_⟩;have u6:=au (o:=HO.lst ((xs.take j++[V.ref a2])++xs.drop (j+1))) ha6;have tp8:=tp3.same u15;have u56:=(u4.trans u5).trans u6;have ta:=(tss3.same (u15.trans u6)).take j;have tb:=(tss3.same (u15.trans u6)).drop (j+1);rw[<- map_take] at ta;rw[<- map_drop] at tb;refine fin a6 ((ss.take j++[(lo,hi,lb+50)])++ss.drop (j+1)) _ (u15.trans u6).x ((tp3.same (u15.trans u6)).le (by show B+2+2<=B+10;omega)) (.lst (tp8.ne ha6) aB (by simp only[length_append,length_take,length_singleton,length_drop];omega) ?_) (by simp only[length_append,length_singleton];omega) (by simp only[length_append,length_take,length_singleton,length_drop];omega);rw[map_append,map_append];exact(ta.append (.cons ((jw (ok:=(·≠p)) n2 f23).same u56) .nil)).append tb
 subst hke;push_cast;subst hk;push_cast;refine cF fun R hR=>?_;push_cast [ug,Ak,es3,Aj];obtain⟨Pc,hPc⟩:∃Pv:Nat->List V->L2.St->Hp->Prop,Pv=fun(i:Nat) acc τ H'=>∃(us:Sts)(o1 o2:Option V),Same H3 H'/\aJ (·≠p) H' acc (us.map stD)/\us.length=i/\τ=[o1,o2]:=⟨_,rfl⟩;refine Hj hR (xs:=xs) (aQ zs) Pc (by rw[hPc];exact⟨[],_,_,Same.refl _,.nil,rfl,rfl⟩) ?_ ?_ ?_ ?_
 ·intro i acc τ H5 pc;rw[hPc] at pc;obtain⟨us,o1,o2,s5,ta,hl,rfl⟩:=pc;have:=ta.length;rw[length_map] at this;omega
 ·intro i acc τ H5 pc;rw[hPc] at pc;obtain⟨us,o1,o2,s5,ta,hl,rfl⟩:=pc;exact SqL.of (s5 _ _ es3)
 ·intro i x acc τ H5 p5 hx5 pc hp5;rw[hPc] at pc;obtain⟨us,o1,o2,s5,ta,hl,rfl⟩:=pc;have s6:=au (o:=HO.tup [V.int (i:Int),x]) hp5;have e6:upd H5 p5 (HO.tup [V.int (i:Int),x]) p5=_:=aB;have s56:=s5.trans s6;generalize upd H5 p5 (HO.tup [V.int (i:Int),x])=H6 at s6 e6 s56 |-;obtain⟨a,st,rfl,oa,_,ea⟩:=(tss3.same s56).st hx5;push_cast [e6,ea];refine⟨aQ δ,fun p7 hp7=>⟨δ,?_⟩⟩;have s7:=au (o:=HO.lst [V.int st.2.2,V.int (7+st.2.2)]) hp7;generalize upd H6 p7 (HO.lst [V.int st.2.2,V.int (7+st.2.2)])=H7 at s7 |-;obtain⟨lq,_,eq⟩:=j9 (is:=[st.2.2,7+st.2.2]) (r:=(i:Int)%2) ω (by show(i:Int)%2<2;omega);replace eq:atI [V.int st.2.2,V.int (7+st.2.2)] ((i:Int)%2)=some (.int lq):=eq;rw[eq];refine⟨_,rfl,aQ δ,fun p8 hp8=>?_⟩;rw[hPc];have s58:=(s56.trans s7).trans (au (o:=HO.tup [V.int st.1,V.int st.2.1,V.int lq]) hp8);refine⟨us++[(st.1,st.2.1,lq)],_,_,s58,?_,by simp [hl],rfl⟩;rw[map_append];exact(ta.same ((s6.trans s7).trans (au hp8))).append (.cons (jw (nw.new ((s56.trans s7).none hp8)) aB) .nil)
 intro acc τ H5 d pc hd;rw[hPc] at pc;obtain⟨us,o1,o2,s5,ta,hl,rfl⟩:=pc;have hal:=ta.length;rw[length_map] at hal;have s6:=s5.trans (au (o:=HO.lst acc) hd);exact fin d us _ s6.x (tp10.same s6) (.lst (nw.new (s5.none hd)) aB ω (ta.same (au hd))) ω ω
end
noncomputable abbrev n6:List Str:=["_law_script","_law_k","_law_tape_here","_law_stretches_here","_law_left","_law_plan_here","_law_turn","_law_other_here","_law_stays","_law_due","_law_found","_law_more"]
noncomputable abbrev dF:Stmt:=top 27
theorem jP:bK n6 ["_law_script"] (ak dF):=⟨rfl,rfl,rfl,ψ,rfl,ψ,ψ⟩
theorem Gq:NM_ n6 dF 0 "_law_script" := .of ψ
theorem Gp:NM_ n6 dF 1 "_law_k" := .of ψ
theorem kW:NM_ n6 dF 2 "_law_tape_here" := .of ψ
theorem ji:NM_ n6 dF 3 "_law_stretches_here" := .of ψ
theorem rA:NM_ n6 dF 4 "_law_left" := .of ψ
theorem rz:NM_ n6 dF 5 "_law_plan_here" := .of ψ
theorem M4:NM_ n6 dF 6 "_law_turn" := .of ψ
theorem kO:NM_ n6 dF 7 "_law_other_here" := .of ψ
theorem Gn:NM_ n6 dF 8 "_law_stays" := .of ψ
theorem Gm:NM_ n6 dF 9 "_law_due" := .of ψ
theorem vd:NM_ n6 dF 10 "_law_found" := .of ψ
theorem u0:NM_ n6 dF 11 "_law_more" := .of ψ
theorem jM:GI_ dF "_law_is_plan" := by decide +kernel
theorem yV:GI_ dF "_law_many" := by decide +kernel
theorem wW:GI_ dF "_law_other" := by decide +kernel
theorem oZ:GI_ dF "_law_plain_plans" := by decide +kernel
theorem rM:GI_ dF "_law_plan" := by decide +kernel
theorem tu:GI_ dF "_law_spanned" := by decide +kernel
theorem qe:GI_ dF "_law_stretches" := by decide +kernel
theorem vA:GI_ dF "_law_tabled" := by decide +kernel
theorem yU:GI_ dF "_law_tape" := by decide +kernel
theorem GZ:GI_ dF "any" := by decide +kernel
theorem Cr:GI_ dF "bool" := by decide +kernel
theorem lz:GI_ dF "is_plan" := by decide +kernel
theorem qd:GI_ dF "isinstance" := by decide +kernel
theorem nO:GI_ dF "len" := by decide +kernel
theorem lQ:GI_ dF "list" := by decide +kernel
theorem GX:GI_ dF "min" := by decide +kernel
theorem iQ:GI_ dF "range" := by decide +kernel
noncomputable def zN (K:PySem.W.Frag):Sp:=fun vs H Q _=>∃(a:Addr)(ns:List Int),vs=[.ref a]/\SqL K H a (ns.map V.int)/\ns.length<=63/\∀H',Q (.bl true) H'
theorem lJ:∀p:Pl,dI p<cD p
 | .pick _=>lt_succ_self _
 | .tab=>lt_succ_self _
 | .one _ r=>by have:=lJ r;simp only[dI,cD];omega
 | .wit _ r=>by have:=lJ r;simp only[dI,cD];omega
 | .msk _ r=>by have:=lJ r;simp only[dI,cD];omega
 | .low _ a b=>by have:=lJ a;have:=lJ b;simp only[dI,cD];omega
section
variable {P:Program}{w:World}{K:PySem.W.Frag}{mg:Str->Option Value}{base:Heap}{f:Addr}{fd:FuncData}{bs:List Str}
theorem MJ (hB:∀x:Str,x∈BLs->mg x=none) (CZTape:Cal P w K mg base "_law_tape" 2 q7_ (DX K)) (CZStretches:Cal P w K mg base "_law_stretches" 3 q0_ DY) (CZMany:Cal P w K mg base "_law_many" 3 ["_law_tape_here"] Eb) (CZSpanned:Cal P w K mg base "_law_spanned" 3 q4_ tR) (CZPlan:Cal P w K mg base "_law_plan" 62 q2_ (lD 60)) (CZTabled:Cal P w K mg base "_law_tabled" 62 q1_ (ou 60))
  (CIsPlan:Cal P w K mg base "is_plan" 4 ["stretches","thing"] vU) (CZIsPlan:Cal P w K mg base "_law_is_plan" 142 q3_ (lE 140)) (CZOther:Cal P w K mg base "_law_other" 3 q4_ vQ) (CZPlainPlans:Cal P w K mg base "_law_plain_plans" 1 q9_ zL)
  (F:Fun K "law" "law" dF f fd):dN P w K mg base CX0 150 f fd ["_law_script"] (zN K):=by
 refine F.okq jP (fun vs H Q E h=>?_) (fun cdv A outer s H vs Q E hr h=>?_)
 ·obtain⟨a,ns,rfl,_⟩:=h;rfl
 obtain⟨a,ns,rfl,hS,h63,q⟩:=h;refine⟨_,(aD (qH PassesOwn.never rfl (oH iQ (hB "range" iJ) (aj (aN aV aq (bN (CK rfl) GX (hB "min" Gr) boot_min Hr (aj aq (aj (bN gY nO (hB "len" cj) PySem.boot_len cu (aj (ao Gq) aA rfl) rfl rfl) aA rfl) rfl) rfl rfl)) aA rfl) rfl) (fO Gp jP.nd (.inl rfl))
  (aD (bV kW jP.nd (aX CZTape (hr.mono δ) yU Kp (aj (ao Gq) (aj (ao Gp) aA rfl) rfl) rfl rfl) rfl (.inl rfl))
  (aD (bV ji jP.nd (aX CZSpanned (hr.mono δ) tu zj (aj (ao kW) (aj (aX CZStretches (hr.mono δ) qe vI (aj (ao kW) (aj (aX CZMany (hr.mono δ) yV Kq (aj (ao kW) aA rfl) rfl rfl) aA rfl) rfl) rfl rfl) aA rfl) rfl) rfl rfl) rfl (.inl rfl))
  (aD (bV rA jP.nd (m9 rfl lQ (hB "list" nA) iQ (hB "range" iJ) (aj (bN aY nO (hB "len" cj) PySem.boot_len cu (aj (ao ji) aA rfl) rfl rfl) aA rfl)) rfl (.inl rfl))
  (aD (bV rz jP.nd (aX CZTabled (hr.mono δ) vA lR (aj (ao kW) (aj (ao ji) (aj (ao rA) (aj (aX CZPlan (hr.mono δ) rM lU (aj (ao kW) (aj (ao ji) (aj (ao rA) aA rfl) rfl) rfl) rfl rfl) aA rfl) rfl) rfl) rfl) rfl rfl) rfl (.inl rfl))
  (aD (bM (je (fZ (aK Gb (aX CIsPlan (hr.mono δ) lz nU (aj (ao ji) (aj (ao rz) aA rfl) rfl) rfl rfl) fP (aG _)) (fK (jf (iB (aX CZIsPlan (hr.mono δ) jM fG (aj (ao ji) (aj (ao rA) (aj (ao rz) aA rfl) rfl) rfl) rfl rfl) (fun _=>rfl)))))) (aL (aO fP)) bx)
  (aD (bM (iB (bN (CW rfl) GZ (hB "any" M8) PyProof.Rows.Boot.«any» NP (aj (cX (NX:=n6) (kX:=(ak dF).names) ["_law_one","_law_stretches_here","_law_left"] [none,some 3,some 4] rfl rfl ⟨rfl,ψ,ψ,ψ,ψ⟩ rfl (b7 (aX CZPlainPlans (hr.mono δ) oZ tH (aj (ao ji) aA rfl) rfl rfl)) (fun _ _ _ _ _=>(bI 0 (show List.Nodup (["_law_one","_law_stretches_here","_law_left"]:List Str) from by decide +kernel) rfl (Or.inl rfl))) (fun _ _ _ _ _=>mF) (fun _ _ _ _ _=>(dG (dY hr.aP) (aX CIsPlan (hr.mono δ) rfl nU (aj (aW 1) (aj (aW 0) aA rfl) rfl) rfl rfl) (aX CZIsPlan (hr.mono δ) rfl fG (aj (aW 1) (aj (aW 2) (aj (aW 0) aA rfl) rfl) rfl) rfl rfl) (aG _)))) aA rfl) rfl rfl) (fun _=>rfl)) (aL (aO fP)) bx)
  (aL (qH PassesOwn.never rfl (oH iQ (hB "range" iJ) (aj aq aA rfl) rfl) (fO M4 jP.nd (.inl rfl))
  (aD (bV kO jP.nd (aX CZOther (hr.mono δ) wW Ht (aj (ao kW) (aj (ao ji) aA rfl) rfl) rfl rfl) rfl (.inl rfl))
  (aD (bV Gn jP.nd (zW vG lQ (hB "list" nA) boot_list Ko (aj (ao kO) aA rfl) rfl rfl) rfl (.inl rfl))
  (aD (bV Gm jP.nd (aX CZIsPlan (hr.mono δ) jM fG (aj (ao kO) (aj (m9 rfl lQ (hB "list" nA) iQ (hB "range" iJ) (aj (bN aY nO (hB "len" cj) PySem.boot_len cu (aj (ao kO) aA rfl) rfl rfl) aA rfl)) (aj (ao rz) aA rfl) rfl) rfl) rfl rfl) rfl (.inl rfl))
  (aD (bV vd jP.nd (aX CIsPlan (hr.mono δ) lz nU (aj (ao kO) (aj (ao rz) aA rfl) rfl) rfl rfl) rfl (.inl rfl))
  (aD (bM (je (fZ (jf (iB (bN fD qd (hB "isinstance" cM) boot_isinstance cN (aj (ao vd) (aj (pG "bool" Cr (hB "bool" vg) boot_bool vH) aA rfl) rfl) rfl rfl) (fun _=>rfl))) (fZ (aK (dY hr.aP) (ao vd) (ao Gm) (aG _)) (fK (aK (Mr hr.aP) (ao kO) (ao Gn) (aG _)))))) (aL (aO fP)) bx)
  (aD (bV u0 jP.nd (aX CZPlan (hr.mono δ) rM lU (aj (ao kW) (aj (ao kO) (aj (m9 rfl lQ (hB "list" nA) iQ (hB "range" iJ) (aj (bN aY nO (hB "len" cj) PySem.boot_len cu (aj (ao kO) aA rfl) rfl rfl) aA rfl)) aA rfl) rfl) rfl) rfl rfl) rfl (.inl rfl))
  (aL (bM (aK (dY hr.aP) (aX CIsPlan (hr.mono δ) lz nU (aj (ao ji) (aj (ao u0) aA rfl) rfl) rfl rfl) (aX CZIsPlan (hr.mono δ) jM fG (aj (ao ji) (aj (ao rA) (aj (ao u0) aA rfl) rfl) rfl) rfl rfl) (aG _)) (aL (aO fP)) bx)))))))) (fun _=>rfl))))))))) (fun _=>rfl))
  (aL (aO fP))),?_⟩
 refine aU fun k hk=>?_;refine wZ fun R hR=>?_;push_cast [wV];refine⟨_,.inl hS,?_⟩;rw[length_map];have m6:(0:Int)<=1+(if (ns.length:Int)<6 then (ns.length:Int) else 6)/\1+(if (ns.length:Int)<6 then (ns.length:Int) else 6)<=7:=by
  split <;> omega
 refine⟨ω,ω,?_⟩;obtain⟨Pv,hPv⟩:∃Pv:Nat->L2.St->Hp->Prop,Pv=fun(i:Nat) σ H'=>Same H H'/\∃o1 o2 o3 o4 o5 o6 o7 o8 o9 o10 o11,σ=[some (.ref a),o1,o2,o3,o4,o5,o6,o7,o8,o9,o10,o11]:=⟨_,rfl⟩;refine G7 hR Pv (by rw[hPv];exact⟨Same.refl _,_,_,_,_,_,_,_,_,_,_,_,rfl⟩) ?_ ?_
 ·intro i σ H1 hi pv;rw[hPv] at pv;obtain⟨s1,o1,o2,o3,o4,o5,o6,o7,o8,o9,o10,o11,rfl⟩:=pv;refine aU fun k2 hk2=>?_;push_cast;refine⟨a,ns,(0:Int)+(i:Int),rfl,s1.seq hS,ω,ω,fun p H2 hp s2 tp2=>?_⟩;push_cast;have hp0:H p=none:=s1.none hp;have sx2:cg p H H2:=(s1.trans s2).x;subst hk2;refine aU fun k2 hk2=>?_;push_cast;refine⟨p,0,rfl,tp2,δ,δ,fun m H3 s3 tp3 m1 m59=>?_⟩;push_cast;refine⟨p,m,0+4,rfl,tp3,δ,δ,ω,ω,fun l0 ss0 H4 s4 tp4 tr4 hsl0 hrow0 hfst0=>?_⟩;push_cast;refine⟨p,l0,0+4+2000,ss0,rfl,tp4,δ,δ,tr4,fun z=>by rw[z] at hsl0;simp at hsl0;omega,hrow0,hfst0,fun l ss H5 s5 tp5 tr5 hsl rs=>?_⟩;have sx5:cg p H H5:=((sx2.trans s3).trans s4).trans s5;have h60:ss.length<=60:=ω;have h59:ss.length<=59:=ω;have h1:1<=ss.length:=ω;clear s2 s3 s4 s5 tp2 tp3 tp4 tr4 hrow0 hfst0 sx2;replace tp5:bA H5 p 2008:=tp5.le δ;show k2 _ _;subst hk2;refine aU fun k2 hk2=>?_;have lfl:Lf ss (List.range ss.length):=⟨fun z=>by have:=congrArg List.length z;rw[length_range,List.length_nil] at this;omega,fun k hk=>mem_range.mp hk,pairwise_lt_range⟩;have tr50:=tr5;cases tr5 with
  | lst okl el5 zl5 trs5=>
   rename_i xs;have hxl:=trs5.length;rw[length_map] at hxl;push_cast [el5];rw[show(((xs.length:Int)-0).toNat)=ss.length by omega];refine⟨⟨ω,ω⟩,aQ ω,fun lf hlf=>?_⟩;rw[uN];have s7:=au (o:=HO.lst (nv (List.range ss.length))) hlf;have nlf:=tp5.ne hlf;have tp7:=tp5.same s7;have tr7:=tr50.same s7;have el7:=s7 _ _ el5;have elf:upd H5 lf (HO.lst (nv (List.range ss.length))) lf=_:=aB;have sx7:=sx5.trans s7.x;generalize upd H5 lf (HO.lst (nv (List.range ss.length)))=H7 at s7 tp7 tr7 elf el7 sx7 |-;have tlf:aF (·≠p) H7 (.ref lf) (iK (List.range ss.length)):=bf nlf elf (by rw[length_range];omega);subst hk2;refine aU fun k2 hk2=>?_;push_cast;refine⟨p,_,_,_,ss,_,rfl,tp7,δ,by rw[length_range];omega,tr7,tlf,lfl,by rw[length_range];omega,by rw[length_range];omega,fun v pl0 H8 s8 tp8 tv8 pv8 dep siz=>?_⟩;rw[length_range] at tp8 dep siz;replace tp8:bA H8 p 2728:=tp8.le ω;push_cast;refine⟨p,_,_,v,_,ss,_,pl0,rfl,tp8,δ,ω,tr7.cL s8,tlf.cL s8,tv8,pv8,ω,h60,fun v9 pl H9 s9 tp9 tv9 pv9 siz9=>?_⟩;have hsz:cD pl<=130:=ω;replace tp9:bA H9 p 2968:=tp9.le ω;have sx9:cg p H H9:=(sx7.trans s8).trans s9;have el9:=s9 _ _ okl (s8 _ _ okl el7);have tr9:=(tr7.cL s8).cL s9;have tlf9:=(tlf.cL s8).cL s9;have elf9:=s9 _ _ nlf (s8 _ _ nlf elf);clear s7 s8 s9 tp5 tp7 tp8 tr7 tlf elf el7 tv8 pv8 sx5 sx7 tr50 el5;subst hk2;refine aU fun k2 hk2=>?_;push_cast;refine⟨_,v9,(·≠p),ss,pl,rfl,tp9.newOk,tr9,tv9,ω,ω,ω,fun H10 s10=>?_⟩;rw[pv9.okP];push_cast;have hdp:=lJ pl;refine⟨_,_,v9,(·≠p),ss,_,pl,rfl,(tp9.same s10).newOk,tr9.same s10,tlf9.same s10,tv9.same s10,lfl,ω,fun H11 s11=>?_⟩;rw[pv9.okP];push_cast;have tp11:=tp9.same (s10.trans s11);have tr11:=tr9.same (s10.trans s11);have tv11:=tv9.same (s10.trans s11);have tlf11:=tlf9.same (s10.trans s11);have sx11:=sx9.trans (s10.trans s11).x;clear s10 s11 tp9 tr9 tv9 tlf9 sx9 elf9 el9;subst hk2;refine aU fun k2 hk2=>?_;push_cast;refine cF fun R2 hR2=>?_;push_cast;refine⟨_,(·≠p),ss,rfl,tp11.newOk,tr11,ω,ω,fun lp mp H12 s12 tlp hdm hsm=>?_⟩;have tp12:=tp11.same s12;cases tlp with
   | lst olp elp zlp trp=>
    push_cast [elp];refine vD (fun _=>false) (fun τ=>∃o1,τ=[o1,some (.ref l),some (.ref lf)]) hR2 trp elp zlp ⟨none,rfl⟩ ?_ ?_
    ·rintro x1 d1 τ H13 Qn hd s13 t13 ⟨o1,rfl⟩ qn;have tp13:=tp12.same s13;have s113:=s12.trans s13;have two:∃pq:Pl,d1=plD pq/\dI pq<140/\cD pq<=4000:=by
      simp only[mem_cons,not_mem_nil,or_false] at hd;rcases hd with rfl|rfl
      ·exact⟨.tab,rfl,δ,δ⟩
      exact⟨mp,rfl,ω,ω⟩
     obtain⟨pq,rfl,dq,sq⟩:=two;push_cast;refine⟨_,x1,(·≠p),ss,pq,rfl,tp13.newOk,tr11.same s113,t13,ω,ω,sq,fun H14 s14=>?_⟩;push_cast;refine⟨_,_,x1,(·≠p),ss,_,pq,rfl,(tp13.same s14).newOk,(tr11.same s113).same s14,(tlf11.same s113).same s14,t13.same s14,lfl,dq,fun H15 s15=>?_⟩;push_cast;exact qn _ _ ⟨_,rfl⟩ (s14.trans s15)
    intro H13 lb s13 hlb;have s5:=s13.trans (au (o:=HO.lst (([plD .tab,plD mp].map (fun _=>false)).map V.bl)) hlb);have e5:upd H13 lb (HO.lst (([plD .tab,plD mp].map (fun _=>false)).map V.bl)) lb=_:=aB;generalize upd H13 lb (HO.lst (([plD .tab,plD mp].map (fun _=>false)).map V.bl))=H14 at s5 e5 |-;push_cast [e5];refine⟨[false,false],rfl,?_⟩;rw[if_neg δ];have u14:=s12.trans s5;have tp14:=tp11.same u14;have sx14:=sx11.trans u14.x;have tr14:=tr11.same u14;have tv14:=tv11.same u14;have tlf14:=tlf11.same u14;clear s12 s13 s5 u14 tp11 tp12 tr11 tv11 tlf11 sx11 e5 hlb elp trp;subst hk2;refine wZ fun R3 hR3=>?_;push_cast [wV];refine⟨δ,δ,?_⟩;obtain⟨Pw,hPw⟩:∃Pv:Nat->L2.St->Hp->Prop,Pv=fun(j:Nat) σ H'=>∃(o6 o7 o8 o9 o10 o11:Option V),cg p H14 H'/\bA H' p (2968+1000*(j:Int))/\σ=[some (.ref a),some (.int (0+(i:Int))),some (.ref p),some (.ref l),some (.ref lf),some v9,o6,o7,o8,o9,o10,o11]:=⟨_,rfl⟩;refine G7 hR3 Pw (by rw[hPw];exact⟨_,_,_,_,_,_,cg.refl _ _,tp14,rfl⟩) ?_ ?_
    ·intro j σ H15 hj pv;rw[hPw] at pv;obtain⟨o6,o7,o8,o9,o10,o11,s15,tp15,rfl⟩:=pv;have hj6:j<6:=hj;have tr15:=tr14.cL s15;have tv15:=tv14.cL s15;refine aU fun k3 hk3=>?_;push_cast;refine⟨p,_,_,ss,rfl,tp15,ω,ω,tr15,ω,h59,fun lo so H16 s16 tp16 to16 l1 l2=>?_⟩;push_cast;have sx16:=s15.trans s16;have lfo:Lf so (List.range so.length):=Gu l1;obtain⟨lo',ys,elo,olo,eo16,zo,tos16⟩:=fH to16;cases elo;have hyl:=tos16.length;rw[length_map] at hyl;subst hk3;refine aU fun k3 hk3=>?_;push_cast [eo16];refine⟨_,.inl (SqL.of eo16),fun ly hly=>?_⟩;have s17:=au (o:=HO.lst ys) hly;have ely:upd H16 ly (HO.lst ys) ly=_:=aB;have tp17:=tp16.same s17;generalize upd H16 ly (HO.lst ys)=H17 at s17 ely tp17 |-;have sx17:=sx16.trans s17.x;have eo17:=s17 _ _ eo16;have to17:=to16.same s17;have tv17:=tv14.cL sx17;subst hk3;refine aU fun k3 hk3=>?_;push_cast [eo17];rw[show(((ys.length:Int)-0).toNat)=so.length by omega];refine⟨⟨ω,ω⟩,aQ ω,fun lr hlr=>?_⟩;rw[uN];have s18:=au (o:=HO.lst (nv (List.range so.length))) hlr;have nlr:=tp17.ne hlr;have elr:upd H17 lr (HO.lst (nv (List.range so.length))) lr=_:=aB;have tp18:=tp17.same s18;generalize upd H17 lr (HO.lst (nv (List.range so.length)))=H18 at s18 elr tp18 |-;have tlr:aF (·≠p) H18 (.ref lr) (iK (List.range so.length)):=bf nlr elr (by rw[length_range];omega);refine⟨_,_,v9,(·≠p),so,_,pl,rfl,tp18.newOk,to17.same s18,tlr,tv17.same s18,lfo,ω,fun H19 s19=>?_⟩;push_cast;have s89:=s18.trans s19;have tp19:=tp18.same s19;subst hk3;refine aU fun k3 hk3=>?_;push_cast;refine⟨_,v9,(·≠p),so,pl,rfl,tp19.newOk,to17.same s89,tv17.same s89,l1,ω,ω,fun H20 s20=>?_⟩;push_cast;subst hk3;have s7a:=s89.trans s20;have eo20:=s7a _ _ eo17;have ely20:=s7a _ _ ely;refine aU fun k3 hk3=>?_;push_cast [eo20,ely20];refine⟨lo,ly,ys,rfl,rfl,eo20,ely20,fun x hx=>?_,_,rfl,?_⟩
     ·obtain⟨n,hn,e⟩:=mem_iff_getElem.mp hx;obtain⟨a0,_,e0,_⟩:=tos16.st (i:=n) (x:=x) (by rw[getElem?_eq_getElem hn,e]);exact⟨a0,e0⟩
     rw[if_neg δ];subst hk3;have tp20:=tp19.same s20;have sx20:=sx17.trans s7a.x;refine aU fun k3 hk3=>?_;push_cast [eo20];rw[show(((ys.length:Int)-0).toNat)=so.length by omega];refine⟨⟨ω,ω⟩,aQ ω,fun lq hlq=>?_⟩;rw[uN];have s21:=au (o:=HO.lst (nv (List.range so.length))) hlq;have nlq:=tp20.ne hlq;have elq:upd H20 lq (HO.lst (nv (List.range so.length))) lq=_:=aB;have tp21:=tp20.same s21;generalize upd H20 lq (HO.lst (nv (List.range so.length)))=H21 at s21 elq tp21 |-;have tlq:aF (·≠p) H21 (.ref lq) (iK (List.range so.length)):=bf nlq elq (by rw[length_range];omega);refine⟨p,_,_,_,so,_,rfl,tp21,ω,by rw[length_range];omega,(to17.same s7a).same s21,tlq,lfo,by rw[length_range];omega,by rw[length_range];omega,fun v22 pl2 H22 s22 tp22 tv22 pv22 dep2 siz2=>?_⟩;rw[length_range] at tp22 dep2 siz2;push_cast;subst hk3;have sx22:=(sx20.trans s21.x).trans s22;have tr22:=tr14.cL sx22;have tlf22:=tlf14.cL sx22;push_cast;refine⟨_,v22,(·≠p),ss,pl2,rfl,tp22.newOk,tr22,tv22,ω,ω,ω,fun H23 s23=>?_⟩;push_cast;refine⟨_,_,v22,(·≠p),ss,_,pl2,rfl,(tp22.same s23).newOk,tr22.same s23,tlf22.same s23,tv22.same s23,lfl,ω,fun H24 s24=>?_⟩;push_cast;rw[hPw];exact⟨_,_,_,_,_,_,sx22.trans (s23.trans s24).x,(tp22.same (s23.trans s24)).le ω,rfl⟩
    intro σ H15 pv;rw[hPw] at pv;obtain⟨o6,o7,o8,o9,o10,o11,s15,tp15,rfl⟩:=pv;show Pv _ _ _;rw[hPv];exact⟨Ii (sx14.trans s15) hp0,_,_,_,_,_,_,_,_,_,_,_,rfl⟩
 intro σ H1 pv;rw[hPv] at pv;obtain⟨s1,o1,o2,o3,o4,o5,o6,o7,o8,o9,o10,o11,rfl⟩:=pv;show k _ _;subst hk;exact q _
end
theorem all_mk {l:PySem.W.OpenLaw}{w:World}{K:PySem.W.Frag}{h:Heap}{mg:Str->Option Value}{fa:Addr}{f1:Addr}{od1 an1:Option Addr}{sl1:Array (Option Value)}{oc1 kV1 dc1 pm1 cd1 ct1:Value}{f2:Addr}{od2 an2:Option Addr}{sl2:Array (Option Value)}{oc2 kV2 dc2 pm2 cd2 ct2:Value}{f3:Addr}{od3 an3:Option Addr}{sl3:Array (Option Value)}{oc3 kV3 dc3 pm3 cd3 ct3:Value}{f4:Addr}{od4 an4:Option Addr}{sl4:Array (Option Value)}{oc4 kV4 dc4 pm4 cd4 ct4:Value}{f5:Addr}{od5 an5:Option Addr}{sl5:Array (Option Value)}{oc5 kV5 dc5 pm5 cd5 ct5:Value}{f6:Addr}{od6 an6:Option Addr}{sl6:Array (Option Value)}{oc6 kV6 dc6 pm6 cd6 ct6:Value}{f7:Addr}{od7 an7:Option Addr}{sl7:Array (Option Value)}{oc7 kV7 dc7 pm7 cd7 ct7:Value}{f8:Addr}{od8 an8:Option Addr}{sl8:Array (Option Value)}{oc8 kV8 dc8 pm8 cd8 ct8:Value}{f9:Addr}{od9 an9:Option Addr}{sl9:Array (Option Value)}{oc9 kV9 dc9 pm9 cd9 ct9:Value}{f10:Addr}{od10 an10:Option Addr}{sl10:Array (Option Value)}{oc10 kV10 dc10 pm10 cd10 ct10:Value}{f11:Addr}{od11 an11:Option Addr}{sl11:Array (Option Value)}{oc11 kV11 dc11 pm11 cd11 ct11:Value}{f12:Addr}{od12 an12:Option Addr}{sl12:Array (Option Value)}{oc12 kV12 dc12 pm12 cd12 ct12:Value}{f13:Addr}{od13 an13:Option Addr}{sl13:Array (Option Value)}{oc13 kV13 dc13 pm13 cd13 ct13:Value}{f14:Addr}{od14 an14:Option Addr}{sl14:Array (Option Value)}{oc14 kV14 dc14 pm14 cd14 ct14:Value}{f15:Addr}{od15 an15:Option Addr}{sl15:Array (Option Value)}{oc15 kV15 dc15 pm15 cd15 ct15:Value}{f16:Addr}{od16 an16:Option Addr}{sl16:Array (Option Value)}{oc16 kV16 dc16 pm16 cd16 ct16:Value}{f17:Addr}{od17 an17:Option Addr}{sl17:Array (Option Value)}{oc17 kV17 dc17 pm17 cd17 ct17:Value}{f18:Addr}{od18 an18:Option Addr}{sl18:Array (Option Value)}{oc18 kV18 dc18 pm18 cd18 ct18:Value}{f19:Addr}{od19 an19:Option Addr}{sl19:Array (Option Value)}{oc19 kV19 dc19 pm19 cd19 ct19:Value}{f20:Addr}{od20 an20:Option Addr}{sl20:Array (Option Value)}{oc20 kV20 dc20 pm20 cd20 ct20:Value}{f21:Addr}{od21 an21:Option Addr}{sl21:Array (Option Value)}{oc21 kV21 dc21 pm21 cd21 ct21:Value}{f22:Addr}{od22 an22:Option Addr}{sl22:Array (Option Value)}{oc22 kV22 dc22 pm22 cd22 ct22:Value}{f23:Addr}{od23 an23:Option Addr}{sl23:Array (Option Value)}{oc23 kV23 dc23 pm23 cd23 ct23:Value}{ckMostInMask:Tok}{ckMostInTable:Tok}(X:K.In h) (G:h.Ns mainGlobals mg) (hfa:mg "law" = some (.ref fa))
  (a1:nsIn K mainGlobals "is_number" = some (some (.ref f1))) (l1:K.lookup f1=some ⟨oc1,od1,.func (fnOf "is_number" "is_number" (bG dO) (bC dO) (ak dO) .none kV1 dc1 pm1 an1 cd1 ct1),sl1⟩) (c1:codeIn K cd1 "is_number" = true) (k1:keepIn K (.ref f1)=true)
  (a2:nsIn K mainGlobals "numbers_across" = some (some (.ref f2))) (l2:K.lookup f2=some ⟨oc2,od2,.func (fnOf "numbers_across" "numbers_across" (bG cB) (bC cB) (ak cB) .none kV2 dc2 pm2 an2 cd2 ct2),sl2⟩) (c2:codeIn K cd2 "numbers_across" = true) (k2:keepIn K (.ref f2)=true)
  (a3:nsIn K mainGlobals "labels_left" = some (some (.ref f3))) (l3:K.lookup f3=some ⟨oc3,od3,.func (fnOf "labels_left" "labels_left" (bG dB) (bC dB) (ak dB) .none kV3 dc3 pm3 an3 cd3 ct3),sl3⟩) (c3:codeIn K cd3 "labels_left" = true) (k3:keepIn K (.ref f3)=true)
  (a4:nsIn K mainGlobals "parts_some" = some (some (.ref f4))) (l4:K.lookup f4=some ⟨oc4,od4,.func (fnOf "parts_some" "parts_some" (bG cQ) (bC cQ) (ak cQ) .none kV4 dc4 pm4 an4 cd4 ct4),sl4⟩) (c4:codeIn K cd4 "parts_some" = true) (k4:keepIn K (.ref f4)=true)
  (a5:nsIn K mainGlobals "is_step" = some (some (.ref f5))) (l5:K.lookup f5=some ⟨oc5,od5,.func (fnOf "is_step" "is_step" (bG cI) (bC cI) (ak cI) .none kV5 dc5 pm5 an5 cd5 ct5),sl5⟩) (c5:codeIn K cd5 "is_step" = true) (k5:keepIn K (.ref f5)=true)
  (a6:nsIn K mainGlobals "plans_in" = some (some (.ref f6))) (l6:K.lookup f6=some ⟨oc6,od6,.func (fnOf "plans_in" "plans_in" (bG cW) (bC cW) (ak cW) .none kV6 dc6 pm6 an6 cd6 ct6),sl6⟩) (c6:codeIn K cd6 "plans_in" = true) (k6:keepIn K (.ref f6)=true)
  (a7:nsIn K mainGlobals "is_plan" = some (some (.ref f7))) (l7:K.lookup f7=some ⟨oc7,od7,.func (fnOf "is_plan" "is_plan" (bG dj) (bC dj) (ak dj) .none kV7 dc7 pm7 an7 cd7 ct7),sl7⟩) (c7:codeIn K cd7 "is_plan" = true) (k7:keepIn K (.ref f7)=true)
  (a8:nsIn K mainGlobals "_law_cell_at" = some (some (.ref f8))) (l8:K.lookup f8=some ⟨oc8,od8,.func (fnOf "_law_cell_at" "_law_cell_at" (bG fJ) (bC fJ) (ak fJ) .none kV8 dc8 pm8 an8 cd8 ct8),sl8⟩) (c8:codeIn K cd8 "_law_cell_at" = true) (k8:keepIn K (.ref f8)=true)
  (a9:nsIn K mainGlobals "_law_tape" = some (some (.ref f9))) (l9:K.lookup f9=some ⟨oc9,od9,.func (fnOf "_law_tape" "_law_tape" (bG gP) (bC gP) (ak gP) .none kV9 dc9 pm9 an9 cd9 ct9),sl9⟩) (c9:codeIn K cd9 "_law_tape" = true) (k9:keepIn K (.ref f9)=true)
  (a10:nsIn K mainGlobals "_law_take" = some (some (.ref f10))) (l10:K.lookup f10=some ⟨oc10,od10,.func (fnOf "_law_take" "_law_take" (bG gQ) (bC gQ) (ak gQ) .none kV10 dc10 pm10 an10 cd10 ct10),sl10⟩) (c10:codeIn K cd10 "_law_take" = true) (k10:keepIn K (.ref f10)=true)
  (a11:nsIn K mainGlobals "_law_stretches" = some (some (.ref f11))) (l11:K.lookup f11=some ⟨oc11,od11,.func (fnOf "_law_stretches" "_law_stretches" (bG bB) (bC bB) (ak bB) .none kV11 dc11 pm11 an11 cd11 ct11),sl11⟩) (c11:codeIn K cd11 "_law_stretches" = true) (k11:keepIn K (.ref f11)=true)
  (a12:nsIn K mainGlobals "_law_span" = some (some (.ref f12))) (l12:K.lookup f12=some ⟨oc12,od12,.func (fnOf "_law_span" "_law_span" (bG j4) (bC j4) (ak j4) .none kV12 dc12 pm12 an12 cd12 ct12),sl12⟩) (c12:codeIn K cd12 "_law_span" = true) (k12:keepIn K (.ref f12)=true)
  (a13:nsIn K mainGlobals "_law_plan" = some (some (.ref f13))) (l13:K.lookup f13=some ⟨oc13,od13,.func (fnOf "_law_plan" "_law_plan" (bG bZ) (bC bZ) (ak bZ) .none kV13 dc13 pm13 an13 cd13 ct13),sl13⟩) (c13:codeIn K cd13 "_law_plan" = true) (k13:keepIn K (.ref f13)=true)
  (a14:nsIn K mainGlobals "_law_other" = some (some (.ref f14))) (l14:K.lookup f14=some ⟨oc14,od14,.func (fnOf "_law_other" "_law_other" (bG cH) (bC cH) (ak cH) .none kV14 dc14 pm14 an14 cd14 ct14),sl14⟩) (c14:codeIn K cd14 "_law_other" = true) (k14:keepIn K (.ref f14)=true)
  (a15:nsIn K mainGlobals "_law_many" = some (some (.ref f15))) (l15:K.lookup f15=some ⟨oc15,od15,.func (fnOf "_law_many" "_law_many" (bG jx) (bC jx) (ak jx) .none kV15 dc15 pm15 an15 cd15 ct15),sl15⟩) (c15:codeIn K cd15 "_law_many" = true) (k15:keepIn K (.ref f15)=true)
  (a16:nsIn K mainGlobals "_law_is_plan" = some (some (.ref f16))) (l16:K.lookup f16=some ⟨oc16,od16,.func (fnOf "_law_is_plan" "_law_is_plan" (bG bD) (bC bD) (ak bD) .none kV16 dc16 pm16 an16 cd16 ct16),sl16⟩) (c16:codeIn K cd16 "_law_is_plan" = true) (k16:keepIn K (.ref f16)=true)
  (a17:nsIn K mainGlobals "_law_moved" = some (some (.ref f17))) (l17:K.lookup f17=some ⟨oc17,od17,.func (fnOf "_law_moved" "_law_moved" (bG gR) (bC gR) (ak gR) .none kV17 dc17 pm17 an17 cd17 ct17),sl17⟩) (c17:codeIn K cd17 "_law_moved" = true) (k17:keepIn K (.ref f17)=true)
  (a18:nsIn K mainGlobals "_law_all_moved" = some (some (.ref f18))) (l18:K.lookup f18=some ⟨oc18,od18,.func (fnOf "_law_all_moved" "_law_all_moved" (bG dW) (bC dW) (ak dW) .none kV18 dc18 pm18 an18 cd18 ct18),sl18⟩) (c18:codeIn K cd18 "_law_all_moved" = true) (k18:keepIn K (.ref f18)=true)
  (a19:nsIn K mainGlobals "_law_joined" = some (some (.ref f19))) (l19:K.lookup f19=some ⟨oc19,od19,.func (fnOf "_law_joined" "_law_joined" (bG dw) (bC dw) (ak dw) .none kV19 dc19 pm19 an19 cd19 ct19),sl19⟩) (c19:codeIn K cd19 "_law_joined" = true) (k19:keepIn K (.ref f19)=true)
  (a20:nsIn K mainGlobals "_law_spanned" = some (some (.ref f20))) (l20:K.lookup f20=some ⟨oc20,od20,.func (fnOf "_law_spanned" "_law_spanned" (bG cG) (bC cG) (ak cG) .none kV20 dc20 pm20 an20 cd20 ct20),sl20⟩) (c20:codeIn K cd20 "_law_spanned" = true) (k20:keepIn K (.ref f20)=true)
  (a21:nsIn K mainGlobals "_law_tabled" = some (some (.ref f21))) (l21:K.lookup f21=some ⟨oc21,od21,.func (fnOf "_law_tabled" "_law_tabled" (bG bR) (bC bR) (ak bR) .none kV21 dc21 pm21 an21 cd21 ct21),sl21⟩) (c21:codeIn K cd21 "_law_tabled" = true) (k21:keepIn K (.ref f21)=true)
  (a22:nsIn K mainGlobals "_law_plain_plans" = some (some (.ref f22))) (l22:K.lookup f22=some ⟨oc22,od22,.func (fnOf "_law_plain_plans" "_law_plain_plans" (bG bJ) (bC bJ) (ak bJ) .none kV22 dc22 pm22 an22 cd22 ct22),sl22⟩) (c22:codeIn K cd22 "_law_plain_plans" = true) (k22:keepIn K (.ref f22)=true)
  (a23:nsIn K mainGlobals "law" = some (some (.ref f23))) (l23:K.lookup f23=some ⟨oc23,od23,.func (fnOf "law" "law" (bG dF) (bC dF) (ak dF) .none kV23 dc23 pm23 an23 cd23 ct23),sl23⟩) (c23:codeIn K cd23 "law" = true) (k23:keepIn K (.ref f23)=true)
  (z1:nsIn K mainGlobals "abs" = some none)
  (z2:nsIn K mainGlobals "any" = some none)
  (z3:nsIn K mainGlobals "bool" = some none)
  (z4:nsIn K mainGlobals "enumerate" = some none)
  (z5:nsIn K mainGlobals "int" = some none)
  (z6:nsIn K mainGlobals "isinstance" = some none)
  (z7:nsIn K mainGlobals "len" = some none)
  (z8:nsIn K mainGlobals "list" = some none)
  (z9:nsIn K mainGlobals "max" = some none)
  (z10:nsIn K mainGlobals "min" = some none)
  (z11:nsIn K mainGlobals "range" = some none)
  (z12:nsIn K mainGlobals "set" = some none)
  (z13:nsIn K mainGlobals "sorted" = some none)
  (z14:nsIn K mainGlobals "str" = some none)
  (z15:nsIn K mainGlobals "tuple" = some none)
  (w1:nsIn K mainGlobals "MOST_IN_MASK" = some (some (.int 64 ckMostInMask)))
  (w2:nsIn K mainGlobals "MOST_IN_TABLE" = some (some (.int 200 ckMostInTable))) :
  ∃fd:FuncData,(∀(s:Shared)(v:Value),BindsTo s fd ⟨[v],[]⟩ [("_law_script",v)])/\∀base:Heap,K.In base->base.Ns mainGlobals mg->dN l.prog w K mg base CX0 150 fa fd ["_law_script"] (zN K):=by
 have e:=hfa.symm.trans (mg_of X G a23);cases e;have DIsNumber:=cT (st:=dO) (ps:=["thing"]) X G a1 l1 c1 k1 fun _ _ _ _ _ _ us hl=>by obtain⟨z0,rfl⟩:=ln1 hl;rfl
 have DNumbersAcross:=cT (st:=cB) (ps:=["stretches","left"]) X G a2 l2 c2 k2 fun _ _ _ _ _ _ us hl=>by obtain⟨z0,z1,rfl⟩:=ln2 hl;rfl
 have DLabelsLeft:=cT (st:=dB) (ps:=["stretches","left"]) X G a3 l3 c3 k3 fun _ _ _ _ _ _ us hl=>by obtain⟨z0,z1,rfl⟩:=ln2 hl;rfl
 have DPartsSome:=cT (st:=cQ) (ps:=["stretches","left","label"]) X G a4 l4 c4 k4 fun _ _ _ _ _ _ us hl=>by obtain⟨z0,z1,z2,rfl⟩:=ln3 hl;rfl
 have DIsStep:=cT (st:=cI) (ps:=["stretches","left","thing"]) X G a5 l5 c5 k5 fun _ _ _ _ _ _ us hl=>by obtain⟨z0,z1,z2,rfl⟩:=ln3 hl;rfl
 have DPlansIn:=cT (st:=cW) (ps:=["stretches","left","plan"]) X G a6 l6 c6 k6 fun _ _ _ _ _ _ us hl=>by obtain⟨z0,z1,z2,rfl⟩:=ln3 hl;rfl
 have DIsPlan:=cT (st:=dj) (ps:=["stretches","thing"]) X G a7 l7 c7 k7 fun _ _ _ _ _ _ us hl=>by obtain⟨z0,z1,rfl⟩:=ln2 hl;rfl
 have DZCellAt:=cT (st:=fJ) (ps:=["_law_script","_law_k"]) X G a8 l8 c8 k8 fun _ _ _ _ _ _ us hl=>by obtain⟨z0,z1,rfl⟩:=ln2 hl;rfl
 have DZTape:=cT (st:=gP) (ps:=["_law_script","_law_k"]) X G a9 l9 c9 k9 fun _ _ _ _ _ _ us hl=>by obtain⟨z0,z1,rfl⟩:=ln2 hl;rfl
 have DZTake:=cT (st:=gQ) (ps:=["_law_tape_here","_law_many_here"]) X G a10 l10 c10 k10 fun _ _ _ _ _ _ us hl=>by obtain⟨z0,z1,rfl⟩:=ln2 hl;rfl
 have DZStretches:=cT (st:=bB) (ps:=["_law_tape_here","_law_many_here"]) X G a11 l11 c11 k11 fun _ _ _ _ _ _ us hl=>by obtain⟨z0,z1,rfl⟩:=ln2 hl;rfl
 have DZSpan:=cT (st:=j4) (ps:=["_law_stretches_here","_law_left"]) X G a12 l12 c12 k12 fun _ _ _ _ _ _ us hl=>by obtain⟨z0,z1,rfl⟩:=ln2 hl;rfl
 have DZPlan:=cT (st:=bZ) (ps:=["_law_tape_here","_law_stretches_here","_law_left"]) X G a13 l13 c13 k13 fun _ _ _ _ _ _ us hl=>by obtain⟨z0,z1,z2,rfl⟩:=ln3 hl;rfl
 have DZOther:=cT (st:=cH) (ps:=["_law_tape_here","_law_stretches_here"]) X G a14 l14 c14 k14 fun _ _ _ _ _ _ us hl=>by obtain⟨z0,z1,rfl⟩:=ln2 hl;rfl
 have DZMany:=cT (st:=jx) (ps:=["_law_tape_here"]) X G a15 l15 c15 k15 fun _ _ _ _ _ _ us hl=>by obtain⟨z0,rfl⟩:=ln1 hl;rfl
 have DZIsPlan:=cT (st:=bD) (ps:=["_law_stretches_here","_law_left","_law_thing"]) X G a16 l16 c16 k16 fun _ _ _ _ _ _ us hl=>by obtain⟨z0,z1,z2,rfl⟩:=ln3 hl;rfl
 have DZMoved:=cT (st:=gR) (ps:=["_law_stretches_here","_law_far"]) X G a17 l17 c17 k17 fun _ _ _ _ _ _ us hl=>by obtain⟨z0,z1,rfl⟩:=ln2 hl;rfl
 have DZAllMoved:=cT (st:=dW) (ps:=["_law_stretches_here","_law_far"]) X G a18 l18 c18 k18 fun _ _ _ _ _ _ us hl=>by obtain⟨z0,z1,rfl⟩:=ln2 hl;rfl
 have DZJoined:=cT (st:=dw) (ps:=["_law_stretches_here"]) X G a19 l19 c19 k19 fun _ _ _ _ _ _ us hl=>by obtain⟨z0,rfl⟩:=ln1 hl;rfl
 have DZSpanned:=cT (st:=cG) (ps:=["_law_tape_here","_law_stretches_here"]) X G a20 l20 c20 k20 fun _ _ _ _ _ _ us hl=>by obtain⟨z0,z1,rfl⟩:=ln2 hl;rfl
 have DZTabled:=cT (st:=bR) (ps:=["_law_tape_here","_law_stretches_here","_law_left","_law_plan_here"]) X G a21 l21 c21 k21 fun _ _ _ _ _ _ us hl=>by obtain⟨z0,z1,z2,z3,rfl⟩:=ln4 hl;rfl
 have DZPlainPlans:=cT (st:=bJ) (ps:=["_law_stretches_here"]) X G a22 l22 c22 k22 fun _ _ _ _ _ _ us hl=>by obtain⟨z0,rfl⟩:=ln1 hl;rfl
 have DLaw:=cT (st:=dF) (ps:=["_law_script"]) X G a23 l23 c23 k23 fun _ _ _ _ _ _ us hl=>by obtain⟨z0,rfl⟩:=ln1 hl;rfl
 have cgMostInMask:mg "MOST_IN_MASK" = some (.int 64 ckMostInMask):=mg_of X G w1;have cgMostInTable:mg "MOST_IN_TABLE" = some (.int 200 ckMostInTable):=mg_of X G w2;have hB:∀x:Str,x∈BLs->mg x=none:=by
  intro x hx;replace hx:x∈(["abs","any","bool","enumerate","int","isinstance","len","list","max","min","range","set","sorted","str","tuple"]:List Str):=hx;simp only[mem_cons,not_mem_nil,or_false] at hx;rcases hx with rfl|rfl|rfl|rfl|rfl|rfl|rfl|rfl|rfl|rfl|rfl|rfl|rfl|rfl|rfl
  ·exact mg_none_of X G z1
  ·exact mg_none_of X G z2
  ·exact mg_none_of X G z3
  ·exact mg_none_of X G z4
  ·exact mg_none_of X G z5
  ·exact mg_none_of X G z6
  ·exact mg_none_of X G z7
  ·exact mg_none_of X G z8
  ·exact mg_none_of X G z9
  ·exact mg_none_of X G z10
  ·exact mg_none_of X G z11
  ·exact mg_none_of X G z12
  ·exact mg_none_of X G z13
  ·exact mg_none_of X G z14
  exact mg_none_of X G z15
 refine⟨fnOf "law" "law" (bG dF) (bC dF) (ak dF) .none kV23 dc23 pm23 an23 cd23 ct23,fun s v=>.of_eq rfl,fun base kb nb=>?_⟩;have CCell:=DZCellAt.cal (JR (P:=l.prog) (w:=w) (base:=base) hB DZCellAt.fn);have CTape:=DZTape.cal (JH hB CCell DZTape.fn);have CTake0:=DZTake.cal (Bl (P:=l.prog) (w:=w) (mg:=mg) (base:=base));have CTake1:=DZTake.cal (Aa (n:=0) hB δ CTake0 DZTake.fn);have CTake2:=DZTake.cal (Aa (n:=1) hB δ CTake1 DZTake.fn);have CSts:=DZStretches.cal (MF hB CTake2 DZStretches.fn);have CIn:=DPlansIn.cal (yC (P:=l.prog) (w:=w) (base:=base) hB DPlansIn.fn);have CAcross:=DNumbersAcross.cal (BX (P:=l.prog) (w:=w) (base:=base) hB DNumbersAcross.fn);have CLabs:=DLabelsLeft.cal (JQ (P:=l.prog) (w:=w) (base:=base) hB DLabelsLeft.fn);have CNum:=DIsNumber.cal (Gi (P:=l.prog) (w:=w) (base:=base) hB DIsNumber.fn);have CSome:=DPartsSome.cal (Gd hB CLabs DPartsSome.fn);have CStep:=DIsStep.cal (BV hB cgMostInMask cgMostInTable CNum CAcross CLabs CSome DIsStep.fn);have CIsP:=DIsPlan.cal (BW hB CStep CIn DIsPlan.fn);have CSpan:=DZSpan.cal (JL (P:=l.prog) (w:=w) (base:=base) hB DZSpan.fn);have CMany:=DZMany.cal (JN hB CTake2 DZMany.fn);have CSpanned:=DZSpanned.cal (yx hB CTake2 DZSpanned.fn);have CAllM:=DZAllMoved.cal (wA (P:=l.prog) (w:=w) (base:=base) hB DZAllMoved.fn);have CMoved:=DZMoved.cal (Gg hB CAllM DZMoved.fn);have CJoin:=DZJoined.cal (BR (P:=l.prog) (w:=w) (base:=base) hB DZJoined.fn);have COther:=DZOther.cal (Gf hB CTake2 CMoved CJoin DZOther.fn);have CPlain:=DZPlainPlans.cal (Ge (P:=l.prog) (w:=w) (base:=base) hB DZPlainPlans.fn);have CPlan:∀n,Cal l.prog w K mg base "_law_plan" (n+2) q2_ (lD n):=by
  intro n
  induction n with
  | zero=>exact DZPlan.cal (Bx (P:=l.prog) (w:=w) (mg:=mg) (base:=base))
  | succ n ih=>exact DZPlan.cal (JM hB CTake2 CSpan ih DZPlan.fn)
 have CTabl:∀n,Cal l.prog w K mg base "_law_tabled" (n+2) q1_ (ou n):=by
  intro n
  induction n with
  | zero=>exact DZTabled.cal (Bm (P:=l.prog) (w:=w) (mg:=mg) (base:=base))
  | succ n ih=>exact DZTabled.cal (JK hB CTake2 CSpan ih DZTabled.fn)
 have CLook:∀n,Cal l.prog w K mg base "_law_is_plan" (n+2) q3_ (lE n):=by
  intro n
  induction n with
  | zero=>exact DZIsPlan.cal (yL (P:=l.prog) (w:=w) (mg:=mg) (base:=base))
  | succ n ih=>exact DZIsPlan.cal (Gh hB CSpan ih DZIsPlan.fn)
 exact MJ hB CTape CSts CMany CSpanned (CPlan 60) (CTabl 60) CIsP (CLook 140) COther CPlain DLaw.fn
theorem walk {l:PySem.W.OpenLaw}{q:Program}{loose:List Str}{XP:(Str->Option Value)->Heap->Prop}{YP:World->Heap->Prop}{d:DefRec}{K:Params->PySem.W.Frag}(hn:l.most=some 63)(hdf:d.params.defaults=[])
  (hY:∀(w:World)(h:Heap),YP w h->(K w.params).In h)
  (F:∀(w:World)(mg:Str->Option Value)(fa:Addr)(h:Heap),(K w.params).In h->h.Ns mainGlobals mg->mg d.name=some (.ref fa) ->
   ∃fd:FuncData,(∀(s:Shared)(u:Value),BindsTo s fd ⟨[u],[]⟩ [("_law_script",u)])/\∀base:Heap,(K w.params).In base->base.Ns mainGlobals mg->dN l.prog w (K w.params) mg base CX0 150 fa fd ["_law_script"] (zN (K w.params))) :
  PySem.W.WalkO q loose XP YP l.row.toRowW d [] (fun f vs=>PySem.call f vs):=
 L2.HB (n:=63) (k:=150) (x := "_law_script") (CX:=fun _=>CX0) (sp:=fun w=>zN (K w.params)) hn δ hdf ⟨rfl,δ,δ,rfl⟩ hY F (fun _ _ a ns hl _ hS=>⟨a,ns,rfl,hS,hl,fun _=>rfl⟩) fun _ _ _ _ _ z=>z
end K19
open PySem PySem.W PyProof.Rows
set_option maxRecDepth 100000 in
set_option maxHeartbeats 0 in
theorem PySem.Challenge.cw_caseways_k19_plans_looked_at_holds : PySem.Challenge.rw_caseways_k19_plans_looked_at.Holds := by
 w_on; o_law; k_head; (case hw=>w_witness2)
 k_fill
 refine K19.walk (l:=PySem.Challenge.rw_caseways_k19_plans_looked_at) rfl rfl (fun w h Y=>PySem.W.kIn_of Y) ?F
 case F=>
  intro w mg fa h KX G hmg
  refine' K19.all_mk KX G hmg ?a1 ?l1 ?c1 ?k1 ?a2 ?l2 ?c2 ?k2 ?a3 ?l3 ?c3 ?k3 ?a4 ?l4 ?c4 ?k4 ?a5 ?l5 ?c5 ?k5 ?a6 ?l6 ?c6 ?k6 ?a7 ?l7 ?c7 ?k7 ?a8 ?l8 ?c8 ?k8 ?a9 ?l9 ?c9 ?k9 ?a10 ?l10 ?c10 ?k10 ?a11 ?l11 ?c11 ?k11 ?a12 ?l12 ?c12 ?k12 ?a13 ?l13 ?c13 ?k13 ?a14 ?l14 ?c14 ?k14 ?a15 ?l15 ?c15 ?k15 ?a16 ?l16 ?c16 ?k16 ?a17 ?l17 ?c17 ?k17 ?a18 ?l18 ?c18 ?k18 ?a19 ?l19 ?c19 ?k19 ?a20 ?l20 ?c20 ?k20 ?a21 ?l21 ?c21 ?k21 ?a22 ?l22 ?c22 ?k22 ?a23 ?l23 ?c23 ?k23 ?z1 ?z2 ?z3 ?z4 ?z5 ?z6 ?z7 ?z8 ?z9 ?z10 ?z11 ?z12 ?z13 ?z14 ?z15 ?w1 ?w2
  case a1|l1|c1|k1|a2|l2|c2|k2|a3|l3|c3|k3|a4|l4|c4|k4|a5|l5|c5|k5|a6|l6|c6|k6|a7|l7|c7|k7|a8|l8|c8|k8|a9|l9|c9|k9|a10|l10|c10|k10|a11|l11|c11|k11|a12|l12|c12|k12|a13|l13|c13|k13|a14|l14|c14|k14|a15|l15|c15|k15|a16|l16|c16|k16|a17|l17|c17|k17|a18|l18|c18|k18|a19|l19|c19|k19|a20|l20|c20|k20|a21|l21|c21|k21|a22|l22|c22|k22|a23|l23|c23|k23|z1|z2|z3|z4|z5|z6|z7|z8|z9|z10|z11|z12|z13|z14|z15|w1|w2=>k_is
#print axioms PySem.Challenge.cw_caseways_k19_plans_looked_at_holds
