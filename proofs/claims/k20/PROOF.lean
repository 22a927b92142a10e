import PyProof.Rows.All
import Wide.All
import OpenK.AllK
import Wide.FinOn
import Lean
import PyProof.EqAt
import PyProof.EqKinds
import PyProof.TupleCall
import PyProof.NeData
import PySem.Challenge.RW_caseways_k20_plans_spoilt_anywhere
local macro_rules | `(tactic| omega) => `(tactic| first | with_reducible assumption | lia | omega +splitDisjunctions)
set_option Elab.async false
set_option linter.all false
set_option maxRecDepth 100000
theorem ω {p : Prop}(h : p := by omega) : p := h
theorem δ {p : Prop}(h : p := by decide) : p := h
theorem ψ {p : Prop}(h : p := by decide +kernel) : p := h
open List (all_append all_cons all_eq_true all_map all_nil any_cons append_nil cons_append contains_iff_mem filterMap_cons filterMap_map filter_cons_of_neg filter_cons_of_pos flatten_cons forIn_cons getD_eq_getElem?_getD getElem?_append_right getElem?_cons_succ getElem?_eq_getElem getElem?_map getElem_mem length_append length_cons length_drop length_filter_le length_map length_nil length_pos_iff length_range length_reverse length_set length_singleton length_take lookup_cons lookup_cons_self map_append map_cons map_drop map_nil mem_append mem_append_right mem_cons mem_cons_of_mem mem_cons_self mem_filter mem_filterMap mem_iff_getElem mem_map mem_of_getElem? mem_range mem_singleton nil_append nodup_cons not_mem_nil of_mem_zip pairwise_cons replicate_succ reverse_cons set_cons_succ set_cons_zero size_toArray sum_cons take_length take_of_length_le)
open PySem.Heap (get?_push_of_some get?_push_size get?_update_other lt_size size_push)
open Option (getD_none)
open PySem.W (codeIn fnOf keepIn kitOne mg_none_of mg_of nsIn)
open Array (length_toList toList_append)
open Nat (add_comm le_of_lt le_refl le_trans log2_lt lt_irrefl lt_of_lt_of_le lt_or_ge lt_succ_of_lt lt_succ_self ne_of_gt ne_of_lt one_mul pow_one pow_zero sub_self succ_le_succ zero_le)
open Int (emod_lt_of_pos emod_nonneg eq_ofNat_of_zero_le lt_or_le natCast_nonneg toNat_natCast)
open Bool (and_eq_true false_eq_true)
namespace L2
open PySem PySem.Spec PyProof.Rows
noncomputable abbrev Key:=Sum Int Str
noncomputable def Rt:Key->Value->Bool
 | .inl k,v=>Value.isInt k v
 | .inr x,v=>Value.isStrOf x v
noncomputable def Wk (w:World):Key->Int
 | .inl k=>hashInt k
 | .inr x=>hashStr w x
theorem dR:∀{k:Key}{v:Value},Rt k v=true->(∃i t,k=Sum.inl i/\v=Value.int i t)\/(∃x t,k=Sum.inr x/\v=Value.str x t)
 | .inl i,v,h=>by
  obtain⟨t,e⟩:=Value.isInt_shape (k:=i) (v:=v) h;exact .inl ⟨i,t,rfl,e⟩
 | .inr x,v,h=>by
  obtain⟨t,e⟩:=Value.isStrOf_shape (x:=x) (v:=v) h;exact .inr ⟨x,t,rfl,e⟩
theorem Ul (a b:Int):decide ((Sum.inl a:Key)=Sum.inl b)=(a == b):=by
 by_cases e:a=b
 ·subst e;simp
 have h:¬(Sum.inl a:Key)=Sum.inl b:=fun q=>e (Sum.inl.inj q);rw[decide_eq_false h];exact(beq_eq_false_iff_ne.mpr e).symm
theorem Ui (a b:Str):decide ((Sum.inr a:Key)=Sum.inr b)=decide (a=b):=by
 by_cases e:a=b
 ·subst e;simp
 have h:¬(Sum.inr a:Key)=Sum.inr b:=fun q=>e (Sum.inr.inj q);rw[decide_eq_false h,decide_eq_false e]
theorem Uk (a:Int)(b:Str):decide ((Sum.inl a:Key)=Sum.inr b)=false:=decide_eq_false (fun q=>nomatch q)
theorem Uj (a:Str)(b:Int):decide ((Sum.inr a:Key)=Sum.inl b)=false:=decide_eq_false (fun q=>nomatch q)
noncomputable def zc (prog:Program)(w:World):PySem.KeyKind prog w Key where
 is:=Rt
 hash:=Wk w
 inj:=fun v a b ha hb=>by
  rcases dR ha with⟨i,t,rfl,rfl⟩|⟨x,t,rfl,rfl⟩
  ·rcases dR hb with⟨j,u,rfl,e⟩|⟨y,u,rfl,e⟩
   ·injection e with e1 _;rw[e1]
   exact nomatch e
  rcases dR hb with⟨j,u,rfl,e⟩|⟨y,u,rfl,e⟩
  ·exact nomatch e
  injection e with e1 _;rw[e1]
 byValue:=fun k v h=>by
  rcases dR h with⟨i,t,rfl,rfl⟩|⟨x,t,rfl,rfl⟩ <;> rfl
 pyHash:=fun hv h=>by
  rcases dR hv with⟨i,t,rfl,rfl⟩|⟨x,t,rfl,rfl⟩
  ·exact wpAny_pyHash_int h
  exact wpAny_pyHash_str h
 eqBool:=fun hu hv h=>by
  rcases dR hu with⟨i,t,rfl,rfl⟩|⟨x,t,rfl,rfl⟩
  ·rcases dR hv with⟨j,u,rfl,rfl⟩|⟨y,u,rfl,rfl⟩
   ·rw[Ul] at h;exact wpAny_eqBool_int h
   rw[Uk] at h;exact SeqAt.EqAt.int_str i t y u _ _ _ _ h
  rcases dR hv with⟨j,u,rfl,rfl⟩|⟨y,u,rfl,rfl⟩
  ·rw[Uj] at h;exact SeqAt.EqAt.str_int x t j u _ _ _ _ h
  rw[Ui] at h;exact wpAny_eqBool_str h
 «strs»:=fun k x t v h=>by
  rcases dR h with⟨i,u,rfl,e⟩|⟨y,u,rfl,e⟩
  ·exact nomatch e
  injection e with e1 _;subst e1;cases v <;> rfl
inductive V where
 | non|bl (b:Bool)|int (i:Int)|str (x:Str)|byt (b:Array UInt8)|flt (b:UInt64)|ref (a:Addr)|ty (n:String)
 deriving DecidableEq
noncomputable def RelV:V->Value->Prop
 | .non,u=>u=Value.none
 | .bl b,u=>u=Value.bool b
 | .int i,u=>∃t,u=Value.int i t
 | .str x,u=>∃t,u=Value.str x t
 | .byt b,u=>∃t,u=Value.bytes b t
 | .flt b,u=>∃t,u=Value.float b t
 | .ref a,u=>u=Value.ref a
 | .ty n,u=>u=Value.type n
noncomputable abbrev Vals:List V->List Value->Prop:=Paired RelV
theorem Vals.length {xs:List V}{us:List Value}(r:Vals xs us):xs.length=us.length:=Paired.length r
theorem Vals.get:∀{xs:List V}{us:List Value}{i:Nat}{x:V},Vals xs us->xs[i]?=some x->∃u,us[i]?=some u/\RelV x u
 | _,_,_,_,.nil,e=>by simp at e
 | _,_,0,_,.cons r _,e=>by simp at e;subst e;exact⟨_,rfl,r⟩
 | _,_,i+1,x,.cons _ t,e=>by
  obtain⟨u,h1,h2⟩:=Vals.get (i:=i) (x:=x) t (by simpa using e);exact⟨u,by simpa using h1,h2⟩
theorem Vals.set {x:V}{u:Value}(r:RelV x u):∀{xs:List V}{us:List Value}(i:Nat),Vals xs us->Vals (xs.set i x) (us.set i u)
 | _,_,_,.nil=>.nil
 | _,_,0,.cons _ t=>.cons r t
 | _,_,i+1,.cons q t=>.cons q (Vals.set r i t)
theorem Vals.append:∀{xs ys:List V}{us ws:List Value},Vals xs us->Vals ys ws->Vals (xs++ys) (us++ws)
 | _,_,_,_,.nil,s=>s
 | _,_,_,_,.cons r t,s=>.cons r (Vals.append t s)
theorem Vals.take:∀{xs:List V}{us:List Value}(n:Nat),Vals xs us->Vals (xs.take n) (us.take n)
 | _,_,0,_=>.nil
 | _,_,_+1,.nil=>.nil
 | _,_,n+1,.cons r t=>.cons r (Vals.take n t)
theorem Vals.drop:∀{xs:List V}{us:List Value}(n:Nat),Vals xs us->Vals (xs.drop n) (us.drop n)
 | _,_,0,r=>r
 | _,_,_+1,.nil=>.nil
 | _,_,n+1,.cons _ t=>Vals.drop n t
theorem Vals.none_of:∀{xs:List V}{us:List Value}{i:Nat},Vals xs us->xs[i]?=none->us[i]?=none:=fun {xs us i} r e=>by
 have h1:=r.length;have h2:xs.length<=i:=List.getElem?_eq_none_iff.mp e;exact List.getElem?_eq_none_iff.mpr ω
noncomputable def U0:Option V->Option Value->Prop
 | some v,some u=>RelV v u
 | none,none=>True
 | _,_=>False
noncomputable def KV {κ:Type}:List (κ×V)->List (κ×Value)->Prop:=Paired fun(p:κ×V)(q:κ×Value)=>p.1=q.1/\RelV p.2 q.2
noncomputable def kV:Key->V
 | .inl i=>.int i
 | .inr x=>.str x
inductive HO where
 /-- a list -/
 | lst (xs:List V)
 /-- a tuple (never changes) -/
 | tup (xs:List V)
 /-- a dict whose keys are ints and texts;one whose keys are tuples of ints and texts (the empty one is both) -/
 | dK (kvs:List (Key×V))|dT (kvs:List (List Key×V))
 /-- a set of ints: its members,its size -/
 | set (S:Int->Bool) (n:Nat)
 /-- an instance of the class at C,its dict at dx,its attributes -/
 | ins (C dx:Addr) (fs:List (Str×V))
 /-- the dict of the instance at x -/
 | own (x:Addr)
 /-- the dict of an exception -/
 | xd (fs:List (Str×V))
 /-- a bound method,f of x -/
 | met (f x:Addr)
 /-- a range object lo,lo+1,.. below hi -/
 | rng (lo hi:Int)
 /-- a thing that is known to the object (the script;a dict while a loop walks it): read,never written while it is so -/
 | frz (o:Obj) (u:HO)
 /-- a code object's table -/
 | tbl (ps:Array Value)
 /-- any other thing,by what is true of its one object (a def of one's own: SetO a S n:=HO.ext fun h=>..) -/
 | ext (φ:Heap->Prop)
noncomputable abbrev Hp:=Addr->Option HO
noncomputable def upd (H:Hp)(a:Addr)(o:HO):Hp:=fun b=>if b=a then some o else H b
theorem aB {H:Hp}{a:Addr}{o:HO}:upd H a o a=some o:=by unfold upd;rw[if_pos rfl]
theorem aO {H:Hp}{a b:Addr}{o:HO}(h:b≠a):upd H a o b=H b:=by unfold upd;rw[if_neg h]
theorem aF {H:Hp}{a b:Addr}{o:HO}(h:H a=some o)(h':H b=none):a≠b:=by
 intro e;subst e;rw[h] at h';cases h'
section
variable (P:Program)(w:World)
noncomputable def dh (H:Hp)(h:Heap)(a:Addr):HO->Prop
 | .lst xs=>xs.length<=sizeLine/\∃(its:List Value)(n:Nat),Vals xs its/\h.get? a=some { cls:=.type "list",data:=.seq its.toArray n }
 | .tup xs=>xs.length<=sizeLine/\∃its:List Value,Vals xs its/\IsTup h a its.toArray
 | .dK kvs=>kvs.length<=sizeLine/\(a == sysModules)=false/\∃vs,KV kvs vs/\h.DictOf (zc P w) a vs
 | .dT kvs=>kvs.length<=sizeLine/\(a == sysModules)=false/\∃xs:List (List Key×Addr×Value),
   Paired (fun(p:List Key×V)(q:List Key×Addr×Value)=>p.1=q.1/\H q.2.1=some (.tup (p.1.map kV))/\RelV p.2 q.2.2) kvs xs /\
   ∃o es ep,h.get? a=some o/\o.ExactDict/\o.data=.dict es ep/\es.toList=xs.map (entryOfKey (tupleKind (zc P w)))/\(xs.map (·.1)).Nodup
 | .set S n=>h.SetOf (intKind P w) a S n
 | .ins C dx fs=>H dx=some (.own a)/\fs.length<=1000/\dx≠a/\h.get? a=some (PySem.W.instObj C dx) /\
   ∃mA,h.Ns1 dx mA/\(∀f,U0 (fs.lookup f) (mA f))/\PySem.Within mA (fs.map (·.1))
 | .own _=>∃o,h.get? a=some o
 | .xd fs=>∃mA,h.Ns1 a mA/\∀f,U0 (fs.lookup f) (mA f)
 | .rng lo hi=>∃t u v,h.get? a=some { cls:=.type "range",data:=.fields #[.int lo t,.int hi u,.int 1 v] }
 | .frz o u=>h.get? a=some o/\dh H h a u
 | .tbl ps=>h.get? a=some { cls:=.none,data:=.fields ps }
 | .met f x=>h.get? a=some (PySem.W.methodObj (.ref f) (.ref x))
 | .ext φ=>φ h/\(∃o,h.get? a=some o)/\∀h1 h2:Heap,φ h1->(∀o,h1.get? a=some o->h2.get? a=some o)->φ h2
noncomputable def HOk (H:Hp)(h:Heap):Prop:=∀a o,H a=some o->dh P w H h a o
end
section
variable {P:Program}{w:World}{H H':Hp}{h h':Heap}{a:Addr}{o:HO}
theorem dh.lt (x:dh P w H h a o):a<h.objs.size:=by
 cases o with
 | lst xs=>obtain⟨_,_,_,_,e⟩:=x;exact lt_size e
 | tup xs=>obtain⟨_,_,_,p⟩:=x;exact p.lt
 | dK kvs=>obtain⟨_,_,_,_,o,_,_,e,_⟩:=x;exact lt_size e
 | dT kvs=>obtain⟨_,_,_,_,o,_,_,e,_⟩:=x;exact lt_size e
 | set S n=>obtain⟨o,_,_,_,e,_⟩:=x;exact lt_size e
 | ins C dx fs=>obtain⟨_,_,_,e,_⟩:=x;exact lt_size e
 | own y=>obtain⟨_,e⟩:=x;exact lt_size e
 | xd fs=>obtain⟨_,⟨_,_,_,e,_⟩,_⟩:=x;exact lt_size e
 | rng lo hi=>obtain⟨_,_,_,e⟩:=x;exact lt_size e
 | frz ob u=>obtain⟨e,_⟩:=x;exact lt_size e
 | tbl ps=>exact lt_size (show h.get? a=some _ from x)
 | met f y=>exact lt_size (show h.get? a=some _ from x)
 | ext φ=>obtain⟨_,⟨_,e⟩,_⟩:=x;exact lt_size e
theorem Paired.Vy {α β:Type}{F G:α->β->Prop}:∀{l₁:List α}{l₂:List β},Paired F l₁ l₂->(∀a b,F a b->G a b)->Paired G l₁ l₂
 | _,_,.nil,_=>.nil
 | _,_,.cons r t,f=>.cons (f _ _ r) (Paired.Vy t f)
theorem dh.stay (x:dh P w H h a o)(k:∀b u,(b=a\/H b=some (.own a))->h.get? b=some u->h'.get? b=some u)
  (ho:∀b,H b=some (.own a)->H' b=some (.own a)) (ht:∀b xs,H b=some (.tup xs)->H' b=some (.tup xs)):dh P w H' h' a o:=by
 induction o with
 | lst xs=>obtain⟨z,its,n,r,e⟩:=x;exact⟨z,its,n,r,k _ _ (.inl rfl) e⟩
 | tup xs=>obtain⟨z,its,r,ob,e,c⟩:=x;exact⟨z,its,r,ob,k _ _ (.inl rfl) e,c⟩
 | dK kvs=>obtain⟨z,y,vs,r,ob,es,ep,e,c⟩:=x;exact⟨z,y,vs,r,ob,es,ep,k _ _ (.inl rfl) e,c⟩
 | dT kvs=>
  obtain⟨z,y,xs,r,ob,es,ep,e,c⟩:=x;exact⟨z,y,xs,Paired.Vy r fun p q z=>⟨z.1,ht _ _ z.2.1,z.2.2⟩,ob,es,ep,k _ _ (.inl rfl) e,c⟩
 | set S n=>obtain⟨ob,es,ep,t,e,c⟩:=x;exact⟨ob,es,ep,t,k _ _ (.inl rfl) e,c⟩
 | ins C dx fs=>
  obtain⟨d,z,ne,e,mA,⟨od,es,ep,e2,c⟩,r⟩:=x;exact⟨ho _ d,z,ne,k _ _ (.inl rfl) e,mA,⟨od,es,ep,k _ _ (.inr d) e2,c⟩,r⟩
 | own y=>obtain⟨ob,e⟩:=x;exact⟨ob,k _ _ (.inl rfl) e⟩
 | xd fs=>obtain⟨mA,⟨od,es,ep,e,c⟩,r⟩:=x;exact⟨mA,⟨od,es,ep,k _ _ (.inl rfl) e,c⟩,r⟩
 | rng lo hi=>obtain⟨t,u,v,e⟩:=x;exact⟨t,u,v,k _ _ (.inl rfl) e⟩
 | frz ob u ih=>obtain⟨e,q⟩:=x;exact⟨k _ _ (.inl rfl) e,ih q⟩
 | tbl ps=>
  have e:h.get? a=some { cls:=.none,data:=.fields ps }:=x;show h'.get? a=some { cls:=.none,data:=.fields ps };exact k a _ (.inl rfl) e
 | met f y=>
  have e:h.get? a=some (PySem.W.methodObj (.ref f) (.ref y)):=x;show h'.get? a=some (PySem.W.methodObj (.ref f) (.ref y));exact k a _ (.inl rfl) e
 | ext φ=>obtain⟨p,⟨o,e⟩,st⟩:=x;exact⟨st _ _ p fun o q=>k _ _ (.inl rfl) q,⟨o,k _ _ (.inl rfl) e⟩,st⟩
theorem HOk.lt (x:HOk P w H h)(e:H a=some o):a<h.objs.size:=(x a o e).lt
theorem HOk.fresh (x:HOk P w H h)(e:h.objs.size<=a):H a=none:=by
 cases q:H a with
 | none=>rfl
 | some u=>exact absurd (lt_of_lt_of_le (x.lt q) e) (lt_irrefl _)
theorem HOk.kept (x:HOk P w H h)(k:∀b u,h.get? b=some u->h'.get? b=some u):HOk P w H h':=fun a o e=>
 (x a o e).stay (fun b u _ q=>k b u q) (fun _ q=>q) fun _ _ q=>q
theorem HOk.laid (x:HOk P w H h)(k:∀b u,h.get? b=some u->h'.get? b=some u)(hp:h.objs.size<=a)(new:dh P w (upd H a o) h' a o):HOk P w (upd H a o) h':=fun b u e=>by
 have hn:=x.fresh hp;by_cases hb:b=a
 ·subst hb;rw[aB] at e;cases e;exact new
 rw[aO hb] at e;exact(x b u e).stay (fun c v _ q=>k c v q) (fun c q=>by rw[aO (aF q hn)];exact q) fun c xs q=>by rw[aO (aF q hn)];exact q
end
noncomputable def Rd (H:Hp)(a:Addr)(u:HO):Prop:=H a=some u\/∃o,H a=some (.frz o u)
theorem Rd.ok {P:Program}{w:World}{H:Hp}{h:Heap}{a:Addr}{u:HO}(r:Rd H a u)(x:HOk P w H h):dh P w H h a u:=by
 rcases r with r|⟨o,r⟩
 ·exact x a u r
 obtain⟨_,q⟩:=x a _ r;exact q
noncomputable def Mut:Option HO->Prop
 | some (.lst _)=>True
 | some (.dK _)=>True
 | some (.dT _)=>True
 | some (.set _ _)=>True
 | some (.ins _ _ _)=>True
 | some (.ext _)=>True
 | _=>False
section
variable {P:Program}{w:World}{H:Hp}{h h':Heap}{x e:Addr}{o':HO}
theorem HOk.write (ok:HOk P w H h)(mu:Mut (H x))(he:e=x\/H e=some (.own x))(k:∀b u,b≠e->h.get? b=some u->h'.get? b=some u)(heo:∃u,h'.get? e=some u)
  (new:dh P w (upd H x o') h' x o'):HOk P w (upd H x o') h':=fun b u q=>by
 have nown:∀c y,H c=some (.own y)->c≠x:=fun c y r z=>by subst z;rw[r] at mu;exact mu
 have ntup:∀c xs,H c=some (.tup xs)->c≠x:=fun c xs r z=>by subst z;rw[r] at mu;exact mu
 by_cases hb:b=x
 ·subst hb;rw[aB] at q;cases q;exact new
 rw[aO hb] at q;by_cases hbe:b=e
 ·have q':H b=some (.own x):=by
   rcases he with z|z
   ·exact absurd (hbe.trans z) hb
   rw[hbe];exact z
  rw[q] at q';cases q';obtain⟨v,hv⟩:=heo;exact⟨v,by rw[hbe];exact hv⟩
 refine(ok b u q).stay (fun c v hc r=>k c v ?_ r) (fun c r=>by rw[aO (nown c b r)];exact r) fun c xs r=>by rw[aO (ntup c xs r)];exact r
 rcases hc with rfl|hc
 ·exact hbe
 rintro rfl;rcases he with z|z
 ·exact nown c b hc z
 rw[hc] at z;cases z;exact hb rfl
end
structure Un (fs ex:List Addr)(H H':Hp)(h h':Heap):Prop where
 keep:∀b o,h.get? b=some o->H b=none->b∉fs->b∉ex->h'.get? b=some o
 slot:∀b o,h.get? b=some o->H b=none->b∈fs->b∉ex->∃sl,h'.get? b=some { o with slots:=sl }
 free:∀b o,h.get? b=some o->H b=none->b∉ex->H' b=none
 there:∀b o,h.get? b=some o->b∉ex->∃o',h'.get? b=some o'
 tups:∀b xs,H b=some (.tup xs)->H' b=some (.tup xs)
 frzs:∀b o u,H b=some (.frz o u)->H' b=some (.frz o u)
 tbls:∀b ps,H b=some (.tbl ps)->∃more,H' b=some (.tbl (ps++more))
section
variable {fs fs' ex ex':List Addr}{H H1 H2:Hp}{h h1 h2 h':Heap}{a x e:Addr}{o:HO}
theorem Un.any (u:Un fs ex H H1 h h1){b:Addr}{ob:Obj}(q:h.get? b=some ob)(n:H b=none)(hx:b∉ex):∃sl,h1.get? b=some { ob with slots:=sl }:=by
 by_cases hb:b∈fs
 ·exact u.slot b ob q n hb hx
 exact⟨ob.slots,u.keep b ob q n hb hx⟩
theorem Un.kept (k:∀b u,h.get? b=some u->h'.get? b=some u):Un fs ex H H h h':=
 ⟨fun b ob q _ _ _=>k b ob q,fun b ob q _ _ _=>⟨ob.slots,k b ob q⟩,fun _ _ _ n _=>n,fun b ob q _=>⟨ob,k b ob q⟩,fun _ _ q=>q,fun _ _ _ q=>q,fun _ ps q=>⟨#[],by rw[q];simp⟩⟩
theorem Un.refl:Un fs ex H H h h:=Un.kept fun _ _ q=>q
theorem Un.laid (k:∀b u,h.get? b=some u->h'.get? b=some u)(hp:h.objs.size<=a)(hn:H a=none):Un fs ex H (upd H a o) h h' where
 keep:=fun b u q _ _ _=>k b u q
 slot:=fun b u q _ _ _=>⟨u.slots,k b u q⟩
 free:=fun b u q n _=>by rw[aO (ne_of_lt (lt_of_lt_of_le (lt_size q) hp))];exact n
 there:=fun b u q _=>⟨u,k b u q⟩
 tups:=fun b xs q=>by rw[aO (aF q hn)];exact q
 frzs:=fun b u xs q=>by rw[aO (aF q hn)];exact q
 tbls:=fun b ps q=>⟨#[],by rw[aO (aF q hn),q];simp⟩
theorem Un.write (mu:Mut (H x))(he:e=x\/H e=some (.own x))(k:∀b u,b≠e->h.get? b=some u->h'.get? b=some u)(heo:∃u,h'.get? e=some u):Un fs ex H (upd H x o) h h':=by
 have hx:∀b,H b=none->b≠x:=fun b n z=>by subst z;rw[n] at mu;exact mu
 have hb:∀b,H b=none->b≠e:=fun b n z=>by
  subst z;rcases he with r|r
  ·exact hx b n r
  rw[n] at r;cases r
 have hm:∀b u,H b=some u->¬Mut (some u)->b≠x:=fun b u q nm z=>by subst z;rw[q] at mu;exact nm mu
 refine⟨fun b u q n _ _=>k b u (hb b n) q,fun b u q n _ _=>⟨u.slots,k b u (hb b n) q⟩,fun b u q n _=>by rw[aO (hx b n)];exact n,fun b u q _=>?_,
  fun b xs q=>by rw[aO (hm b _ q fun z=>z)];exact q,fun b u xs q=>by rw[aO (hm b _ q fun z=>z)];exact q,fun b ps q=>⟨#[],by rw[aO (hm b _ q fun z=>z),q];simp⟩⟩
 by_cases hbe:b=e
 ·subst hbe;exact heo
 exact⟨u,k b u hbe q⟩
end
noncomputable def trk (h:Heap)(H:Hp):List Addr:=(List.range h.objs.size).filter fun a=>(H a).isSome
noncomputable def wI (h:Heap)(H:Hp):Heap:=PySem.W.hideAll h (trk h H)
theorem Ig (h:Heap)(H:Hp):(wI h H).objs.size=h.objs.size:=PySem.W.hideAll_size _ _
theorem Mh {h:Heap}{H:Hp}{b:Addr}{o:Obj}(e:h.get? b=some o)(n:H b=none):(wI h H).get? b=some o:=
 PySem.W.hideAll_get _ e fun hm=>by
  have q:(H b).isSome=true:=(mem_filter.mp hm).2;rw[n] at q;simp at q
theorem Qi {h:Heap}{H:Hp}{b:Addr}{o:Obj}(e:(wI h H).get? b=some o):h.get? b=some o/\H b=none:=by
 have e':h.get? b=some o:=PySem.W.of_hideAll (trk h H) e;refine⟨e',?_⟩;cases q:H b with
 | none=>rfl
 | some x=>
  have hm:b∈trk h H:=mem_filter.mpr ⟨mem_range.mpr (lt_size e'),by simp [q]⟩;have z:(wI h H).get? b=none:=PySem.W.hideAll_none (trk h H) hm;rw[z] at e;cases e
structure Mod (K:PySem.W.Frag)(mg:Str->Option Value)(base:Heap):Prop where
 kin:K.In base
 glob:base.Ns mainGlobals mg
 blt:∃mb,base.Ns builtinsNs mb/\∀x:Str,x ≠ "__name__" -> mb x=bootBuiltins x
 nolimit:base.NoLimit
structure Cx where
 prog:Program
 w:World
 K:PySem.W.Frag
 mg:Str->Option Value
 base:Heap
 A:Around
 N:List Str
 s₀:Shared
 H₀:Hp
 env:Env
 outer:List Env
 stack:List Env
 ex:List Addr
 fn:Str->Bool
 calm:Bool
 pn:List (Addr×Obj)
 xe:Value->Shared->Prop
noncomputable def frs (l:List Env):List Addr:=l.filterMap (·.frame)
noncomputable abbrev Cx.fs (X:Cx):List Addr:=frs X.outer
noncomputable def Vis (sc:Scope)(x:Str):Prop:=sc.names.lookup x=some .local\/sc.names.lookup x=some .cell\/sc.names.lookup x=some .free
noncomputable def Loc (sc:Scope)(x:Str):Prop:=sc.names.lookup x=some .local\/sc.names.lookup x=some .cell
noncomputable def Look (env:Env)(h:Heap)(m:Str->Option Value)(x:Str)(u:Value):Prop:=
 (env.kindOf x=some .local/\m x=some u)\/((env.kindOf x=some .cell\/env.kindOf x=some .free)/\∃c,env.cells.lookup x=some c/\h.IsCell c (some u))
structure Cx.Ok (X:Cx):Prop where
 mod:Mod X.K X.mg X.base
 kind:X.env.scope.kind=.function
 glob:X.env.globals=mainGlobals
 blt:X.env.builtins=builtinsNs
 above:X.s₀.heap.objs.size<=X.env.locals
 inj:∀x y c,X.env.cells.lookup x=some c->X.env.cells.lookup y=some c->x=y
 has:∀x,(X.env.kindOf x=some .cell\/X.env.kindOf x=some .free)->∃c,X.env.cells.lookup x=some c
 cab:∀x c,X.fn x=true->X.env.cells.lookup x=some c->X.s₀.heap.objs.size<=c
 hd:X.calm=true->X.A.handled=none
 frames:X.A.frames=some X.stack
 stk:X.stack=X.outer\/(X.stack=X.env::X.outer/\X.env.frame=some X.env.locals)
 exf:∀b∈X.ex,b≠X.env.locals/\∀x c,X.env.cells.lookup x=some c->c≠b
 bs:∀b o,X.base.get? b=some o->X.s₀.heap.get? b=some o/\X.H₀ b=none
 bsz:X.base.objs.size<=X.s₀.heap.objs.size
 noex:∀b o,X.base.get? b=some o->b∉X.ex
 exfs:∀b∈X.ex,b∉X.fs
 oV:X.s₀.heap.FunFrames X.base X.outer
 frf:∀b∈X.fs,X.H₀ b=none
structure Inv (X:Cx)(pins:List (Addr×Obj))(σ:List (Option V))(H:Hp)(s:Shared):Prop where
 ok:X.Ok
 os:s.os=X.s₀.os
 bare:AllBare s.gens
 base:Un X.fs X.ex X.H₀ H X.s₀.heap s.heap
 loc:∃m,s.heap.Ns X.env.locals m/\∀(i:Nat)(x:Str)(v:V),X.N[i]?=some x->σ[i]?=some (some v)->Vis X.env.scope x->∃u,RelV v u/\Look X.env s.heap m x u
 cell:∀x c,X.env.cells.lookup x=some c->∃v,s.heap.IsCell c v
 free:H X.env.locals=none
 freeC:∀x c,X.env.cells.lookup x=some c->H c=none
 pin:∀p∈X.pn++pins,s.heap.get? p.1=some p.2/\H p.1=none/\p.1≠X.env.locals/\p.1∉X.fs/\∀v,p.2.data≠.cell v
 hok:HOk X.prog X.w H s.heap
 len:σ.length=X.N.length
section
variable {X:Cx}{pins:List (Addr×Obj)}{σ:List (Option V)}{H H':Hp}{s:Shared}{h':Heap}
theorem Cx.Ok.Wi (ok:X.Ok){b:Addr}{o:Obj}(e:X.base.get? b=some o):b∉X.fs:=fun hb=>by
 have:=(ok.oV.mem hb).1;rw[e] at this;cases this
theorem Inv.bs (I:Inv X pins σ H s):∀b o,X.base.get? b=some o->s.heap.get? b=some o/\H b=none:=fun b o e=>
 ⟨I.base.keep b o (I.ok.bs b o e).1 (I.ok.bs b o e).2 (I.ok.Wi e) (I.ok.noex b o e),I.base.free b o (I.ok.bs b o e).1 (I.ok.bs b o e).2 (I.ok.noex b o e)⟩
theorem Inv.bk (I:Inv X pins σ H s):∀b o,X.base.get? b=some o->s.heap.get? b=some o:=fun b o e=>(I.bs b o e).1
theorem Inv.mod (I:Inv X pins σ H s):Mod X.K X.mg X.base:=I.ok.mod
theorem Inv.kIn (I:Inv X pins σ H s):X.K.In s.heap:=I.ok.mod.kin.keeps I.bk
theorem Inv.lt (I:Inv X pins σ H s):X.env.locals<s.heap.objs.size:=let ⟨_,hn,_⟩:=I.loc;hn.lt
theorem Inv.sz (I:Inv X pins σ H s):X.s₀.heap.objs.size<=s.heap.objs.size:=le_trans I.ok.above (le_of_lt I.lt)
theorem Inv.T9 (I:Inv X pins σ H s){a:Addr}(h:s.heap.objs.size<=a):a∉X.fs:=fun hb=>by
 obtain⟨_,o,ho,_⟩:=I.ok.oV.mem hb;exact absurd (lt_of_lt_of_le (lt_size ho) (le_trans I.sz h)) (lt_irrefl _)
theorem Inv.cne (I:Inv X pins σ H s):∀x c,X.env.cells.lookup x=some c->c≠X.env.locals:=fun x c e z=>by
 obtain⟨v,o,ho,hd⟩:=I.cell x c e;obtain⟨m,⟨o',es,ep,ho',hd',_⟩,_⟩:=I.loc;rw[z,ho'] at ho;cases ho;rw[hd'] at hd;cases hd
theorem Inv.oV (I:Inv X pins σ H s):s.heap.FunFrames X.base X.outer:=by
 have all:∀(l:List Env),(∀b∈frs l,b∈X.fs)->X.s₀.heap.FunFrames X.base l->s.heap.FunFrames X.base l:=by
  intro l
  induction l with
  | nil=>intro _ _;trivial
  | cons env r ih=>
   intro hs hl;obtain⟨hk,⟨L,o,hf,hn,ho,hd⟩,hr⟩:=hl;have hL:L∈X.fs:=hs L (by unfold frs;rw[filterMap_cons,hf];exact mem_cons_self);obtain⟨sl,e⟩:=I.base.slot L o ho (I.ok.frf L hL) hL fun z=>I.ok.exfs L z hL;exact⟨hk,⟨L,_,hf,hn,e,hd⟩,ih (fun b hb=>hs b (by unfold frs;rw[filterMap_cons,hf];exact mem_cons_of_mem _ hb)) hr⟩
 exact all X.outer (fun _ hb=>hb) I.ok.oV
theorem Inv.stack (I:Inv X pins σ H s):s.heap.FunFrames X.base X.stack:=by
 rcases I.ok.stk with e|⟨e,hf⟩
 ·rw[e];exact I.oV
 rw[e];obtain⟨m,hn,_⟩:=I.loc;refine .cons (by rw[I.ok.kind];decide) hf hn ?_ I.oV;exact Heap.get?_none_of_le (le_trans I.ok.bsz I.ok.above)
theorem Inv.rF (I:Inv X pins σ H s):∀b∈frs X.stack,b∈X.env.locals::X.fs:=fun b hb=>by
 rcases I.ok.stk with e|⟨e,hf⟩
 ·rw[e] at hb;exact mem_cons_of_mem _ hb
 rw[e] at hb;unfold frs at hb;rw[filterMap_cons,hf] at hb;exact hb
theorem Inv.Ez (I:Inv X pins σ H s):∀b∈frs X.stack,H b=none:=fun b hb=>by
 rcases mem_cons.mp (I.rF b hb) with e|hb
 ·rw[e];exact I.free
 obtain⟨_,o,ho,_⟩:=I.ok.oV.mem hb;exact I.base.free b o ho (I.ok.frf b hb) fun z=>I.ok.exfs b z hb
theorem Inv.step {g':Array GenState}{t':Nat}{d':Drawn}{ch:List Addr}(I:Inv X pins σ H s)
  (hch:∀b∈ch,(b∈X.ex\/X.s₀.heap.objs.size<=b)/\b≠X.env.locals/\(∀x c,X.env.cells.lookup x=some c->c≠b)/\∀p∈X.pn++pins,p.1≠b)
  (keep:∀b o,b≠X.env.locals->b∉X.fs->b∉ch->s.heap.get? b=some o->H b=none->h'.get? b=some o)
  (slot:∀b o,b≠X.env.locals->b∈X.fs->b∉ch->s.heap.get? b=some o->H b=none->∃sl,h'.get? b=some { o with slots:=sl }) (free:∀b o,b∉ch->s.heap.get? b=some o->H b=none->H' b=none)
  (there:∀b o,b∉ch->s.heap.get? b=some o->∃o',h'.get? b=some o')
  (tups:∀b xs,H b=some (.tup xs)->H' b=some (.tup xs)) (frzs:∀b o u,H b=some (.frz o u)->H' b=some (.frz o u)) (tbls:∀b ps,H b=some (.tbl ps)->∃more,H' b=some (.tbl (ps++more)))
  (ns:∀m,s.heap.Ns X.env.locals m->h'.Ns X.env.locals m) (hok:HOk X.prog X.w H' h') (hg:AllBare g') :
  Inv X pins σ H' { s with heap:=h',gens:=g',drawn:=d',toks:=t' }:=by
 have neL:∀b o,X.s₀.heap.get? b=some o->b≠X.env.locals:=fun b o e=>ne_of_lt (lt_of_lt_of_le (lt_size e) I.ok.above);have neC:∀b o,X.s₀.heap.get? b=some o->b∉X.ex->b∉ch:=fun b o e hx hb=>by
  rcases(hch b hb).1 with z|z
  ·exact hx z
  exact absurd (lt_of_lt_of_le (lt_size e) z) (lt_irrefl _)
 have cellK:∀x c,X.env.cells.lookup x=some c->∀v,s.heap.IsCell c v->h'.IsCell c v:=fun x c e v ⟨o,ho,hd⟩=>by
  have nch:c∉ch:=fun z=>(hch c z).2.2.1 x c e rfl;by_cases hc:c∈X.fs
  ·obtain⟨sl,q⟩:=slot c o (I.cne x c e) hc nch ho (I.freeC x c e);exact⟨_,q,hd⟩
  exact⟨o,keep c o (I.cne x c e) hc nch ho (I.freeC x c e),hd⟩
 refine⟨I.ok,I.os,hg,⟨fun b o e n hb hx=>?_,fun b o e n hb hx=>?_,fun b o e n hx=>?_,fun b o e hx=>?_,fun b xs e=>tups b xs (I.base.tups b xs e),fun b o xs e=>frzs b o xs (I.base.frzs b o xs e),fun b ps e=>?_⟩,?_,fun x c e=>?_,?_,fun x c e=>?_,fun p hp=>?_,hok,I.len⟩
 ·exact keep b o (neL b o e) hb (neC b o e hx) (I.base.keep b o e n hb hx) (I.base.free b o e n hx)
 ·obtain⟨sl,e1⟩:=I.base.slot b o e n hb hx;obtain⟨sl',e2⟩:=slot b _ (neL b o e) hb (neC b o e hx) e1 (I.base.free b o e n hx);exact⟨sl',e2⟩
 ·obtain⟨o',e1⟩:=I.base.there b o e hx;exact free b o' (neC b o e hx) e1 (I.base.free b o e n hx)
 ·obtain⟨o',e1⟩:=I.base.there b o e hx;exact there b o' (neC b o e hx) e1
 ·obtain⟨m1,e1⟩:=I.base.tbls b ps e;obtain⟨m2,e2⟩:=tbls b _ e1;exact⟨m1++m2,by rw[e2,Array.append_assoc]⟩
 ·obtain⟨m,hn,hl⟩:=I.loc;refine⟨m,ns m hn,fun i x v e1 e2 e3=>?_⟩;obtain⟨u,r,l⟩:=hl i x v e1 e2 e3;refine⟨u,r,?_⟩;rcases l with l|⟨k,c,e,z⟩
  ·exact .inl l
  exact .inr ⟨k,c,e,cellK x c e _ z⟩
 ·obtain⟨v,z⟩:=I.cell x c e;exact⟨v,cellK x c e v z⟩
 ·obtain⟨m,⟨o,_,_,ho,_⟩,_⟩:=I.loc;exact free _ o (fun z=>(hch _ z).2.1 rfl) ho I.free
 ·obtain⟨v,o,ho,hd⟩:=I.cell x c e;exact free c o (fun z=>(hch c z).2.2.1 x c e rfl) ho (I.freeC x c e)
 obtain⟨e,n,ne,nf,d⟩:=I.pin p hp;have nch:p.1∉ch:=fun z=>(hch p.1 z).2.2.2 p hp rfl;exact⟨keep p.1 p.2 ne nf nch e n,free p.1 p.2 nch e n,ne,nf,d⟩
theorem Inv.un {t':Nat}(I:Inv X pins σ H s)(u:Un X.fs [] H H' s.heap h')(hok:HOk X.prog X.w H' h'):Inv X pins σ H' { s with heap:=h',toks:=t' }:=by
 obtain⟨m,⟨o,es,ep,ho,r⟩,_⟩:=id I.loc;obtain⟨sl,hL⟩:=u.any ho I.free (by simp);exact I.step (g':=s.gens) (d':=s.drawn) (ch:=[]) (fun _ z=>nomatch z) (fun b o _ hb _ e n=>u.keep b o e n hb (by simp)) (fun b o _ hb _ e n=>u.slot b o e n hb (by simp)) (fun b o _ e n=>u.free b o e n (by simp)) (fun b o _ e=>u.there b o e (by simp)) u.tups u.frzs u.tbls (fun m' hm=>by
  obtain⟨o',es',ep',ho',r'⟩:=hm;rw[ho] at ho';cases ho';exact⟨_,es',ep',hL,r'⟩) hok I.bare
theorem Inv.call {g':Array GenState}{t':Nat}{d':Drawn}{ch:List Addr}(I:Inv X pins σ H s)(u:Un (frs X.stack) ch H H' s.heap h')(hok:HOk X.prog X.w H' h')(hg:AllBare g')
  (hch:∀b∈ch,(b∈X.ex\/X.s₀.heap.objs.size<=b)/\b≠X.env.locals/\(∀x c,X.env.cells.lookup x=some c->c≠b)/\∀p∈X.pn++pins,p.1≠b) :
  Inv X pins σ H' { s with heap:=h',gens:=g',drawn:=d',toks:=t' }:=by
 obtain⟨m,⟨o,es,ep,ho,r⟩,_⟩:=id I.loc;obtain⟨sl,hL⟩:=u.any ho I.free fun z=>(hch _ z).2.1 rfl;exact I.step (ch:=ch) hch (fun b o hL hb hc e n=>u.keep b o e n (fun z=>(mem_cons.mp (I.rF b z)).elim hL hb) hc) (fun b o _ _ hc e n=>u.any e n hc) (fun b o hc e n=>u.free b o e n hc) (fun b o hc e=>u.there b o e hc) u.tups u.frzs u.tbls (fun m' hm=>by
  obtain⟨o',es',ep',ho',r'⟩:=hm;rw[ho] at ho';cases ho';exact⟨_,es',ep',hL,r'⟩) hok hg
theorem Inv.turned {t':Nat}{it:Addr}(I:Inv X pins σ H s)(k:∀b o,b≠it->s.heap.get? b=some o->h'.get? b=some o)(hn:H it=none)(hL:it≠X.env.locals)
  (h1:it∈X.ex\/X.s₀.heap.objs.size<=it) (h2:∀x c,X.env.cells.lookup x=some c->c≠it) (h3:∀p∈X.pn++pins,p.1≠it):Inv X pins σ H { s with heap:=h',toks:=t' }:=by
 have nit:∀b u,H b=some u->b≠it:=fun b u e z=>by rw[z,hn] at e;cases e
 refine I.step (g':=s.gens) (d':=s.drawn) (ch:=[it]) (fun b hb=>?_) (fun b o _ _ hc e _=>k b o (fun z=>hc (by simp [z])) e) (fun b o _ _ hc e _=>⟨o.slots,k b o (fun z=>hc (by simp [z])) e⟩) (fun _ _ _ _ n=>n)
  (fun b o hc e=>⟨o,k b o (fun z=>hc (by simp [z])) e⟩) (fun _ _ e=>e) (fun _ _ _ e=>e) (fun b ps e=>⟨#[],by rw[e];simp⟩) (fun m hm=>?_) (fun b u e=>?_) I.bare
 ·have e:b=it:=by simpa using hb
  subst e;exact⟨h1,hL,h2,h3⟩
 ·obtain⟨o,es,ep,ho,r⟩:=hm;exact⟨o,es,ep,k _ o (Ne.symm hL) ho,r⟩
 refine(I.hok b u e).stay (fun c v hc q=>k c v ?_ q) (fun _ q=>q) fun _ _ q=>q;rcases hc with z|z
 ·rw[z];exact nit b u e
 exact nit c _ z
theorem Inv.tok (I:Inv X pins σ H s)(t:Nat):Inv X pins σ H { s with toks:=t }:=I.un (h':=s.heap) (t':=t) Un.refl I.hok
theorem Inv.kept {t':Nat}(I:Inv X pins σ H s)(k:∀b u,s.heap.get? b=some u->h'.get? b=some u):Inv X pins σ H { s with heap:=h',toks:=t' }:=I.un (Un.kept k) (I.hok.kept k)
theorem Inv.laid {a:Addr}{o:HO}{t':Nat}(I:Inv X pins σ H s)(k:∀b u,s.heap.get? b=some u->h'.get? b=some u)(hp:s.heap.objs.size<=a)(new:dh X.prog X.w (upd H a o) h' a o) :
  Inv X pins σ (upd H a o) { s with heap:=h',toks:=t' }:=I.un (Un.laid k hp (I.hok.fresh hp)) (I.hok.laid k hp new)
theorem Inv.write {x e:Addr}{o:HO}{t':Nat}(I:Inv X pins σ H s)(mu:Mut (H x))(he:e=x\/H e=some (.own x))(k:∀b u,b≠e->s.heap.get? b=some u->h'.get? b=some u)(heo:∃u,h'.get? e=some u)
  (new:dh X.prog X.w (upd H x o) h' x o):Inv X pins σ (upd H x o) { s with heap:=h',toks:=t' }:=I.un (Un.write mu he k heo) (I.hok.write mu he k heo new)
theorem Inv.nU {pins':List (Addr×Obj)}(I:Inv X pins σ H s)(h:∀p∈pins',s.heap.get? p.1=some p.2/\H p.1=none/\p.1≠X.env.locals/\p.1∉X.fs/\∀v,p.2.data≠.cell v):Inv X pins' σ H s:=
 ⟨I.ok,I.os,I.bare,I.base,I.loc,I.cell,I.free,I.freeC,fun p hp=>(mem_append.mp hp).elim (fun z=>I.pin p (List.mem_append_left _ z)) (h p),I.hok,I.len⟩
theorem Bo {N:List Str}(hN:N.Nodup){i j:Nat}{x:Str}(a:N[i]?=some x)(b:N[j]?=some x):i=j:=by
 obtain⟨h1,e1⟩:=List.getElem?_eq_some_iff.mp a;obtain⟨h2,e2⟩:=List.getElem?_eq_some_iff.mp b;exact(List.getElem_inj hN).mp (e1.trans e2.symm)
theorem xg {M:Model}{A:Around}{E:Value->Shared->Prop}{i:Nat}{x:Str}{v:V}{u:Value}{Q:Unit->Shared->Prop}(I:Inv X pins σ H s)(hN:X.N.Nodup)(hi:X.N[i]?=some x)(hx:Loc X.env.scope x)(r:RelV v u)
  (h:∀s',Inv X pins (σ.set i (some v)) H s'->(∃a,Heap.SameBut a s.heap s'.heap/\(a=X.env.locals\/X.env.cells.lookup x=some a))->Q () s') (hf:X.fn x=true\/X.env.scope.names.lookup x=some .local:=by first|exact .inl rfl|exact .inr rfl|assumption):wpAny M A (storeName X.env x u) Q E s:=by
 obtain⟨m,hn,hl⟩:=id I.loc;have hcls:(X.env.scope.kind == .class||(X.env.scope.kind == .module&&X.env.locals != X.env.globals))=false:=by rw[I.ok.kind];rfl
 have hiσ:i<σ.length:=by rw[I.len];exact(List.getElem?_eq_some_iff.mp hi).1
 have cne:=I.cne;have tracked:∀{a:Addr}{h':Heap},(∃o,s.heap.get? a=some o/\H a=none)->Heap.SameBut a s.heap h'->HOk X.prog X.w H h':=fun {a h'} ha hs b ob e=>by
  obtain⟨_,_,hfree⟩:=ha;refine(I.hok b ob e).stay (fun c w' hc q=>(hs.2 c ?_).trans q) (fun _ q=>q) fun _ _ q=>q;rintro rfl;rcases hc with rfl|hc
  ·rw[hfree] at e;cases e
  rw[hfree] at hc;cases hc
 rcases hx with hk|hk
 ·refine wpAny_storeName_local hk hn (fun h' hn' hs=>?_) hcls;obtain⟨oL,_,_,hoL,_⟩:=id hn;refine h _ ⟨I.ok,I.os,I.bare,⟨fun b o e n hb hx=>?_,fun b o e n hb hx=>?_,I.base.free,fun b o e hx=>?_,I.base.tups,I.base.frzs,I.base.tbls⟩,⟨_,hn',fun j y v' e1 e2 e3=>?_⟩,fun y c e=>?_,I.free,I.freeC,fun p hp=>?_,tracked ⟨oL,hoL,I.free⟩ hs,by simpa using I.len⟩ ⟨_,hs,.inl rfl⟩
  ·exact(hs.2 b (ne_of_lt (lt_of_lt_of_le (lt_size e) I.ok.above))).trans (I.base.keep b o e n hb hx)
  ·obtain⟨sl,e1⟩:=I.base.slot b o e n hb hx;exact⟨sl,(hs.2 b (ne_of_lt (lt_of_lt_of_le (lt_size e) I.ok.above))).trans e1⟩
  ·obtain⟨o',e1⟩:=I.base.there b o e hx;exact⟨o',(hs.2 b (ne_of_lt (lt_of_lt_of_le (lt_size e) I.ok.above))).trans e1⟩
  ·by_cases hj:j=i
   ·subst hj;rw[hi] at e1;cases e1;rw[List.getElem?_set_self hiσ] at e2;cases e2;exact⟨u,r,.inl ⟨hk,by simp⟩⟩
   rw[List.getElem?_set_ne (Ne.symm hj)] at e2;obtain⟨u',r',q⟩:=hl j y v' e1 e2 e3;refine⟨u',r',?_⟩;rcases q with⟨k,e⟩|⟨k,c,e,z⟩
   ·refine .inl ⟨k,?_⟩;have:y≠x:=fun e=>hj (Bo hN e1 (e ▸ hi));simp [this,e]
   exact .inr ⟨k,c,e,z.sameBut hs (cne y c e)⟩
  ·obtain⟨w',z⟩:=I.cell y c e;exact⟨w',z.sameBut hs (cne y c e)⟩
  obtain⟨e,n,ne,nf,d⟩:=I.pin p hp;exact⟨(hs.2 p.1 ne).trans e,n,ne,nf,d⟩
 have hfn:X.fn x=true:=by
  rcases hf with z|z
  ·exact z
  rw[z] at hk;cases hk
 obtain⟨c,hc⟩:=I.ok.has x (.inl hk);obtain⟨w',z⟩:=I.cell x c hc;refine wpAny_storeName_cell I.ok.kind hk hc z (fun h' hc' hs=>?_);obtain⟨oc,hoc,hocd⟩:=id z;refine h { s with heap:=h' } ⟨I.ok,I.os,I.bare,⟨fun b o e n hb hx=>?_,fun b o e n hb hx=>?_,I.base.free,fun b o e hx=>?_,I.base.tups,I.base.frzs,I.base.tbls⟩,⟨m,hn.sameBut hs (Ne.symm (cne x c hc)),fun j y v' e1 e2 e3=>?_⟩,fun y c' e=>?_,I.free,I.freeC,fun p hp=>?_,tracked ⟨oc,hoc,I.freeC x c hc⟩ hs,by simpa using I.len⟩ ⟨c,hs,.inr hc⟩
 ·exact(hs.2 b (ne_of_lt (lt_of_lt_of_le (lt_size e) (I.ok.cab x c hfn hc)))).trans (I.base.keep b o e n hb hx)
 ·obtain⟨sl,e1⟩:=I.base.slot b o e n hb hx;exact⟨sl,(hs.2 b (ne_of_lt (lt_of_lt_of_le (lt_size e) (I.ok.cab x c hfn hc)))).trans e1⟩
 ·obtain⟨o',e1⟩:=I.base.there b o e hx;exact⟨o',(hs.2 b (ne_of_lt (lt_of_lt_of_le (lt_size e) (I.ok.cab x c hfn hc)))).trans e1⟩
 ·by_cases hj:j=i
  ·subst hj;rw[hi] at e1;cases e1;rw[List.getElem?_set_self hiσ] at e2;cases e2;exact⟨u,r,.inr ⟨.inl hk,c,hc,hc'⟩⟩
  rw[List.getElem?_set_ne (Ne.symm hj)] at e2;obtain⟨u',r',q⟩:=hl j y v' e1 e2 e3;refine⟨u',r',?_⟩;rcases q with q|⟨k,c',e,z'⟩
  ·exact .inl q
  refine .inr ⟨k,c',e,z'.sameBut hs ?_⟩;rintro rfl;exact hj (Bo hN e1 (I.ok.inj _ _ _ e hc ▸ hi))
 ·by_cases hcc:c'=c
  ·subst hcc;exact⟨_,hc'⟩
  obtain⟨w2,z2⟩:=I.cell y c' e;exact⟨w2,z2.sameBut hs hcc⟩
 obtain⟨e,n,ne,nf,d⟩:=I.pin p hp;refine⟨(hs.2 p.1 ?_).trans e,n,ne,nf,d⟩;intro q;rw[q,hoc] at e;have q':oc=p.2:=Option.some.inj e;exact d w' (by rw[<- q'];exact hocd)
theorem qe {M:Model}{A:Around}{E:Value->Shared->Prop}{i:Nat}{x:Str}{v:V}{u:Value}{Q:Unit->Shared->Prop}(I:Inv X pins σ H s)(hN:X.N.Nodup)(hi:X.N[i]?=some x)(hx:Loc X.env.scope x)(r:RelV v u)
  (h:∀s',Inv X pins (σ.set i (some v)) H s'->Q () s') (hf:X.fn x=true\/X.env.scope.names.lookup x=some .local:=by first|exact .inl rfl|exact .inr rfl|assumption):wpAny M A (storeName X.env x u) Q E s:=
 xg I hN hi hx r (fun s' I' _=>h s' I') hf
theorem Inv.call' {s':Shared}{ch:List Addr}(I:Inv X pins σ H s)(ho:s'.os=s.os)(u:Un (frs X.stack) ch H H' s.heap s'.heap)(hok:HOk X.prog X.w H' s'.heap)(hg:AllBare s'.gens)
  (hch:∀b∈ch,(b∈X.ex\/X.s₀.heap.objs.size<=b)/\b≠X.env.locals/\(∀x c,X.env.cells.lookup x=some c->c≠b)/\∀p∈X.pn++pins,p.1≠b):Inv X pins σ H' s':=by
 obtain⟨h',g',d',t',o'⟩:=s';have e:o'=s.os:=ho;subst e;exact I.call (g':=g') (t':=t') (d':=d') u hok hg hch
end
noncomputable abbrev XK:=Value->Option Addr->Hp->Prop
noncomputable abbrev St:=List (Option V)
noncomputable abbrev VK:=V->Hp->Prop
noncomputable abbrev TE:=St->Hp->VK->Prop
noncomputable abbrev TT:=St->Hp->(Bool->Hp->Prop)->Prop
noncomputable abbrev TA:=St->Hp->(List V->Hp->Prop)->Prop
structure Ends where
 nx:St->Hp->Prop
 rt:VK
 bk:St->Hp->Prop:=fun _ _=>False
 ct:St->Hp->Prop:=fun _ _=>False
noncomputable abbrev TS:=Ends->St->Hp->Prop
noncomputable def EP (X:Cx)(pins:List (Addr×Obj))(σ:St)(Q:VK)(u:Value)(s':Shared):Prop:=∃v H',Inv X pins σ H' s'/\RelV v u/\Q v H'
noncomputable def TP (X:Cx)(pins:List (Addr×Obj))(σ:St)(Q:Bool->Hp->Prop)(b:Bool)(s':Shared):Prop:=∃H',Inv X pins σ H' s'/\Q b H'
noncomputable def AP (X:Cx)(pins:List (Addr×Obj))(σ:St)(Q:List V->Hp->Prop)(us:List Value)(s':Shared):Prop:=∃vs H',Inv X pins σ H' s'/\Vals vs us/\Q vs H'
noncomputable def SP (X:Cx)(pins:List (Addr×Obj))(D:Ends)(f:Flow)(s':Shared):Prop:=
 match f with
 | .next=>∃σ' H',Inv X pins σ' H' s'/\D.nx σ' H'
 | .brk=>∃σ' H',Inv X pins σ' H' s'/\D.bk σ' H'
 | .cont=>∃σ' H',Inv X pins σ' H' s'/\D.ct σ' H'
 | .ret u=>∃v σ' H',Inv X pins σ' H' s'/\RelV v u/\D.rt v H'
noncomputable def PE (X:Cx)(e:Expr)(t:TE):Prop:=
 ∀(pins:List (Addr×Obj)) (s:Shared) (σ:St) (H:Hp) (Q:VK),Inv X pins σ H s->t σ H Q->wpAny (model X.prog X.w) X.A (eval e X.env) (EP X pins σ Q) X.xe s
noncomputable def PT (X:Cx)(e:Expr)(t:TT):Prop:=
 ∀(pins:List (Addr×Obj)) (s:Shared) (σ:St) (H:Hp) (Q:Bool->Hp->Prop),Inv X pins σ H s->t σ H Q->wpAny (model X.prog X.w) X.A (isTrue e X.env (eval e X.env)) (TP X pins σ Q) X.xe s
noncomputable def PW (X:Cx)(e:Expr)(t:TT):Prop:=
 ∀(whole:Sem Value)(pins:List (Addr×Obj)) (s:Shared) (σ:St) (H:Hp) (Q:Bool->Hp->Prop),Inv X pins σ H s->t σ H Q->wpAny (model X.prog X.w) X.A (isTrue e X.env whole) (TP X pins σ Q) X.xe s
theorem PW.pt {X:Cx}{e:Expr}{t:TT}(h:PW X e t):PT X e t:=h _
noncomputable def PA (X:Cx)(es:List Expr)(t:TA):Prop:=
 ∀(pos:Pos)(pins:List (Addr×Obj)) (s:Shared) (σ:St) (H:Hp) (Q:List V->Hp->Prop),Inv X pins σ H s->t σ H Q->wpAny (model X.prog X.w) X.A (spliced (backTo pos (starEach es X.env))) (AP X pins σ Q) X.xe s
noncomputable def PS (X:Cx)(st:Stmt)(t:TS):Prop:=
 ∀(pins:List (Addr×Obj)) (s:Shared) (σ:St) (H:Hp) (D:Ends),Inv X pins σ H s->t D σ H->wpAny (model X.prog X.w) X.A (exec st X.env) (SP X pins D) X.xe s
noncomputable def PSs (X:Cx)(st:List Stmt)(t:TS):Prop:=
 ∀(pins:List (Addr×Obj)) (s:Shared) (σ:St) (H:Hp) (D:Ends),Inv X pins σ H s->t D σ H->wpAny (model X.prog X.w) X.A (execs st X.env) (SP X pins D) X.xe s
theorem thn {α:Type}{t:Sem α}{Q Q':α->Shared->Prop}{M:Model}{A:Around}{E:Value->Shared->Prop}{s:Shared}(h:wpAny M A t Q E s)(hQ:∀a s,Q a s->Q' a s):wpAny M A t Q' E s:=wpAny_mono h hQ fun _ _ x=>x
theorem thE {t:Sem Value}{X:Cx}{pins:List (Addr×Obj)}{σ:St}{Q:VK}{Q':Value->Shared->Prop}{M:Model}{A:Around}{E:Value->Shared->Prop}{s:Shared}(h:wpAny M A t (EP X pins σ Q) E s)(hQ:∀u s x H,Inv X pins σ H s->RelV x u->Q x H->Q' u s):wpAny M A t Q' E s:=thn h fun u s z=>by
 obtain⟨x,H,I,r,q⟩:=z;exact hQ u s x H I r q
theorem thA {t:Sem (List Value)}{X:Cx}{pins:List (Addr×Obj)}{σ:St}{Q:List V->Hp->Prop}{Q':List Value->Shared->Prop}{M:Model}{A:Around}{E:Value->Shared->Prop}{s:Shared}(h:wpAny M A t (AP X pins σ Q) E s)(hQ:∀u s x H,Inv X pins σ H s->Vals x u->Q x H->Q' u s):wpAny M A t Q' E s:=thn h fun u s z=>by
 obtain⟨x,H,I,r,q⟩:=z;exact hQ u s x H I r q
theorem thT {t:Sem Bool}{X:Cx}{pins:List (Addr×Obj)}{σ:St}{Q:Bool->Hp->Prop}{Q':Bool->Shared->Prop}{M:Model}{A:Around}{E:Value->Shared->Prop}{s:Shared}(h:wpAny M A t (TP X pins σ Q) E s)(hQ:∀u s H,Inv X pins σ H s->Q u H->Q' u s):wpAny M A t Q' E s:=thn h fun u s z=>by
 obtain⟨H,I,q⟩:=z;exact hQ u s H I q
section
variable {X:Cx}
noncomputable def G3 (i:Nat):TE:=fun σ H Q=>∃v,σ[i]?=some (some v)/\Q v H
noncomputable def tC (v:V):TE:=fun _ H Q=>Q v H
theorem Kw {i:Nat}{x:Str}{pos:Pos}(hN:X.N[i]?=some x) (hv:Vis X.env.scope x) (hd:(x == ("__debug__" : Str))=false:=by decide) (hcd:(x == ("__classdict__" : Str))=false:=by decide):PE X (.Name x pos) (G3 i):=by
 intro pins s σ H Q I h;obtain⟨v,e,h⟩:=h;obtain⟨m,hn,hl⟩:=I.loc;obtain⟨u,r,l⟩:=hl i x v hN e hv;have fin:EP X pins σ Q u s:=⟨v,H,I,r,h⟩;rcases l with⟨hk,hm⟩|⟨hk,c,hc,hcell⟩
 ·exact wpAny_Name (wpAny_loadName_local I.ok.kind hk hn hm fin) hd
 rcases hk with hk|hk
 ·exact wpAny_Name (wpAny_loadName_cell I.ok.kind hk hc hcell fin) hd
 exact wpAny_Name (wpAny_loadName_free I.ok.kind hk hc hcell fin hcd) hd
theorem KC {i j pos}:PE X (.Constant (.int i) j pos) (tC (.int i)):=fun _ _ _ H _ I h=>wpAny_Constant_int ⟨.int i,H,I.tok _,⟨_,rfl⟩,h⟩
theorem Vq {b j pos}:PE X (.Constant (.bool b) j pos) (tC (.bl b)):=fun _ _ _ H _ I h=>Constant_bool ⟨.bl b,H,I,rfl,h⟩
theorem Tg {j pos}:PE X (.Constant .none j pos) (tC .non):=fun _ _ _ H _ I h=>Constant_none ⟨.non,H,I,rfl,h⟩
theorem Tc {x j pos}:PE X (.Constant (.str x) j pos) (tC (.str x)):=fun _ _ _ H _ I h=>Calls.Constant_str ⟨.str x,H,I.tok _,⟨_,rfl⟩,h⟩
noncomputable def Gl (X:Cx)(x:Str):Prop:=X.env.kindOf x=some .globalImplicit
theorem zj {E:Value->Shared->Prop}{pins:List (Addr×Obj)}{s:Shared}{σ:St}{H:Hp}{x:Str}{u:Value}{pos:Pos}{Q:Value->Shared->Prop}(I:Inv X pins σ H s)(hg:Gl X x)(hm:X.mg x=some u)(h:Q u s)
  (hd:(x == ("__debug__" : Str))=false:=by decide):wpAny (model X.prog X.w) X.A (eval (.Name x pos) X.env) Q E s:=
 Calls.Name_function_global I.ok.kind hg (Calls.loadGlobal_global (by rw[I.ok.glob];exact I.mod.glob.keeps I.bk) hm h) hd
theorem pK {E:Value->Shared->Prop}{pins:List (Addr×Obj)}{s:Shared}{σ:St}{H:Hp}{x:Str}{u:Value}{pos:Pos}{Q:Value->Shared->Prop}(I:Inv X pins σ H s)(hg:Gl X x)(hm:X.mg x=none)(hv:bootBuiltins x=some u)(h:Q u s)
  (hn:x ≠ "__name__" := by decide) (hd:(x == ("__debug__" : Str))=false:=by decide):wpAny (model X.prog X.w) X.A (eval (.Name x pos) X.env) Q E s:=by
 obtain⟨mb,h1,h2⟩:=I.mod.blt;exact Calls.Name_function_global I.ok.kind hg (Calls.loadGlobal_builtin (by rw[I.ok.glob];exact I.mod.glob.keeps I.bk) hm (by rw[I.ok.blt];exact h1.keeps I.bk) ((h2 x hn).trans hv) h) hd
theorem Pq {x:Str}{v:V}{u:Value}{pos:Pos}(hg:Gl X x) (hm:X.mg x=some u) (r:RelV v u) (hd:(x == ("__debug__" : Str))=false:=by decide):PE X (.Name x pos) (tC v):=
 fun _ _ _ H _ I h=>zj I hg hm ⟨v,H,I,r,h⟩ hd
theorem PJ {x:Str}{v:V}{u:Value}{pos:Pos}(hg:Gl X x) (hm:X.mg x=none) (hv:bootBuiltins x=some u) (r:RelV v u) (hn:x ≠ "__name__" := by decide) (hd:(x == ("__debug__" : Str))=false:=by decide):PE X (.Name x pos) (tC v):=
 fun _ _ _ H _ I h=>pK I hg hm hv ⟨v,H,I,r,h⟩ hn hd
variable {a b:Expr}{ta tb:TE}{pos:Pos}
noncomputable def tB (t:TE):TT:=fun σ H Q=>t σ H fun x H1=>∃c,x=.bl c/\Q c H1
theorem Sx {e:Expr}{t:TE}(h:PE X e t)(he:∀whole,isTrue e X.env whole=(do let v <- whole;standAt e.pos;holding [v] (truthy v)):=by intro _;rfl):PT X e (tB t):=by
 intro pins s σ H Q I hw;refine isTrue_plain (thE (h pins s σ H _ I hw) fun v s1 x H1 I1 r1 q1=>?_) (he _);obtain⟨d,rfl,q⟩:=q1;cases r1;exact wpAny_truthy_bool ⟨H1,I1,q⟩
variable {tA tB':TT}{rest:List Expr}
noncomputable def NK (t u:TT):TT:=fun σ H Q=>t σ H fun c H1=>if c=true then u σ H1 Q else Q false H1
noncomputable def tOr (t u:TT):TT:=fun σ H Q=>t σ H fun c H1=>if c=true then Q true H1 else u σ H1 Q
noncomputable def Jw (t:TT):TT:=fun σ H Q=>t σ H fun c H1=>Q (!c) H1
theorem Ow (ha:PT X a tA):PW X (.BoolOp .And [a] pos) tA:=by
 intro wh pins s σ H Q I h;refine isTrue_and (thn (ha pins s σ H Q I h) fun c s1 e=>?_);cases c with
 | true=>exact isTrue_and_nil e
 | false=>exact e
theorem Sv (ha:PT X a tA):PW X (.BoolOp .Or [a] pos) tA:=by
 intro wh pins s σ H Q I h;refine isTrue_or (thn (ha pins s σ H Q I h) fun c s1 e=>?_);cases c with
 | false=>exact isTrue_or_nil e
 | true=>exact e
theorem Sw (ha:PT X a tA)(hb:PW X (.BoolOp .And (b::rest) pos) tB'):PW X (.BoolOp .And (a::b::rest) pos) (NK tA tB'):=by
 intro wh pins s σ H Q I h;refine isTrue_and (thT (ha pins s σ H _ I h) fun c s1 H1 I1 q1=>?_);cases c with
 | true=>exact hb wh pins s1 σ H1 Q I1 q1
 | false=>exact⟨H1,I1,q1⟩
theorem Vg (ha:PT X a tA)(hb:PW X (.BoolOp .Or (b::rest) pos) tB'):PW X (.BoolOp .Or (a::b::rest) pos) (tOr tA tB'):=by
 intro wh pins s σ H Q I h;refine isTrue_or (thT (ha pins s σ H _ I h) fun c s1 H1 I1 q1=>?_);cases c with
 | true=>exact⟨H1,I1,q1⟩
 | false=>exact hb wh pins s1 σ H1 Q I1 q1
theorem SJ (ha:PT X a tA):PT X (.UnaryOp .Not a pos) (Jw tA):=by
 intro pins s σ H Q I h;exact isTrue_not (ha pins s σ H (fun c H1=>Q (!c) H1) I h)
noncomputable def JD (ta tb:TE):TE:=fun σ H Q=>ta σ H fun x H1=>∃c,x=.bl c/\if c=true then tb σ H1 Q else Q (.bl false) H1
noncomputable def Jv (ta:TE):TE:=fun σ H Q=>ta σ H fun x H1=>∃c,x=.bl c/\Q (.bl (!c)) H1
theorem Te {op}{t:TE}(h:PE X a t):PE X (.BoolOp op [a] pos) t:=fun pins s σ H Q I hw=>BoolOp_one (h pins s σ H Q I hw)
theorem Tq (ha:PE X a ta)(hb:PE X (.BoolOp .And (b::rest) pos) tb):PE X (.BoolOp .And (a::b::rest) pos) (JD ta tb):=by
 intro pins s σ H Q I h;refine BoolOp_and (thE (ha pins s σ H _ I h) fun v s1 x H1 I1 r1 q1=>?_);obtain⟨c,rfl,q1⟩:=q1;cases r1;refine wpAny_truthy_bool ?_;cases c with
 | true=>exact hb pins s1 σ H1 Q I1 q1
 | false=>exact⟨.bl false,H1,I1,rfl,q1⟩
theorem Tf (ha:PE X a ta):PE X (.UnaryOp .Not a pos) (Jv ta):=by
 intro pins s σ H Q I h;refine UnaryOp_ (thE (ha pins s σ H _ I h) fun v s1 x H1 I1 r1 q1=>?_);obtain⟨c,rfl,q1⟩:=q1;cases r1;exact not_of (wpAny_truthy_bool ⟨.bl (!c),H1,I1,rfl,q1⟩)
noncomputable def tIf (t:TT)(ta tb:TE):TE:=fun σ H Q=>t σ H fun c H1=>if c=true then ta σ H1 Q else tb σ H1 Q
theorem KD {c:Expr}(hc:PT X c tA)(ha:PE X a ta)(hb:PE X b tb):PE X (.IfExp c a b pos) (tIf tA ta tb):=by
 intro pins s σ H Q I h;refine wpAny_IfExp (thT (hc pins s σ H _ I h) fun d s1 H1 I1 q1=>?_);cases d with
 | true=>exact ha pins s1 σ H1 Q I1 q1
 | false=>exact hb pins s1 σ H1 Q I1 q1
end
noncomputable def SqL (K:PySem.W.Frag)(H:Hp)(a:Addr)(xs:List V):Prop:=
 Rd H a (.lst xs) \/
  ∃(o:Obj)(its:Array Value)(n:Nat),K.lookup a=some o/\o.cls=.type "list" /\ o.dict=none/\o.data=.seq its n/\its.size<=sizeLine/\Vals xs its.toList
noncomputable def SqT (K:PySem.W.Frag)(H:Hp)(a:Addr)(xs:List V):Prop:=
 Rd H a (.tup xs) \/
  ∃(o:Obj)(its:Array Value)(n:Nat),K.lookup a=some o/\o.cls=.type "tuple" /\ o.data=.seq its n/\its.size<=sizeLine/\Vals xs its.toList
noncomputable def Ws:Value->Option V
 | .none=>some .non
 | .bool b=>some (.bl b)
 | .int i _=>some (.int i)
 | .str x _=>some (.str x)
 | .bytes b _=>some (.byt b)
 | .float b _=>some (.flt b)
 | .ref a=>some (.ref a)
 | .type n=>some (.ty n)
 | _=>none
theorem RelV.abs {x:V}{u:Value}(r:RelV x u):Ws u=some x:=by
 cases x with
 | non=>cases r;rfl
 | bl _=>cases r;rfl
 | int _=>obtain⟨t,rfl⟩:=r;rfl
 | str _=>obtain⟨t,rfl⟩:=r;rfl
 | byt _=>obtain⟨t,rfl⟩:=r;rfl
 | flt _=>obtain⟨t,rfl⟩:=r;rfl
 | ref _=>cases r;rfl
 | ty _=>cases r;rfl
theorem RelV.inj {x y:V}{u:Value}(r:RelV x u)(q:RelV y u):x=y:=Option.some.inj (r.abs.symm.trans q.abs)
theorem Vals.inj:∀{xs ys:List V}{us:List Value},Vals xs us->Vals ys us->xs=ys
 | _,_,_,.nil,.nil=>rfl
 | _,_,_,.cons r t,.cons r' t'=>by rw[r.inj r',Vals.inj t t']
section
variable {X:Cx}{pins:List (Addr×Obj)}{σ:St}{H:Hp}{s:Shared}{a:Addr}{xs ys:List V}
theorem SqL.of {K:PySem.W.Frag}(h:H a=some (.lst xs)):SqL K H a xs:=.inl (.inl h)
theorem SqT.of {K:PySem.W.Frag}(h:H a=some (.tup xs)):SqT K H a xs:=.inl (.inl h)
theorem Inv.list (I:Inv X pins σ H s)(h:SqL X.K H a xs):∃its:List Value,Vals xs its/\PlainL s.heap a its.toArray/\xs.length<=sizeLine:=by
 rcases h with h|⟨o,its,n,hk,hc,hd,hs,hz,r⟩
 ·obtain⟨z,its,n,r,e⟩:=h.ok I.hok;exact⟨its,r,⟨_,n,e,rfl,rfl,rfl⟩,z⟩
 refine⟨its.toList,r,⟨o,n,I.kIn a o hk,hc,hd,by simpa using hs⟩,?_⟩;have e:=r.length;simp only[length_toList] at e;omega
theorem Inv.tuple (I:Inv X pins σ H s)(h:SqT X.K H a xs):∃its:List Value,Vals xs its/\IsTup s.heap a its.toArray/\xs.length<=sizeLine:=by
 rcases h with h|⟨o,its,n,hk,hc,hs,hz,r⟩
 ·obtain⟨z,its,r,p⟩:=h.ok I.hok;exact⟨its,r,p,z⟩
 refine⟨its.toList,r,⟨o,I.kIn a o hk,hc,n,by simpa using hs⟩,?_⟩;have e:=r.length;simp only[length_toList] at e;omega
theorem Inv.Bx (I:Inv X pins σ H s)(h:SqL X.K H a xs)(h':SqL X.K H a ys):xs=ys:=by
 obtain⟨its,r,⟨o,n,e,_,_,d⟩,_⟩:=I.list h;obtain⟨its',r',⟨o',n',e',_,_,d'⟩,_⟩:=I.list h';rw[e] at e';cases e';rw[d] at d';injection d' with d1 _;have:its=its':=by simpa using congrArg Array.toList d1
 subst this;exact r.inj r'
theorem Inv.wZ (I:Inv X pins σ H s)(h:SqT X.K H a xs)(h':SqT X.K H a ys):xs=ys:=by
 obtain⟨its,r,⟨o,e,_,n,d⟩,_⟩:=I.tuple h;obtain⟨its',r',⟨o',e',_,n',d'⟩,_⟩:=I.tuple h';rw[e] at e';cases e';rw[d] at d';injection d' with d1 _;have:its=its':=by simpa using congrArg Array.toList d1
 subst this;exact r.inj r'
end
noncomputable abbrev Cx.wish (X:Cx)(E:Value->Shared->Prop):Cx:={ X with xe:=E }
noncomputable abbrev Cx.nox (X:Cx):Cx:=X.wish fun _ _=>False
theorem Cx.Ok.wish {X:Cx}(ok:X.Ok)(E:Value->Shared->Prop):(X.wish E).Ok:=
 ⟨ok.mod,ok.kind,ok.glob,ok.blt,ok.above,ok.inj,ok.has,ok.cab,ok.hd,ok.frames,ok.stk,ok.exf,ok.bs,ok.bsz,ok.noex,ok.exfs,ok.oV,ok.frf⟩
theorem Cx.Ok.mG {X:Cx}{E:Value->Shared->Prop}(ok:(X.wish E).Ok):X.Ok:=
 ⟨ok.mod,ok.kind,ok.glob,ok.blt,ok.above,ok.inj,ok.has,ok.cab,ok.hd,ok.frames,ok.stk,ok.exf,ok.bs,ok.bsz,ok.noex,ok.exfs,ok.oV,ok.frf⟩
section
variable {X:Cx}{pins:List (Addr×Obj)}{σ:St}{H:Hp}{s:Shared}{E:Value->Shared->Prop}
theorem Inv.wish (I:Inv X pins σ H s)(E:Value->Shared->Prop):Inv (X.wish E) pins σ H s:=⟨I.ok.wish E,I.os,I.bare,I.base,I.loc,I.cell,I.free,I.freeC,I.pin,I.hok,I.len⟩
theorem Inv.mG (I:Inv (X.wish E) pins σ H s):Inv X pins σ H s:=⟨I.ok.mG,I.os,I.bare,I.base,I.loc,I.cell,I.free,I.freeC,I.pin,I.hok,I.len⟩
theorem SP.mG {D:Ends}{f:Flow}{s':Shared}(h:SP (X.wish E) pins D f s'):SP X pins D f s':=by
 cases f with
 | next=>obtain⟨σ',H',I,q⟩:=h;exact⟨σ',H',I.mG,q⟩
 | brk=>obtain⟨σ',H',I,q⟩:=h;exact⟨σ',H',I.mG,q⟩
 | cont=>obtain⟨σ',H',I,q⟩:=h;exact⟨σ',H',I.mG,q⟩
 | ret u=>obtain⟨v,σ',H',I,r,q⟩:=h;exact⟨v,σ',H',I.mG,r,q⟩
theorem PSs.nox {st:List Stmt}{t:TS}(h:PSs X.nox st t):PSs X st t:=fun pins s σ H D I hw=>
 wpAny_mono (h pins s σ H D (I.wish _) hw) (fun _ _ q=>q.mG) fun _ _ z=>False.elim z
end
section
variable {X:Cx}{st:Stmt}{rest:List Stmt}{t u:TS}{e:Expr}{te:TE}{pos:Pos}
noncomputable def Ai:TS:=fun D σ H=>D.nx σ H
noncomputable def G5 (t u:TS):TS:=fun D σ H=>t { D with nx:=u D } σ H
theorem O2:PSs X [] Ai:=fun _ _ σ H _ I h=>wpAny_execs_nil ⟨σ,H,I,h⟩
theorem Kp (h1:PS X st t)(h2:PSs X rest u):PSs X (st::rest) (G5 t u):=by
 intro pins s σ H D I h;refine wpAny_execs_cons (thn (h1 pins s σ H { D with nx:=u D } I h) fun f s1 q=>?_);cases f with
 | next=>
  obtain⟨σ',H',I',q⟩:=q;exact h2 pins s1 σ' H' D I' q
 | ret v=>exact q
 | brk=>exact q
 | cont=>exact q
theorem O1 (h1:PS X st t):PSs X [st] t:=by
 intro pins s σ H D I h;refine wpAny_execs_cons (thn (h1 pins s σ H D I h) fun f s1 q=>?_);cases f with
 | next=>exact wpAny_execs_nil q
 | ret v=>exact q
 | brk=>exact q
 | cont=>exact q
theorem Inv.quiet {pins:List (Addr×Obj)}{σ:St}{H:Hp}{s:Shared}(I:Inv X pins σ H s):interactive X.env=false:=by simp [interactive,I.ok.kind]
noncomputable def Jz (te:TE):TS:=fun D σ H=>te σ H fun _ H1=>D.nx σ H1
theorem O4 (he:PE X e te)(hs:swapsWith e none pos.line X.env=pure false:=by rfl):PS X (.Expr e pos) (Jz te):=by
 intro pins s σ H D I h;exact wpAny_Expr_any (thE (he pins s σ H _ I h) fun v s1 x H1 I1 r1 q1=>⟨σ,H1,I1,q1⟩) I.quiet hs
noncomputable def CZ (te:TE):TS:=fun D σ H=>te σ H D.rt
theorem SN (he:PE X e te):PS X (.Return (some e) pos) (CZ te):=by
 intro pins s σ H D I h;exact wpAny_Return_some (thE (he pins s σ H _ I h) fun v s1 x H1 I1 r1 q1=>⟨x,σ,H1,I1,r1,q1⟩)
noncomputable def G6 (c:TT)(t u:TS):TS:=fun D σ H=>c σ H fun b H1=>if b=true then t D σ H1 else u D σ H1
theorem Vi {c:Expr}{a b:List Stmt}{tc:TT}(hc:PT X c tc)(ha:PSs X a t)(hb:PSs X b u):PS X (.If c a b pos) (G6 tc t u):=by
 intro pins s σ H D I h;refine wpAny_If (thT (hc pins s σ H _ I h) fun d s1 H1 I1 q1=>?_);cases d with
 | true=>exact ha pins s1 σ H1 D I1 q1
 | false=>exact hb pins s1 σ H1 D I1 q1
end
noncomputable abbrev TG:=V->St->Hp->(St->Hp->Prop)->Prop
noncomputable abbrev TGs:=List V->St->Hp->(St->Hp->Prop)->Prop
noncomputable def PG (X:Cx)(target:Expr)(t:TG):Prop:=
 ∀(pins:List (Addr×Obj)) (s:Shared) (σ:St) (H:Hp) (v:V) (u:Value) (Q:St->Hp->Prop),Inv X pins σ H s->RelV v u->t v σ H Q ->
  wpAny (model X.prog X.w) X.A (assign target X.env u) (fun _ s'=>∃σ' H',Inv X pins σ' H' s'/\Q σ' H') X.xe s
noncomputable def PGs (X:Cx)(ts:List Expr)(t:TGs):Prop:=
 ∀(pins:List (Addr×Obj)) (s:Shared) (σ:St) (H:Hp) (vs:List V) (us:List Value) (Q:St->Hp->Prop),Inv X pins σ H s->Vals vs us->t vs σ H Q ->
  wpAny (model X.prog X.w) X.A (assignInOrder ((assignEach ts X.env).map (·.2)) us) (fun _ s'=>∃σ' H',Inv X pins σ' H' s'/\Q σ' H') X.xe s
noncomputable abbrev Jj:=V->V->V->Hp->(Hp->Prop)->Prop
noncomputable def Jk (X:Cx)(t:Jj):Prop:=
 ∀(pins:List (Addr×Obj)) (s:Shared) (σ:St) (H:Hp) (o i v:V) (ov iv u:Value) (Q:Hp->Prop),Inv X pins σ H s->RelV o ov->RelV i iv->RelV v u->t o i v H Q ->
  wpAny (model X.prog X.w) X.A (setItem ov iv u) (fun _ s'=>∃H',Inv X pins σ H' s'/\Q H') X.xe s
section
variable {X:Cx}{pos:Pos}
noncomputable def j4 (i:Nat):TG:=fun v σ H Q=>Q (σ.set i (some v)) H
theorem Fz {i:Nat}{x:Str}(hN:X.N.Nodup)(hi:X.N[i]?=some x)(hx:Loc X.env.scope x)(hf:X.fn x=true\/X.env.scope.names.lookup x=some .local:=by first|exact .inl rfl|exact .inr rfl|assumption):PG X (.Name x pos) (j4 i):=by
 intro pins s σ H v u Q I r h;exact wpAny_assign_Name (qe I hN hi hx r (fun s' I'=>⟨_,H,I',h⟩) hf)
noncomputable def Uy:TGs:=fun vs σ H Q=>vs=[]/\Q σ H
noncomputable def Ms (t:TG)(u:TGs):TGs:=fun vs σ H Q=>∃v r,vs=v::r/\t v σ H fun σ' H'=>u r σ' H' Q
theorem Pb:PGs X [] Uy:=by
 intro pins s σ H vs us Q I r h;obtain⟨e,h⟩:=h;subst e;cases r;exact assignInOrder_nil ⟨σ,H,I,h⟩
theorem Kv {e:Expr}{es:List Expr}{t:TG}{u:TGs}(h1:PG X e t)(h2:PGs X es u)
  (hs:(assignEach (e::es) X.env).map (·.2)=assign e X.env::(assignEach es X.env).map (·.2):=by rfl):PGs X (e::es) (Ms t u):=by
 intro pins s σ H vs us Q I r h;obtain⟨v,vr,e1,h⟩:=h;subst e1;cases r with
 | cons r rr=>
  rw[hs];refine assignInOrder_cons (thn (h1 pins s σ H _ _ _ I r h) fun _ s1 ⟨σ1,H1,I1,q1⟩=>?_);exact h2 pins s1 σ1 H1 _ _ Q I1 rr q1
noncomputable def Wl (K:PySem.W.Frag)(n:Nat)(t:TGs):TG:=fun v σ H Q=>∃a xs,v=.ref a/\SqT K H a xs/\xs.length=n/\t xs σ H Q
theorem S8 {es:List Expr}{k:Nat}{t:TGs}{n:Nat}(hc:X.calm=true)(h:PGs X es t)
  (hn:(assignEach es X.env).length=n:=by rfl) (hst:(assignEach es X.env).findIdx? (·.1)=none:=by rfl):PG X (.Tuple es k pos) (Wl X.K n t):=by
 intro pins s σ H v u Q I r hw;obtain⟨a,xs,e1,hq,hl,hw⟩:=hw;subst e1;cases r;obtain⟨its,rv,ht,hz⟩:=I.tuple hq;refine assign_Tuple_tuple (I.ok.hd hc) ht (by simp [hn,<- hl,rv.length]) hst fun h' hx=>?_;have I1:Inv X pins σ H { s with heap:=h' }:=I.kept (t':=s.toks) fun b o e=>hx b o (ne_of_lt (lt_size e)) e;exact h pins _ σ H xs _ Q I1 (by simpa using rv) hw
noncomputable def Mq (to ti:TE)(t:Jj):TG:=fun v σ H Q=>to σ H fun o H1=>ti σ H1 fun i H2=>t o i v H2 fun H3=>Q σ H3
theorem Dq {o i:Expr}{to ti:TE}{t:Jj}(ho:PE X o to)(hi:PE X i ti)(hs:Jk X t)
  (ha:∀v,assign (.Subscript o i pos) X.env v=(do
   let ov <- holding [v] (eval o X.env)
   let iv <- holding [v,ov] (eval i X.env)
   standAt pos
   holding [v,ov,iv] (setItem ov iv v)
   release [v,ov,iv] []):=by intro _;rfl):PG X (.Subscript o i pos) (Mq to ti t):=by
 intro pins s σ H v u Q I r h;rw[ha];refine wpAny_bind (wpAny_holding (thE (ho pins s σ H _ I h) fun ov s1 x H1 I1 r1 q1=>?_));refine wpAny_bind (wpAny_holding (thE (hi pins s1 σ H1 _ I1 q1) fun iv s2 y H2 I2 r2 q2=>?_));refine wpAny_bind (wpAny_standAt (wpAny_bind (wpAny_holding (thn (hs pins s2 σ H2 x y v ov iv u _ I2 r1 r2 r q2) fun _ s3 ⟨H3,I3,q3⟩=>?_))));exact wpAny_release ⟨σ,H3,I3,q3⟩
noncomputable def tU (te:TE)(g:TG):TS:=fun D σ H=>te σ H fun x H1=>g x σ H1 D.nx
theorem S5 {tg e:Expr}{te:TE}{g:TG}(he:PE X e te)(hg:PG X tg g)(hs:swapsWithSole [tg] e pos.line X.env=pure false:=by rfl)(hw:swappedStores [tg] e X.env=pure none:=by rfl)
  (h1:(assignEach [tg] X.env).map (·.2)=[assign tg X.env]:=by rfl):PS X (.Assign [tg] e pos) (tU te g):=by
 intro pins s σ H D I h;refine wpAny_Assign_stores (thE (he pins s σ H _ I h) fun v s1 x H1 I1 r1 q1=>?_) hs hw;rw[h1];exact thn (hg pins s1 σ H1 x v _ I1 r1 q1) fun _ s2 q=>q
theorem SM {i:Nat}{x:Str}{e:Expr}{te:TE}{pos':Pos}(hN:X.N.Nodup)(hi:X.N[i]?=some x)(hx:Loc X.env.scope x)(he:PE X e te)(hs:swapsWith e (some (.Name x pos')) pos.line X.env=pure false:=by rfl)(hf:X.fn x=true\/X.env.scope.names.lookup x=some .local:=by first|exact .inl rfl|exact .inr rfl|assumption) :
  PS X (.Assign [.Name x pos'] e pos) (tU te (j4 i)):=by
 intro pins s σ H D I h;refine wpAny_Assign_Name (thE (he pins s σ H _ I h) fun v s1 y H1 I1 r1 q1=>?_) hs;exact qe I1 hN hi hx r1 (fun s2 I2=>⟨_,H1,I2,q1⟩) hf
noncomputable def RK (i j:Nat)(ta:TA):TS:=fun D σ H=>ta σ H fun vs H1=>∃v w,vs=[v,w]/\D.nx ((σ.set i (some v)).set j (some w)) H1
theorem SQ {i j:Nat}{x y:Str}{a b:Expr}{ta:TA}{px py pt:Pos}{kt k2 pt2}(hc:X.calm=true)(hN:X.N.Nodup)(hi:X.N[i]?=some x)(hj:X.N[j]?=some y)(hij:i≠j)
  (hx:X.env.scope.names.lookup x=some .local) (hy:X.env.scope.names.lookup y=some .local) (ha:PA X [a,b] ta)
  (hw:swappedStores [.Tuple [.Name x px,.Name y py] kt pt] (.Tuple [a,b] k2 pt2) X.env=pure (some [x,y]))
  (hs:swapsWithSole [.Tuple [.Name x px,.Name y py] kt pt] (.Tuple [a,b] k2 pt2) pos.line X.env=pure false:=by rfl) :
  PS X (.Assign [.Tuple [.Name x px,.Name y py] kt pt] (.Tuple [a,b] k2 pt2) pos) (RK i j ta):=by
 intro pins s σ H D I h;rw[exec_Assign_arm];refine wpAny_bind (wpAny_standAt ?_);rw[hs];refine wpAny_bind (wpAny_pure ?_);rw[if_neg δ];refine wpAny_bind (Tuple_ (thA (ha _ pins s σ H _ I h) fun us s1 vs H1 I1 r1 q1=>?_));obtain⟨v,w,e1,q1⟩:=q1;subst e1;obtain⟨u1,u2,rfl,rv,rw'⟩:∃u1 u2,us=[u1,u2]/\RelV v u1/\RelV w u2:=by
  cases r1 with
  | cons p q=>
   cases q with
   | cons p' q'=>
    cases q';exact⟨_,_,rfl,p,p'⟩
 refine wpAny_newObj_type ?_ (by show 2<=sizeLine;decide);have I2:Inv X pins σ H1 { s1 with heap:=s1.heap.push { cls:=.type "tuple",data:=.seq [u1,u2].toArray } }:=I1.kept (t':=s1.toks) fun b o e=>get?_push_of_some _ e;rw[hw];refine wpAny_bind (wpAny_pure ?_);show wpAny (model X.prog X.w) X.A (do rule "assign.swapped-stores";let items <- unpackItems (.ref s1.heap.objs.size) 2 none;assignInOrder [fun v=>bindName X.env y v,fun v=>bindName X.env x v] items.reverse;pure Flow.next) _ _ _;refine wpAny_bind (wpAny_rule (wpAny_bind (unpackItems_tuple (items:=#[u1,u2]) (I.ok.hd hc) (IsTup.new s1.heap _) fun h' hx'=>?_)));have I3:=I2.kept (h':=h') (t':=s1.toks) fun b o e=>hx' b o (ne_of_lt (lt_size e)) e;show wpAny _ _ (assignInOrder [fun v=>bindName X.env y v,fun v=>bindName X.env x v] [u2,u1] >>= fun _=>pure Flow.next) _ _ _;refine wpAny_bind (assignInOrder_cons (wpAny_bindName (qe I3 hN hj (.inl hy) rw' (fun s2 I4=>?_) (.inr hy))));refine assignInOrder_cons (wpAny_bindName (qe I4 hN hi (.inl hx) rv (fun s3 I5=>assignInOrder_nil (wpAny_pure ?_)) (.inr hx)));rw[List.set_comm _ _ (Ne.symm hij)] at I5;exact⟨_,H1,I5,q1⟩
noncomputable def Js (c:TT)(tb:TS):TS:=fun D σ H=>∃W:Nat->St->Hp->Prop,(∃m,W m σ H)/\∀m σ H,W m σ H ->
 c σ H fun b H1=>if b=true then ∃N:St->Hp->Prop,(∀σ' H',N σ' H'->∃m',m'<m/\W m' σ' H')/\tb { D with nx:=N,ct:=N,bk:=D.nx } σ H1 else D.nx σ H1
theorem Kq {c:Expr}{body:List Stmt}{tc:TT}{tb:TS}(hp:PassesOwn (model X.prog X.w) X.A X.env X.xe)(hc:PT X c tc)(hb:PSs X body tb):PS X (.While c body [] pos) (Js tc tb):=by
 intro pins s σ H D I h;obtain⟨W,⟨m0,w0⟩,turn⟩:=h;refine wpAny_While (codeAny_whileLoop (fun n s'=>∃σ' H',Inv X pins σ' H' s'/\W n σ' H') ?_ m0 ⟨σ,H,I,w0⟩);rintro n s1 ⟨σ1,H1,I1,w1⟩;refine wpAny_passesOwn hp (thT (hc pins s1 σ1 H1 _ I1 (turn n σ1 H1 w1)) fun b s2 H2 I2 q2=>?_);cases b with
 | true=>
  obtain⟨N,hN,q2⟩:=q2;rw[if_pos rfl];refine wpAny_passesOwn hp (thn (hb pins s2 σ1 H2 _ I2 q2) fun f s3 q3=>?_);cases f with
  | next=>
   obtain⟨σ3,H3,I3,n3⟩:=q3;obtain⟨m',hm,w3⟩:=hN σ3 H3 n3;exact⟨m',hm,σ3,H3,I3,w3⟩
  | cont=>
   obtain⟨σ3,H3,I3,n3⟩:=q3;obtain⟨m',hm,w3⟩:=hN σ3 H3 n3;exact⟨m',hm,σ3,H3,I3,w3⟩
  | brk=>exact q3
  | ret v=>exact q3
 | false=>
  rw[if_neg Bool.false_ne_true];exact wpAny_execs_nil ⟨σ1,H2,I2,q2⟩
end
structure It where
 go:Nat->Hp->Prop
 yld:Nat->Hp->V->Hp->Prop
 stop:Nat->Hp->Prop
noncomputable def rC (X:Cx)(pins:List (Addr×Obj))(H:Hp)(b:Addr):Prop:=
 H b=none/\b≠X.env.locals/\b∉X.fs/\(b∈X.ex\/X.s₀.heap.objs.size<=b)/\(∀x c,X.env.cells.lookup x=some c->c≠b)/\∀p∈X.pn++pins,p.1≠b
theorem Inv.Io {X:Cx}{pins:List (Addr×Obj)}{σ:St}{H H':Hp}{s:Shared}{b:Addr}(I:Inv X pins σ H s)(hb:s.heap.objs.size<=b)(hn:H' b=none):rC X pins H' b:=by
 refine⟨hn,ne_of_gt (lt_of_lt_of_le I.lt hb),I.T9 hb,.inr (le_trans I.sz hb),fun x c e z=>?_,fun p hp z=>?_⟩
 ·obtain⟨v,q⟩:=I.cell x c e;exact absurd (lt_of_lt_of_le q.lt (by rw[z];exact hb)) (lt_irrefl _)
 exact absurd (lt_of_lt_of_le (lt_size (I.pin p hp).1) (by rw[z];exact hb)) (lt_irrefl _)
structure Turn (P:Program)(w:World)(K:PySem.W.Frag)(tg:Expr)(J:It)(fp:List Addr)(it:Addr)(tn:Nat->Heap->Prop):Prop where
 mem:it∈fp
 obj:∀i h,tn i h->∀b∈fp,∃o,h.get? b=some o/\∀v,o.data≠.cell v
 keep:∀i h h',tn i h->(∀b∈fp,∀o,h.get? b=some o->h'.get? b=some o)->tn i h'
 item:∀(X:Cx),X.prog=P->X.w=w->X.K=K->X.calm=true->∀(i:Nat)(pins:List (Addr×Obj)) (s:Shared) (σ:St) (H:Hp) (E:Value->Shared->Prop),Inv X pins σ H s->(∀b∈fp,rC X pins H b)->tn i s.heap->J.go i H ->
  wpAny (model P w) X.A (pyNext (.ref it)) (fun r s1=>∃u,r=some u /\
   wpAny (model P w) X.A (letOwnedTupleGo tg (.ref it) u) (fun _ s2=>∃x H',Inv X pins σ H' s2/\RelV x u/\J.yld i H x H'/\tn (i+1) s2.heap/\∀b∈fp,H' b=none) E s1) E s
 done:∀(X:Cx),X.prog=P->X.w=w->X.K=K->X.calm=true->∀(i:Nat)(pins:List (Addr×Obj)) (s:Shared) (σ:St) (H:Hp) (E:Value->Shared->Prop),Inv X pins σ H s->(∀b∈fp,rC X pins H b)->tn i s.heap->J.stop i H ->
  wpAny (model P w) X.A (pyNext (.ref it)) (fun r s1=>r=none/\Inv X pins σ H s1) E s
 self:∀(A:Around)(i:Nat)(s:Shared)(Q:Value->Shared->Prop)(E:Value->Shared->Prop),tn i s.heap->Q (.ref it) s->wpAny (model P w) A (pyIter (.ref it)) Q E s
noncomputable abbrev TI:=St->Hp->(It->Hp->Prop)->Prop
noncomputable def PIE (X:Cx)(pins:List (Addr×Obj))(σ:St)(tg:Expr)(R:It->Hp->Prop)(itv:Value)(s2:Shared):Prop:=
 ∃(it:Addr)(fp:List Addr)(tn:Nat->Heap->Prop)(J:It)(H':Hp),itv=.ref it/\Inv X pins σ H' s2/\Turn X.prog X.w X.K tg J fp it tn/\tn 0 s2.heap/\(∀b∈fp,rC X pins H' b)/\R J H'
noncomputable def PI (X:Cx)(tg iter:Expr)(wi:TI):Prop:=
 ∀(pins:List (Addr×Obj)) (s:Shared) (σ:St) (H:Hp) (R:It->Hp->Prop),Inv X pins σ H s->wi σ H R ->
  wpAny (model X.prog X.w) X.A (eval iter X.env) (fun v s1=>wpAny (model X.prog X.w) X.A (pyIter v) (PIE X pins σ tg R) X.xe s1) X.xe s
theorem Ml {M:Model}{A:Around}{E:Value->Shared->Prop}{s:Shared}{tg:Expr}{it:Addr}{u:Value}{o:Obj}{n:String}{vs:Array Value}{Q:Unit->Shared->Prop}(ho:s.heap.get? it=some o)(hc:o.cls=.type n)(hd:o.data=.fields vs)
  (hn:["enumerate","zip","dict_itemiterator","dict_reverseitemiterator","odict_iterator","itertools.zip_longest","itertools.pairwise"].contains n=false) (hQ:Q () s):wpAny M A (letOwnedTupleGo tg (.ref it) u) Q E s:=by
 unfold letOwnedTupleGo;cases tg <;> first
  | exact wpAny_pure hQ
  | (cases u <;> first
    | exact wpAny_pure hQ
    | (refine wpAny_bind (wpAny_load ho ?_)
       rw[hc,hd];show wpAny M A (if (["enumerate","zip","dict_itemiterator","dict_reverseitemiterator","odict_iterator","itertools.zip_longest","itertools.pairwise"].contains n&&vs[0]? == some (rawInt _))=true then _ else _) Q E s;rw[if_neg (by intro h;rw[hn,Bool.false_and] at h;cases h)];exact wpAny_pure hQ))
noncomputable def Itl (K:PySem.W.Frag)(a:Addr):It:=
 ⟨fun i H=>∃xs x,SqL K H a xs/\xs[i]?=some x,fun i H x H'=>H'=H/\∀xs,SqL K H a xs->xs[i]?=some x,fun i H=>∃xs,SqL K H a xs/\xs.length<=i⟩
noncomputable def Itt (K:PySem.W.Frag)(a:Addr):It:=
 ⟨fun i H=>∃xs x,SqT K H a xs/\xs[i]?=some x,fun i H x H'=>H'=H/\∀xs,SqT K H a xs->xs[i]?=some x,fun i H=>∃xs,SqT K H a xs/\xs.length<=i⟩
noncomputable def Itr (lo:Int)(n:Nat):It:=⟨fun i _=>i<n,fun i H x H'=>H'=H/\x=.int (lo+i),fun i _=>n<=i⟩
theorem GP {P:Program}{w:World}{K:PySem.W.Frag}{tg:Expr}(a it:Addr):Turn P w K tg (Itl K a) [it] it (fun i h=>h.IsListIter it a i) where
 mem:=by simp
 obj:=fun i h st b hb=>by
  have e:b=it:=by simpa using hb
  subst e;obtain⟨o,e,c,d⟩:=st;exact⟨o,e,fun v z=>by rw[d] at z;cases z⟩
 keep:=fun i h h' st k=>st.at fun o e=>k it (by simp) o e
 item:=by
  intro X hP hw hK hc i pins s σ H E I hf st hg;subst hP hw hK;obtain⟨xs,x,hq,hx⟩:=hg;obtain⟨its,rv,p,hz⟩:=I.list hq;obtain⟨u,hu,ru⟩:=rv.get hx;obtain⟨f0,f1,f2,f3,f4,f5⟩:=hf it (by simp);refine wpAny_pyNext_list_item st p.isList (x:=u) (by simpa using hu) fun h' st' sb=>?_;have I1:Inv X pins σ H { s with heap:=h' }:=I.turned (t':=s.toks) (fun b o hb e=>(sb.2 b hb).trans e) f0 f1 f3 f4 f5;obtain⟨o,e,c,d⟩:=id st';exact⟨u,rfl,Ml (s:={ s with heap:=h' }) e c d δ ⟨x,H,I1,ru,⟨rfl,fun ys hy=>by rw[I.Bx hy hq];exact hx⟩,st',fun b hb=>(hf b hb).1⟩⟩
 done:=by
  intro X hP hw hK hc i pins s σ H E I hf st hg;subst hP hw hK;obtain⟨xs,hq,hx⟩:=hg;obtain⟨its,rv,p,hz⟩:=I.list hq;obtain⟨f0,f1,f2,f3,f4,f5⟩:=hf it (by simp);have hl:=rv.length;exact wpAny_pyNext_list_end (I.ok.hd hc) st p.isList (by simp;omega) fun h' eb=>⟨rfl,I.turned (t':=s.toks) (fun b o hb e=>eb b o hb e) f0 f1 f3 f4 f5⟩
 self:=fun _ _ _ _ _ st h=>wpAny_pyIter_listiter st h
theorem CT {P:Program}{w:World}{K:PySem.W.Frag}{tg:Expr}(a it:Addr):Turn P w K tg (Itt K a) [it] it (fun i h=>h.IsTupleIter it a i) where
 mem:=by simp
 obj:=fun i h st b hb=>by
  have e:b=it:=by simpa using hb
  subst e;obtain⟨o,e,c,d⟩:=st;exact⟨o,e,fun v z=>by rw[d] at z;cases z⟩
 keep:=fun i h h' st k=>st.at fun o e=>k it (by simp) o e
 item:=by
  intro X hP hw hK hc i pins s σ H E I hf st hg;subst hP hw hK;obtain⟨xs,x,hq,hx⟩:=hg;obtain⟨its,rv,p,hz⟩:=I.tuple hq;obtain⟨u,hu,ru⟩:=rv.get hx;obtain⟨f0,f1,f2,f3,f4,f5⟩:=hf it (by simp);refine wpAny_pyNext_tuple_item st (show s.heap.IsTuple a its.toArray from p) (x:=u) (by simpa using hu) fun h' st' sb=>?_;have I1:Inv X pins σ H { s with heap:=h' }:=I.turned (t':=s.toks) (fun b o hb e=>(sb.2 b hb).trans e) f0 f1 f3 f4 f5;obtain⟨o,e,c,d⟩:=id st';exact⟨u,rfl,Ml (s:={ s with heap:=h' }) e c d δ ⟨x,H,I1,ru,⟨rfl,fun ys hy=>by rw[I.wZ hy hq];exact hx⟩,st',fun b hb=>(hf b hb).1⟩⟩
 done:=by
  intro X hP hw hK hc i pins s σ H E I hf st hg;subst hP hw hK;obtain⟨xs,hq,hx⟩:=hg;obtain⟨its,rv,p,hz⟩:=I.tuple hq;obtain⟨f0,f1,f2,f3,f4,f5⟩:=hf it (by simp);have hl:=rv.length;exact wpAny_pyNext_tuple_end (I.ok.hd hc) st (show s.heap.IsTuple a its.toArray from p) (by simp;omega) fun h' eb=>⟨rfl,I.turned (t':=s.toks) (fun b o hb e=>eb b o hb e) f0 f1 f3 f4 f5⟩
 self:=fun _ _ _ _ _ st h=>wpAny_pyIter_tupleiter st h
theorem CV {P:Program}{w:World}{K:PySem.W.Frag}{tg:Expr}(it:Addr)(lo:Int)(n:Nat):Turn P w K tg (Itr lo n) [it] it (fun i h=>IsRangeIter h it (lo+(i:Nat)*1) ((n:Int)-(i:Nat)) 1) where
 mem:=by simp
 obj:=fun i h st b hb=>by
  have e:b=it:=by simpa using hb
  subst e;exact⟨_,st,fun v z=>by
   have z':Data.fields _=Data.cell v:=z;cases z'⟩
 keep:=fun i h h' st k=>k it (by simp) _ st
 item:=by
  intro X hP hw hK hc i pins s σ H E I hf st hg;subst hP hw hK;obtain⟨f0,f1,f2,f3,f4,f5⟩:=hf it (by simp);have W:=Walks.range (prog:=X.prog) (w:=X.w) (I.ok.hd hc) it lo 1 n;refine W.item i s _ _ hg st fun v h' tk hv st' kk=>?_;obtain⟨t,rfl⟩:=hv;have I1:Inv X pins σ H { s with heap:=h',toks:=tk }:=I.turned (fun b o hb e=>kk b o (by simpa using hb) e) f0 f1 f3 f4 f5;refine⟨_,rfl,Ml (s:={ s with heap:=h',toks:=tk }) (n := "range_iterator") st' rfl rfl δ ⟨.int (lo+i),H,I1,⟨t,?_⟩,⟨rfl,rfl⟩,st',fun b hb=>(hf b hb).1⟩⟩;rw[Int.mul_one]
 done:=by
  intro X hP hw hK hc i pins s σ H E I hf st hg;subst hP hw hK;obtain⟨f0,f1,f2,f3,f4,f5⟩:=hf it (by simp);exact wpAny_pyNext_range_end (I.ok.hd hc) st (by have:n<=i:=hg;omega) fun h' eb=>⟨rfl,I.turned (t':=s.toks) (fun b o hb e=>eb b o hb e) f0 f1 f3 f4 f5⟩
 self:=fun _ _ _ _ _ st h=>wpAny_pyIter_rangeiter st h
section
variable {X:Cx}{tg:Expr}
theorem JV {pins:List (Addr×Obj)}{σ:St}{H:Hp}{s:Shared}{R:It->Hp->Prop}{E:Value->Shared->Prop}{lo hi:Int}{t u v:Tok}{tk:Nat}(I:Inv X pins σ H s)(h1:-(2^62)<=lo)(h2:lo<2^62)(h3:-(2^62)<=hi)(h4:hi<2^62)
  (q:R (Itr lo (hi-lo).toNat) H):wpAny (model X.prog X.w) X.A (pyIter (.ref s.heap.objs.size)) (PIE X pins σ tg R) E { s with heap:=s.heap.push { cls:=.type "range",data:=.fields #[.int lo t,.int hi u,.int 1 v] },toks:=tk }:=by
 refine wpAny_pyIter_range (IsRange.new ..) (small_one h1 h2 h3 h4) ?_;have I1:Inv X pins σ H { s with heap:=s.heap.push { cls:=.type "range",data:=.fields #[.int lo t,.int hi u,.int 1 v] },toks:=tk }:=I.kept fun b o e=>get?_push_of_some _ e;refine⟨(s.heap.push { cls:=.type "range",data:=.fields #[.int lo t,.int hi u,.int 1 v] }).objs.size,[(s.heap.push { cls:=.type "range",data:=.fields #[.int lo t,.int hi u,.int 1 v] }).objs.size],_,_,H,rfl,
  I1.kept (t':=tk) fun b o e=>get?_push_of_some _ e,CV _ lo (hi-lo).toNat,?_,fun b hb=>?_,q⟩
 ·have e1:lo+((0:Nat):Int)*1=lo:=by simp
  have e2:(((hi-lo).toNat:Nat):Int)-((0:Nat):Int)=Builtin.Range.rangeSize lo hi 1:=by rw[rangeSize_one];split <;> omega
  show IsRangeIter _ _ (lo+((0:Nat):Int)*1) ((((hi-lo).toNat:Nat):Int)-((0:Nat):Int)) 1;rw[e1,e2];exact get?_push_size _ rfl
 have e:b=(s.heap.push { cls:=.type "range",data:=.fields #[.int lo t,.int hi u,.int 1 v] }).objs.size:=by simpa using hb
 subst e;exact I1.Io (le_refl _) (I1.hok.fresh (le_refl _))
noncomputable def vB (ta:TA):TI:=fun σ H R=>ta σ H fun vs H1=>∃j:Int,vs=[.int j]/\-(2^62)<=j/\j<2^62/\R (Itr 0 j.toNat) H1
theorem Hr {a:Expr}{ta:TA}{p pos:Pos}(hg:Gl X "range") (hm:X.mg "range" = none) (ha:PA X [a] ta) (hs:starEach [a] X.env=[(false,eval a X.env)]:=by rfl):PI X tg (.Call (.Name "range" p) [a] [] pos) (vB ta):=by
 intro pins s σ H R I h;refine Call_ (pK I hg hm boot_range (PyProof.Rows.callWith_type1 (thA (ha pos pins s σ H _ I h) fun us s1 vs H1 I1 r1 q1=>?_) hs rfl));obtain⟨j,e,q1,q2,q⟩:=q1;subst e;cases r1 with
 | cons r rr=>
  cases rr;obtain⟨t,rfl⟩:=r;exact call_range_1 (JV I1 ω ω q1 q2 (by simpa using q))
noncomputable def RL (wi:TI)(g:TG)(tb:TS):TS:=fun D σ H=>wi σ H fun J H1=>∃W:Nat->Nat->St->Hp->Prop,(∃m,W 0 m σ H1)/\∀i m σ H,W i m σ H ->
 (J.stop i H/\D.nx σ H)\/(J.go i H/\∃N:St->Hp->Prop,(∀σ' H',N σ' H'->∃m',m'<m/\W (i+1) m' σ' H')/\∀x H',J.yld i H x H'->g x σ H' fun σ2 H2=>tb { D with nx:=N,ct:=N,bk:=D.nx } σ2 H2)
noncomputable def j9 (fp:List Addr)(h:Heap):List (Addr×Obj):=fp.filterMap fun b=>(h.get? b).map fun o=>(b,o)
theorem lY {fp:List Addr}{h:Heap}{b:Addr}{o:Obj}(hb:b∈fp)(e:h.get? b=some o):(b,o)∈j9 fp h:=mem_filterMap.mpr ⟨b,hb,by rw[e];rfl⟩
theorem rT {fp:List Addr}{h:Heap}{p:Addr×Obj}(hp:p∈j9 fp h):p.1∈fp/\h.get? p.1=some p.2:=by
 obtain⟨b,hb,e⟩:=mem_filterMap.mp hp;cases q:h.get? b with
 | none=>rw[q] at e;cases e
 | some o=>
  rw[q] at e;have e':(b,o)=p:=Option.some.inj e;subst e';exact⟨hb,q⟩
theorem Inv.pinned {pins:List (Addr×Obj)}{σ:St}{H:Hp}{s:Shared}{fp:List Addr}(I:Inv X pins σ H s)(hf:∀b∈fp,rC X pins H b)(ho:∀b∈fp,∃o,s.heap.get? b=some o/\∀v,o.data≠.cell v):Inv X (pins++j9 fp s.heap) σ H s:=
 I.nU fun p hp=>(mem_append.mp hp).elim (fun z=>I.pin p (mem_append_right _ z)) fun z=>by
  obtain⟨hb,e⟩:=rT z;obtain⟨f0,f1,f2,_⟩:=hf p.1 hb;obtain⟨o,e',d⟩:=ho p.1 hb;rw[e] at e';cases e';exact⟨e,f0,f1,f2,d⟩
theorem Inv.mH {pins pl:List (Addr×Obj)}{σ:St}{H:Hp}{s:Shared}(I:Inv X (pins++pl) σ H s):Inv X pins σ H s:=I.nU fun p hp=>I.pin p (mem_append_right _ (List.mem_append_left _ hp))
theorem SX {iter:Expr}{body:List Stmt}{wi:TI}{g:TG}{tb:TS}{pos:Pos}(hp:PassesOwn (model X.prog X.w) X.A X.env X.xe)(hc:X.calm=true)(hi:PI X tg iter wi)(hg:PG X tg g)(hb:PSs X body tb)
  (hs:∀x,foldedSetIterable iter X.env x=pure x:=by intro _;rfl):PS X (.For tg iter body [] pos) (RL wi g tb):=by
 intro pins s σ H D I h;refine wpAny_For (thn (hi pins s σ H _ I h) fun v s1 h1=>thn h1 fun itv s2 h2=>?_) hs;obtain⟨it,fp,tn,J,H2,e,I2,T,st2,f2,W,⟨m0,w0⟩,turn⟩:=h2;subst e
 -- what stays true of the iterator's objects through the loop
 have stat:∀{H':Hp},(∀b∈fp,H' b=none)->∀b∈fp,rC X pins H' b:=fun hn b hb=>⟨hn b hb,(f2 b hb).2⟩;refine codeAny_forLoop_any (fun n s'=>∃i σ' H',Inv X pins σ' H' s'/\tn i s'.heap/\(∀b∈fp,H' b=none)/\W i n σ' H') ?_ m0 ⟨0,σ,H2,I2,st2,fun b hb=>(f2 b hb).1,w0⟩;rintro n s3 ⟨i,σ3,H3,I3,st3,fr3,w3⟩;rcases turn i n σ3 H3 w3 with⟨stop,qn⟩|⟨go,N,hN,step⟩
 ·refine wpAny_passesOwn hp (thn (T.done X rfl rfl rfl hc i pins s3 σ3 H3 X.xe I3 (stat fr3) st3 stop) fun r s4 ⟨hr,I4⟩=>?_);subst hr;exact wpAny_execs_nil ⟨σ3,H3,I4,qn⟩
 refine wpAny_passesOwn hp (thn (T.item X rfl rfl rfl hc i pins s3 σ3 H3 X.xe I3 (stat fr3) st3 go) fun r s4 ⟨u,hr,h4⟩=>?_);subst hr;refine wpAny_passesOwn hp (thn h4 fun _ s5 ⟨x,H5,I5,r5,y5,st5,fr5⟩=>?_);have I5':=I5.pinned (stat fr5) (T.obj _ _ st5);refine wpAny_passesOwn hp (thn (hg _ s5 σ3 H5 x u _ I5' r5 (step x H5 y5)) fun _ s6 ⟨σ6,H6,I6,q6⟩=>?_);refine wpAny_passesOwn hp (thn (hb _ s6 σ6 H6 _ I6 q6) fun f s7 q7=>?_);have again:∀{σ7:St}{H7:Hp},Inv X (pins++j9 fp s5.heap) σ7 H7 s7->N σ7 H7->∃m,m<n/\∃i σ' H',Inv X pins σ' H' s7/\tn i s7.heap/\(∀b∈fp,H' b=none)/\W i m σ' H':=fun {σ7 H7} I7 n7=>by
  obtain⟨m',hm,w7⟩:=hN σ7 H7 n7;refine⟨m',hm,i+1,σ7,H7,I7.mH,T.keep _ _ _ st5 fun b hb o e=>(I7.pin (b,o) (mem_append_right _ (mem_append_right _ (lY hb e)))).1,fun b hb=>?_,w7⟩;obtain⟨o,e,d⟩:=T.obj _ _ st5 b hb;exact(I7.pin (b,o) (mem_append_right _ (mem_append_right _ (lY hb e)))).2.1
 cases f with
 | next=>obtain⟨σ7,H7,I7,n7⟩:=q7;exact again I7 n7
 | cont=>obtain⟨σ7,H7,I7,n7⟩:=q7;exact again I7 n7
 | brk=>obtain⟨σ7,H7,I7,q7⟩:=q7;exact⟨σ7,H7,I7.mH,q7⟩
 | ret v=>obtain⟨x7,σ7,H7,I7,r7,q7⟩:=q7;exact⟨x7,σ7,H7,I7.mH,r7,q7⟩
end
theorem Ip {lo:Int}{n:Nat}{g:TG}{tb:TS}{D:Ends}{σ:St}{H:Hp}(Pv:Nat->St->Hp->Prop)(h0:Pv 0 σ H)
  (hs:∀i σ H,i<n->Pv i σ H->g (.int (lo+i)) σ H fun σ2 H2=>tb { D with nx:=Pv (i+1),ct:=Pv (i+1),bk:=D.nx } σ2 H2) (hd:∀σ H,Pv n σ H->D.nx σ H) :
  ∃W:Nat->Nat->St->Hp->Prop,(∃m,W 0 m σ H)/\∀i m σ H,W i m σ H ->
   ((Itr lo n).stop i H/\D.nx σ H)\/((Itr lo n).go i H/\∃N:St->Hp->Prop,(∀σ' H',N σ' H'->∃m',m'<m/\W (i+1) m' σ' H')/\∀x H',(Itr lo n).yld i H x H'->g x σ H' fun σ2 H2=>tb { D with nx:=N,ct:=N,bk:=D.nx } σ2 H2):=by
 refine⟨fun i m σ H=>m=n-i/\i<=n/\Pv i σ H,⟨n,by simp,zero_le _,h0⟩,?_⟩;rintro i m σ H ⟨rfl,hi,p⟩;by_cases hlt:i<n
 ·refine .inr ⟨hlt,Pv (i+1),fun σ' H' p'=>⟨n-(i+1),ω,rfl,hlt,p'⟩,fun x H' y=>?_⟩;obtain⟨e,y⟩:=y;subst e y;exact hs i σ _ hlt p
 have e:i=n:=ω;subst e;exact .inl ⟨le_refl _,hd σ H p⟩
noncomputable abbrev R2:=V->V->Hp->VK->Prop
noncomputable def OpR (X:Cx)(f:Value->Value->Sem Value)(r:R2):Prop:=
 ∀(pins:List (Addr×Obj)) (s:Shared) (σ:St) (H:Hp) (x y:V) (v u:Value) (Q:VK),Inv X pins σ H s->RelV x v->RelV y u->r x y H Q ->
  wpAny (model X.prog X.w) X.A (f v u) (EP X pins σ Q) X.xe s
noncomputable def UnR (X:Cx)(f:Value->Sem Value)(r:V->Hp->VK->Prop):Prop:=
 ∀(pins:List (Addr×Obj)) (s:Shared) (σ:St) (H:Hp) (x:V) (v:Value) (Q:VK),Inv X pins σ H s->RelV x v->r x H Q ->
  wpAny (model X.prog X.w) X.A (f v) (EP X pins σ Q) X.xe s
noncomputable def dJ (X:Cx)(f:Value)(r:List V->Hp->VK->Prop):Prop:=
 ∀(pins:List (Addr×Obj)) (s:Shared) (σ:St) (H:Hp) (xs:List V) (us:List Value) (Q:VK),Inv X pins σ H s->Vals xs us->r xs H Q ->
  wpAny (model X.prog X.w) X.A (call f us) (EP X pins σ Q) X.xe s
noncomputable def Wu (X:Cx)(r:V->Hp->(Bool->Hp->Prop)->Prop):Prop:=
 ∀(pins:List (Addr×Obj)) (s:Shared) (σ:St) (H:Hp) (x:V) (v:Value) (Q:Bool->Hp->Prop),Inv X pins σ H s->RelV x v->r x H Q ->
  wpAny (model X.prog X.w) X.A (truthy v) (TP X pins σ Q) X.xe s
noncomputable def tOp (r:R2)(ta tb:TE):TE:=fun σ H Q=>ta σ H fun x H1=>tb σ H1 fun y H2=>r x y H2 Q
noncomputable def tUn (r:V->Hp->VK->Prop)(ta:TE):TE:=fun σ H Q=>ta σ H fun x H1=>r x H1 Q
noncomputable def rI (C:Int->Int->Prop)(g:Int->Int->V):R2:=fun x y H Q=>∃i j,x=.int i/\y=.int j/\C i j/\Q (g i j) H
noncomputable def rI0 (g:Int->Int->V):R2:=fun x y H Q=>∃i j,x=.int i/\y=.int j/\Q (g i j) H
noncomputable def rU (g:Int->V):V->Hp->VK->Prop:=fun x H Q=>∃i,x=.int i/\Q (g i) H
section
variable {X:Cx}{a b c:Expr}{ta tb tc:TE}{pos:Pos}
theorem UL (ha:PE X a ta)(hb:PE X b tb){pins:List (Addr×Obj)}{s:Shared}{σ:St}{H:Hp}{R:V->V->Hp->Prop}(I:Inv X pins σ H s)
  (h:ta σ H fun x H1=>tb σ H1 fun y H2=>R x y H2) {Q:Value->Shared->Prop} {f:Value->Value->Sem Value}
  (hf:∀v u s2 x y H2,Inv X pins σ H2 s2->RelV x v->RelV y u->R x y H2->wpAny (model X.prog X.w) X.A (f v u) Q X.xe s2) :
  wpAny (model X.prog X.w) X.A (eval a X.env) (fun v s₁=>wpAny (model X.prog X.w) X.A (eval b X.env) (fun u s₂=>wpAny (model X.prog X.w) X.A (f v u) Q X.xe s₂) X.xe s₁) X.xe s:=by
 refine thE (ha pins s σ H _ I h) fun v s1 x H1 I1 r1 q1=>?_;refine thE (hb pins s1 σ H1 _ I1 q1) fun u s2 y H2 I2 r2 q2=>?_;exact hf v u s2 x y H2 I2 r1 r2 q2
theorem Vk {op:Operator}{r:R2}(ho:OpR X (binaryOp op) r)(ha:PE X a ta)(hb:PE X b tb):PE X (.BinOp a op b pos) (tOp r ta tb):=by
 intro pins s σ H Q I h;exact wpAny_BinOp (UL ha hb I h fun v u s2 x y H2 I2 rx ry q=>ho pins s2 σ H2 x y v u Q I2 rx ry q)
theorem Rq {op:UnaryOp}{r:V->Hp->VK->Prop}(ho:UnR X (unaryOp op) r)(ha:PE X a ta):PE X (.UnaryOp op a pos) (tUn r ta):=by
 intro pins s σ H Q I h;exact UnaryOp_ (thE (ha pins s σ H _ I h) fun v s1 x H1 I1 r1 q1=>ho pins s1 σ H1 x v Q I1 r1 q1)
theorem opI {f:Value->Value->Sem Value}{C:Int->Int->Prop}{g:Int->Int->Int}
  (rule:∀(i j:Int)(t u:Tok)(s:Shared)(Q:Value->Shared->Prop)(E:Value->Shared->Prop),C i j->Q (.int (g i j) s.toks) { s with toks:=s.toks+1 }->wpAny (model X.prog X.w) X.A (f (.int i t) (.int j u)) Q E s) :
  OpR X f (rI C fun i j=>.int (g i j)):=by
 intro pins s σ H x y v u Q I rx ry h;obtain⟨i,j,rfl,rfl,hc,q⟩:=h;obtain⟨t,rfl⟩:=rx;obtain⟨t',rfl⟩:=ry;exact rule i j t t' s _ _ hc ⟨.int (g i j),H,I.tok _,⟨_,rfl⟩,q⟩
theorem Vt {f:Value->Value->Sem Value}{g:Int->Int->Int}
  (rule:∀(i j:Int)(t u:Tok)(s:Shared)(Q:Value->Shared->Prop)(E:Value->Shared->Prop),Q (.int (g i j) s.toks) { s with toks:=s.toks+1 }->wpAny (model X.prog X.w) X.A (f (.int i t) (.int j u)) Q E s) :
  OpR X f (rI0 fun i j=>.int (g i j)):=by
 intro pins s σ H x y v u Q I rx ry h;obtain⟨i,j,rfl,rfl,q⟩:=h;obtain⟨t,rfl⟩:=rx;obtain⟨t',rfl⟩:=ry;exact rule i j t t' s _ _ ⟨.int (g i j),H,I.tok _,⟨_,rfl⟩,q⟩
theorem PX {f:Value->Value->Sem Value}{g:Int->Int->Bool}
  (rule:∀(i j:Int)(t u:Tok)(s:Shared)(Q:Value->Shared->Prop)(E:Value->Shared->Prop),Q (.bool (g i j)) s->wpAny (model X.prog X.w) X.A (f (.int i t) (.int j u)) Q E s) :
  OpR X f (rI0 fun i j=>.bl (g i j)):=by
 intro pins s σ H x y v u Q I rx ry h;obtain⟨i,j,rfl,rfl,q⟩:=h;obtain⟨t,rfl⟩:=rx;obtain⟨t',rfl⟩:=ry;exact rule i j t t' s _ _ ⟨.bl (g i j),H,I,rfl,q⟩
noncomputable def U6 (i j:Int):Prop:=0<=j/\j<=1000000/\i.natAbs<2^64
noncomputable def Jl (i j:Int):Prop:=(-(2^64)<i/\i<2^64)\/(-(2^64)<j/\j<2^64)
theorem Jl.ok {i j:Int}(h:Jl i j):IntMulOk i j:=by
 rcases h with⟨h1,h2⟩|⟨h1,h2⟩
 ·exact .of_left (intBits_le_64 h1 h2)
 exact .of_right (intBits_le_64 h1 h2)
theorem T3:OpR X (binaryOp .Add) (rI0 fun i j=>.int (i+j)):=Vt fun _ _ _ _ _ _ _ q=>add_int q
theorem iT:OpR X (binaryOp .Sub) (rI0 fun i j=>.int (i-j)):=Vt fun _ _ _ _ _ _ _ q=>sub_int q
theorem Tz:OpR X (binaryOp .Mult) (rI Jl fun i j=>.int (i*j)):=opI fun _ _ _ _ _ _ _ hc q=>mul_int q hc.ok
theorem jk:OpR X (binaryOp .Mod) (rI (fun _ j=>0<j) fun i j=>.int (i%j)):=opI fun i j _ _ _ _ _ hc q=>by
 have h1:(0:Int)<j:=hc;exact mod_int' ω (by rw[Int.fmod_eq_emod_of_nonneg i ω];exact q)
theorem rR:OpR X (binaryOp .Pow) (rI U6 fun i j=>.int (i^j.toNat)):=opI fun _ _ _ _ _ _ _ hc q=>pow_int_small hc.1 hc.2.1 hc.2.2 q
theorem Tv:OpR X (binaryOp .LShift) (rI U6 fun i j=>.int (i*2^j.toNat)):=opI fun _ _ _ _ _ _ _ hc q=>lshift_int_small hc.1 hc.2.1 hc.2.2 q
theorem unI {f:Value->Sem Value}{g:Int->Int}
  (rule:∀(i:Int)(t:Tok)(s:Shared)(Q:Value->Shared->Prop)(E:Value->Shared->Prop),Q (.int (g i) s.toks) { s with toks:=s.toks+1 }->wpAny (model X.prog X.w) X.A (f (.int i t)) Q E s) :
  UnR X f (rU fun i=>.int (g i)):=by
 intro pins s σ H x v Q I rx h;obtain⟨i,rfl,q⟩:=h;obtain⟨t,rfl⟩:=rx;exact rule i t s _ _ ⟨.int (g i),H,I.tok _,⟨_,rfl⟩,q⟩
theorem rD:UnR X (unaryOp .USub) (rU fun i=>.int (-i)):=unI fun _ _ _ _ _ q=>neg_int q
end
noncomputable def JS:V->V->Bool
 | .non,.non=>true | .non,.int _=>true | .int _,.non=>true | .non,.bl _=>true | .bl _,.non=>true | .non,.str _=>true | .str _,.non=>true
 | .int _,.int _=>true | .bl _,.bl _=>true | .str _,.str _=>true | .byt _,.byt _=>true
 | .int _,.str _=>true | .str _,.int _=>true | .bl _,.str _=>true | .str _,.bl _=>true
 | _,_=>false
noncomputable def rEq:R2:=fun x y H Q=>JS x y=true/\Q (.bl (decide (x=y))) H
noncomputable def rNe:R2:=fun x y H Q=>JS x y=true/\Q (.bl (!decide (x=y))) H
theorem Gs {i j:Int}:decide (V.int i=V.int j)=(i == j):=by
 rw[Bool.eq_iff_iff];simp
theorem MF {i j:Bool}:decide (V.bl i=V.bl j)=(i == j):=by
 rw[Bool.eq_iff_iff];simp
theorem Gr {i j:Str}:decide (V.str i=V.str j)=(i == j):=by
 rw[Bool.eq_iff_iff];simp
theorem Gu {i j:Array UInt8}:decide (V.byt i=V.byt j)=(i.toList == j.toList):=by
 rw[Bool.eq_iff_iff];cases i;cases j;simp
section
variable {X:Cx}{a b c:Expr}{ta tb tc:TE}{pos:Pos}
theorem cD {pins:List (Addr×Obj)}{σ:St}{H:Hp}{s:Shared}{Q:VK}{k k':Bool}(I:Inv X pins σ H s)(q:Q (.bl k) H)(e:k=k'):EP X pins σ Q (.bool k') s:=by
 subst e;exact⟨.bl k,H,I,rfl,q⟩
theorem Vs:OpR X (compareOp .Eq) rEq:=by
 intro pins s σ H x y v u Q I rx ry h;obtain⟨hs,q⟩:=h;cases x with
 | non=>
  cases rx;cases y with
  | non=>cases ry;exact PySem.EqNone.eq_none_none (cD I q (by simp))
  | bl j=>cases ry;exact PySem.EqNone.eq_none_bool (cD I q (by simp))
  | int j=>obtain⟨t',rfl⟩:=ry;exact PySem.EqNone.eq_none_int (cD I q (by simp))
  | str j=>obtain⟨t',rfl⟩:=ry;exact PySem.EqNone.eq_none_str (cD I q (by simp))
  | _=>exact absurd (show false=true from hs) Bool.false_ne_true
 | bl i=>
  cases rx;cases y with
  | non=>cases ry;exact PySem.EqNone.eq_bool_none (cD I q (by simp))
  | bl j=>cases ry;exact eq_bool (cD I q MF)
  | str j=>obtain⟨t',rfl⟩:=ry;exact PySem.EqMixed.eq_bool_str (cD I q (by simp))
  | _=>exact absurd (show false=true from hs) Bool.false_ne_true
 | int i=>
  obtain⟨t,rfl⟩:=rx;cases y with
  | non=>cases ry;exact PySem.EqNone.eq_int_none (cD I q (by simp))
  | int j=>obtain⟨t',rfl⟩:=ry;exact eq_int (cD I q Gs)
  | str j=>obtain⟨t',rfl⟩:=ry;exact PySem.EqMixed.eq_int_str (cD I q (by simp))
  | _=>exact absurd (show false=true from hs) Bool.false_ne_true
 | str i=>
  obtain⟨t,rfl⟩:=rx;cases y with
  | non=>cases ry;exact PySem.EqNone.eq_str_none (cD I q (by simp))
  | bl j=>cases ry;exact PySem.EqMixed.eq_str_bool (cD I q (by simp))
  | int j=>obtain⟨t',rfl⟩:=ry;exact PySem.EqMixed.eq_str_int (cD I q (by simp))
  | str j=>obtain⟨t',rfl⟩:=ry;exact eq_str (cD I q Gr)
  | _=>exact absurd (show false=true from hs) Bool.false_ne_true
 | byt i=>
  obtain⟨t,rfl⟩:=rx;cases y with
  | byt j=>obtain⟨t',rfl⟩:=ry;exact PySem.W.eq_bytes (cD I q Gu)
  | _=>exact absurd (show false=true from hs) Bool.false_ne_true
 | _=>cases y <;> exact absurd (show false=true from hs) Bool.false_ne_true
theorem Vr:OpR X (compareOp .NotEq) rNe:=by
 intro pins s σ H x y v u Q I rx ry h;obtain⟨hs,q⟩:=h;cases x with
 | non=>
  cases rx;cases y with
  | non=>cases ry;exact PySem.EqNone.ne_none_none (cD I q (by simp))
  | bl j=>cases ry;exact PySem.EqNone.ne_none_bool (cD I q (by simp))
  | int j=>obtain⟨t',rfl⟩:=ry;exact PySem.EqNone.ne_none_int (cD I q (by simp))
  | str j=>obtain⟨t',rfl⟩:=ry;exact PySem.EqNone.ne_none_str (cD I q (by simp))
  | _=>exact absurd (show false=true from hs) Bool.false_ne_true
 | bl i=>
  cases rx;cases y with
  | non=>cases ry;exact PySem.EqNone.ne_bool_none (cD I q (by simp))
  | bl j=>cases ry;exact ne_bool (cD I q (congrArg not MF))
  | str j=>obtain⟨t',rfl⟩:=ry;exact PySem.EqMixed.ne_bool_str (cD I q (by simp))
  | _=>exact absurd (show false=true from hs) Bool.false_ne_true
 | int i=>
  obtain⟨t,rfl⟩:=rx;cases y with
  | non=>cases ry;exact PySem.EqNone.ne_int_none (cD I q (by simp))
  | int j=>obtain⟨t',rfl⟩:=ry;exact ne_int (cD I q (congrArg not Gs))
  | str j=>obtain⟨t',rfl⟩:=ry;exact PySem.EqMixed.ne_int_str (cD I q (by simp))
  | _=>exact absurd (show false=true from hs) Bool.false_ne_true
 | str i=>
  obtain⟨t,rfl⟩:=rx;cases y with
  | non=>cases ry;exact PySem.EqNone.ne_str_none (cD I q (by simp))
  | bl j=>cases ry;exact PySem.EqMixed.ne_str_bool (cD I q (by simp))
  | int j=>obtain⟨t',rfl⟩:=ry;exact PySem.EqMixed.ne_str_int (cD I q (by simp))
  | str j=>obtain⟨t',rfl⟩:=ry;exact ne_str (cD I q (congrArg not Gr))
  | _=>exact absurd (show false=true from hs) Bool.false_ne_true
 | byt i=>
  obtain⟨t,rfl⟩:=rx;cases y with
  | byt j=>obtain⟨t',rfl⟩:=ry;exact PySem.W.ne_bytes (cD I q (congrArg not Gu))
  | _=>exact absurd (show false=true from hs) Bool.false_ne_true
 | _=>cases y <;> exact absurd (show false=true from hs) Bool.false_ne_true
theorem jK:OpR X (compareOp .Lt) (rI0 fun i j=>.bl (decide (i<j))):=PX fun _ _ _ _ _ _ _ q=>lt_int q
theorem Bh:OpR X (compareOp .LtE) (rI0 fun i j=>.bl (decide (i<=j))):=PX fun _ _ _ _ _ _ _ q=>le_int q
theorem KY:OpR X (compareOp .Gt) (rI0 fun i j=>.bl (decide (j<i))):=PX fun _ _ _ _ _ _ _ q=>gt_int q
theorem KZ:OpR X (compareOp .GtE) (rI0 fun i j=>.bl (decide (j<=i))):=PX fun _ _ _ _ _ _ _ q=>ge_int q
theorem aM (b:Expr){op:CmpOp}(h:op≠.In:=by decide)(h2:op≠.NotIn:=by decide):behindInMarks op b=false:=by
 have e1:(op == CmpOp.In)=false:=by cases op <;> first|rfl|exact absurd rfl h
 have e2:(op == CmpOp.NotIn)=false:=by cases op <;> first|rfl|exact absurd rfl h2
 cases b <;> simp [behindInMarks,e1,e2]
theorem Pz {op:CmpOp}{r:R2}(ho:OpR X (compareOp op) r)(ha:PE X a ta)(hb:PE X b tb)(hm:behindInMarks op b=false):PE X (.Compare a [op] [b] pos) (tOp r ta tb):=by
 intro pins s σ H Q I h;exact wpAny_Compare1 (UL ha hb I h fun v u s2 x y H2 I2 rx ry q=>ho pins s2 σ H2 x y v u Q I2 rx ry q) hm
noncomputable def oY (t:TE):TT:=fun σ H Q=>t σ H fun x H'=>∃k,x=.bl k/\Q k H'
theorem OJ {op:CmpOp}{r:R2}(ho:OpR X (compareOp op) r)(ha:PE X a ta)(hb:PE X b tb)(hm:behindInMarks op b=false):PT X (.Compare a [op] [b] pos) (oY (tOp r ta tb)):=by
 intro pins s σ H Q I h;refine wpAny_isTrue_Compare1 (thE (ha pins s σ H _ I h) fun v s1 x H1 I1 r1 q1=>thE (hb pins s1 σ H1 _ I1 q1) fun u s2 y H2 I2 r2 q2=>
  thn (ho pins s2 σ H2 x y v u _ I2 r1 r2 q2) fun c s3 ⟨z,H3,I3,r3,k,e,q3⟩=>?_) hm
 subst e;cases r3;exact wpAny_truthy_bool ⟨H3,I3,q3⟩
noncomputable def uO (r r':R2)(ta tb tc:TE):TE:=fun σ H Q=>ta σ H fun x H1=>tb σ H1 fun y H2=>r x y H2 fun z H3=>∃k,z=.bl k /\
 (if k=true then tc σ H3 fun w' H4=>r' y w' H4 Q else Q (.bl false) H3)
theorem KH {op op':CmpOp}{r r':R2}(ho:OpR X (compareOp op) r)(ho':OpR X (compareOp op') r')(ha:PE X a ta)(hb:PE X b tb)(hc:PE X c tc)
  (hm:lastMarks [op,op'] [b,c]=false:=by with_unfolding_all rfl):PE X (.Compare a [op,op'] [b,c] pos) (uO r r' ta tb tc):=by
 intro pins s σ H Q I h;refine Compare_chain (thE (ha pins s σ H _ I h) fun v s1 x H1 I1 r1 q1=>chain_link (thE (hb pins s1 σ H1 _ I1 q1) fun u s2 y H2 I2 r2 q2=>
  thn (ho pins s2 σ H2 x y v u _ I2 r1 r2 q2) fun d s3 ⟨z,H3,I3,r3,k,e,q3⟩=>?_)) hm
 subst e;cases r3;refine wpAny_truthy_bool ?_;cases k with
 | false=>exact ite_ff ⟨.bl false,H3,I3,rfl,q3⟩
 | true=>exact ite_tt (chain_last (thn (hc pins s3 σ H3 _ I3 q3) fun w' s4 ⟨z',H4,I4,r4,q4⟩=>ho' pins s4 σ H4 y z' u w' Q I4 r2 r4 q4))
theorem Ko {op op':CmpOp}{r r':R2}(ho:OpR X (compareOp op) r)(ho':OpR X (compareOp op') r')(ha:PE X a ta)(hb:PE X b tb)(hc:PE X c tc)
  (hm:lastMarks [op,op'] [b,c]=false:=by with_unfolding_all rfl):PT X (.Compare a [op,op'] [b,c] pos) (oY (uO r r' ta tb tc)):=by
 intro pins s σ H Q I h;refine isTrue_chain (thE (ha pins s σ H _ I h) fun v s1 x H1 I1 r1 q1=>test_link (thE (hb pins s1 σ H1 _ I1 q1) fun u s2 y H2 I2 r2 q2=>
  thn (ho pins s2 σ H2 x y v u _ I2 r1 r2 q2) fun d s3 ⟨z,H3,I3,r3,k,e,q3⟩=>?_)) hm
 subst e;cases r3;refine wpAny_truthy_bool ?_;cases k with
 | false=>
  obtain⟨k',e',q'⟩:=q3;cases e';exact ite_ff ⟨H3,I3,q'⟩
 | true=>
  refine ite_tt (test_last (thn (hc pins s3 σ H3 _ I3 q3) fun w' s4 ⟨z',H4,I4,r4,q4⟩=>thn (ho' pins s4 σ H4 y z' u w' _ I4 r2 r4 q4) fun d' s5 ⟨z2,H5,I5,r5,k2,e2,q5⟩=>?_));subst e2;cases r5;exact wpAny_truthy_bool ⟨H5,I5,q5⟩
noncomputable def Wt (K:PySem.W.Frag)(x:V)(H:Hp)(k:Bool):Prop:=
 match x with
 | .non=>k=false
 | .bl b=>k=b
 | .int i=>k=(i != 0)
 | .str y=>y.length<=sizeLine/\k=((y.length:Int) != 0)
 | .byt y=>y.size<=sizeLine/\k=((y.size:Int) != 0)
 | .ref p=>(∃xs,SqL K H p xs/\k=!xs.isEmpty)\/(∃xs,SqT K H p xs/\k=!xs.isEmpty)\/∃kvs,H p=some (.dK kvs)/\k=!kvs.isEmpty
 | _=>False
theorem DN {κ:Type}{kvs:List (κ×V)}{vs:List (κ×Value)}(r:KV kvs vs):(!vs.isEmpty)=!kvs.isEmpty:=by
 cases r <;> rfl
theorem vA {xs:List V}{its:List Value}(r:Vals xs its):(!its.toArray.isEmpty)=!xs.isEmpty:=by
 cases r <;> simp
theorem pJ:(sizeLine:Nat)<2^63:=by rw[sizeLine_eq];decide
theorem Rz:Wu X (fun x H Q=>∃k,Wt X.K x H k/\Q k H):=by
 intro pins s σ H x v Q I rx h;obtain⟨k,e,q⟩:=h;have hl:=pJ;have hs:sizeLine=16777216:=sizeLine_eq;cases x with
 | non=>
  cases rx;have e':k=false:=e;subst e';exact truthy_none ⟨H,I,q⟩
 | bl b=>
  cases rx;have e':k=b:=e;subst e';exact wpAny_truthy_bool ⟨H,I,q⟩
 | int i=>
  obtain⟨t,rfl⟩:=rx;have e':k=(i != 0):=e;subst e';exact PySem.P.truthy_int ⟨H,I,q⟩
 | str y=>
  obtain⟨t,rfl⟩:=rx;obtain⟨hy,e'⟩:y.length<=sizeLine/\k=((y.length:Int) != 0):=e;subst e';exact PySem.P.truthy_str ω ⟨H,I.tok _,q⟩
 | byt y=>
  obtain⟨t,rfl⟩:=rx;obtain⟨hy,e'⟩:y.size<=sizeLine/\k=((y.size:Int) != 0):=e;subst e';exact PySem.W.truthy_bytes ω ⟨H,I.tok _,q⟩
 | ref p=>
  cases rx;have e':(∃xs,SqL X.K H p xs/\k=!xs.isEmpty)\/(∃xs,SqT X.K H p xs/\k=!xs.isEmpty)\/∃kvs,H p=some (.dK kvs)/\k=!kvs.isEmpty:=e;rcases e' with⟨xs,hx,e'⟩|⟨xs,hx,e'⟩|⟨kvs,hx,e'⟩
  ·subst e';obtain⟨its,r,pl,hz⟩:=I.list hx;have hlen:=r.length;exact wpAny_truthy_list pl.isList (by simp only[size_toArray];omega) ⟨H,I.tok _,by rw[vA r];exact q⟩
  ·subst e';obtain⟨its,r,pl,hz⟩:=I.tuple hx;have hlen:=r.length;exact truthy_tuple pl (by simp only[size_toArray];omega) ⟨H,I.tok _,by rw[vA r];exact q⟩
  subst e';obtain⟨hz,hS,vs,r,m⟩:kvs.length<=sizeLine/\(p == sysModules)=false/\∃vs,KV kvs vs/\s.heap.DictOf (zc X.prog X.w) p vs:=I.hok p _ hx;have hlen:kvs.length=vs.length:=Paired.length r;exact wpAny_truthy_dict hS m ω ⟨H,I.tok _,by rw[DN r];exact q⟩
 | _=>exact(show False from e).elim
theorem Dr:OpR X (binaryOp .Add) (fun x y H Q=>∃i j,x=.str i/\y=.str j/\i.length+j.length<=sizeLine/\Q (.str (i++j)) H):=by
 intro pins s σ H x y v u Q I rx ry h;obtain⟨i,j,rfl,rfl,hz,q⟩:=h;obtain⟨t,rfl⟩:=rx;obtain⟨t',rfl⟩:=ry;exact add_str (fun t' tk=>⟨.str (i++j),H,I.tok _,⟨_,rfl⟩,q⟩) hz
theorem vals1 {x:V}{us:List Value}(r:Vals [x] us):∃u,us=[u]/\RelV x u:=by
 cases r with
 | cons r1 r2=>cases r2;exact⟨_,rfl,r1⟩
theorem vals2 {x y:V}{us:List Value}(r:Vals [x,y] us):∃u w',us=[u,w']/\RelV x u/\RelV y w':=by
 cases r with
 | cons r1 r2=>
  cases r2 with
  | cons r3 r4=>cases r4;exact⟨_,_,rfl,r1,r3⟩
theorem Cq:dJ X (.builtin "abs") (fun xs H Q=>∃i,xs=[.int i]/\Q (.int (if i<0 then -i else i)) H):=by
 intro pins s σ H xs us Q I r h;obtain⟨i,rfl,q⟩:=h;obtain⟨u,rfl,t,rfl⟩:=vals1 r;exact call_abs_int fun u tk=>⟨.int (if i<0 then -i else i),H,I.tok _,⟨_,rfl⟩,q⟩
theorem Ja (hc:X.calm=true):dJ X (.builtin "max") (fun xs H Q=>∃i j,xs=[.int i,.int j]/\Q (.int (if j>i then j else i)) H):=by
 intro pins s σ H xs us Q I r h;obtain⟨i,j,rfl,q⟩:=h;obtain⟨u,w',rfl,⟨t,rfl⟩,⟨t',rfl⟩⟩:=vals2 r;refine max_two_ints (I.ok.hd hc) fun h' tk k=>⟨_,H,I.kept k,?_,q⟩;by_cases hj:j>i
 ·rw[if_pos hj,if_pos hj];exact⟨_,rfl⟩
 rw[if_neg hj,if_neg hj];exact⟨_,rfl⟩
theorem IK (hc:X.calm=true):dJ X (.builtin "min") (fun xs H Q=>∃i j,xs=[.int i,.int j]/\Q (.int (if j<i then j else i)) H):=by
 intro pins s σ H xs us Q I r h;obtain⟨i,j,rfl,q⟩:=h;obtain⟨u,w',rfl,⟨t,rfl⟩,⟨t',rfl⟩⟩:=vals2 r;refine min_two_ints (I.ok.hd hc) fun h' tk k=>⟨_,H,I.kept k,?_,q⟩;by_cases hj:j<i
 ·rw[if_pos hj,if_pos hj];exact⟨_,rfl⟩
 rw[if_neg hj,if_neg hj];exact⟨_,rfl⟩
theorem xX:dJ X (.type "int") (fun xs H Q=>(∃i,xs=[.int i]/\Q (.int i) H)\/∃k,xs=[.bl k]/\Q (.int (if k then 1 else 0)) H):=by
 intro pins s σ H xs us Q I r h;rcases h with⟨i,rfl,q⟩|⟨k,rfl,q⟩
 ·obtain⟨u,rfl,t,rfl⟩:=vals1 r;exact call_int_int ⟨.int i,H,I,⟨_,rfl⟩,q⟩
 obtain⟨u,rfl,r1⟩:=vals1 r;cases r1;exact call_int_bool ⟨.int (if k then 1 else 0),H,I.tok _,⟨_,rfl⟩,q⟩
theorem zU:dJ X (.type "str") (fun xs H Q=>∃i,xs=[.int i]/\i.natAbs.log2<1920/\Q (.str (toString i)) H):=by
 intro pins s σ H xs us Q I r h;obtain⟨i,rfl,hz,q⟩:=h;obtain⟨u,rfl,t,rfl⟩:=vals1 r;exact PySem.P.str_of_int hz ⟨.str _,H,I.tok _,⟨_,rfl⟩,q⟩
end
structure U3 (h:Heap)(x dx C:Addr)(mA:Str->Option Value):Prop where
 obj:h.get? x=some (PySem.W.instObj C dx)
 ns:h.Ns1 dx mA
 ne:dx≠x
theorem HW {h:Heap}{dx:Addr}{mA:Str->Option Value}(n:h.Ns1 dx mA):∃od,h.get? dx=some od/\∀name,PySem.W.lookIn name od=some (mA name):=by
 obtain⟨o,es,ep,ho,hd,hk,_,hm⟩:=n;refine⟨o,ho,fun name=>?_⟩;have e:=hm name;unfold nsFind findBy at e;rw[<- Array.find?_toList] at e;unfold PySem.W.lookIn;rw[hd];dsimp only;split
 ·rename_i y q;rw[q] at e;exact congrArg some e
 rename_i q;rw[q] at e;have a:es.toList.any (·.refKey)=false:=by
  rw[List.any_eq_false];intro y hy;obtain⟨z,t,hkey⟩:=hk y (Array.mem_toList_iff.mp hy);simp [DictEntry.refKey,hkey]
 have a':¬es.toList.any (·.refKey)=true:=by rw[a];exact Bool.false_ne_true
 rw[if_neg a'];exact congrArg some e
theorem U3.look {h:Heap}{x dx C:Addr}{mA:Str->Option Value}(I:U3 h x dx C mA):∃od,PySem.W.InstAt h x (PySem.W.instObj C dx) C (some od)/\∀name,PySem.W.lookIn name od=some (mA name):=
 let ⟨od,ho,hl⟩:=HW I.ns
 ⟨od,⟨I.obj,rfl,rfl,ho⟩,hl⟩
section
variable {P:Program}{w:World}{H H':Hp}{h h':Heap}{a C dx:Addr}{fs fs':List (Str×V)}
theorem Qx (hok:HOk P w H h)(e:H a=some (.ins C dx fs)):∃mA,U3 h a dx C mA/\(∀f,U0 (fs.lookup f) (mA f))/\PySem.Within mA (fs.map (·.1))/\fs.length<=1000/\H dx=some (.own a):=by
 obtain⟨d,z,ne,ob,mA,n,r,q⟩:=(show dh P w H h a (.ins C dx fs) from hok a _ e);exact⟨mA,⟨ob,n,ne⟩,r,q,z,d⟩
end
structure Cls (K:PySem.W.Frag)(C:Addr):Prop where
 pg:PySem.W.plainGet K C Str.empty=true
 hd:PySem.W.hasDictIn K C=true
 po:PySem.W.plainOver K C=true
 sa:PySem.W.findIn K (.ref C) "__setattr__" = some (some (.builtin "object.__setattr__"))
theorem Cls.get {K:PySem.W.Frag}{C:Addr}(c:Cls K C)(f:Str):PySem.W.plainGet K C f=true:=c.pg
section
variable {X:Cx}{pins:List (Addr×Obj)}{σ:St}{H:Hp}{s:Shared}{A:Around}{E:Value->Shared->Prop}{Q:Value->Shared->Prop}{c:Value}{b:Bool}
inductive oW (K:PySem.W.Frag)(H:Hp):V->Value->Prop where
 | non:oW K H .non (.type "NoneType")
 | bl (x:Bool):oW K H (.bl x) (.type "bool")
 | int (i:Int):oW K H (.int i) (.type "int")
 | str (x:Str):oW K H (.str x) (.type "str")
 | flt (x:UInt64):oW K H (.flt x) (.type "float")
 | lst {a:Addr} {xs:List V} (e:H a=some (.lst xs)):oW K H (.ref a) (.type "list")
 | frz {a:Addr} {o:Obj} {xs:List V} (e:H a=some (.frz o (.lst xs))):oW K H (.ref a) (.type "list")
 | tup {a:Addr} {xs:List V} (e:H a=some (.tup xs)):oW K H (.ref a) (.type "tuple")
 | dK {a:Addr} {kvs:List (Key×V)} (e:H a=some (.dK kvs)):oW K H (.ref a) (.type "dict")
 | dT {a:Addr} {kvs:List (List Key×V)} (e:H a=some (.dT kvs)):oW K H (.ref a) (.type "dict")
 | ins {a C dx:Addr} {fs:List (Str×V)} (e:H a=some (.ins C dx fs)) (cl:Cls K C) (ha:PySem.W.findIn K (.ref C) "__class__" = some (some (.builtin "object.__class__")))
   (hn:PySem.W.specialIn K (.builtin "object.__class__") "__get__" = some (some (.builtin "getset_descriptor.__get__"))) (htk:PySem.W.takesIn K (.builtin "object.__class__")=some true)
   (hm:PySem.W.mroIn K C (.type "object")=some true):oW K H (.ref a) (.ref C)
theorem Ib {x:V}{u t:Value}(I:Inv X pins σ H s)(rx:RelV x u)(ty:oW X.K H x t)(e:kitOne X.K t c=some b)(h:∀tk,Q (.bool b) { s with toks:=tk }) :
  wpAny (model X.prog X.w) A (call (.builtin "isinstance") [u,c]) Q E s:=by
 cases ty with
 | non=>cases (show u=Value.none from rx);exact PySem.W.kia_one PySem.W.kitx_none I.kIn True.intro e (fun z=>nomatch z) h
 | bl y=>cases (show u=Value.bool y from rx);exact PySem.W.kia_one PySem.W.kitx_bool I.kIn True.intro e (fun z=>nomatch z) h
 | int i=>obtain⟨t,q⟩:=(show ∃t,u=Value.int i t from rx);cases q;exact PySem.W.kia_one PySem.W.kitx_int I.kIn True.intro e (fun z=>nomatch z) h
 | str y=>obtain⟨t,q⟩:=(show ∃t,u=Value.str y t from rx);cases q;exact PySem.W.kia_one PySem.W.kitx_str I.kIn True.intro e (fun z=>nomatch z) h
 | flt y=>obtain⟨t,q⟩:=(show ∃t,u=Value.float y t from rx);cases q;exact PySem.W.kia_one PySem.W.kitx_float I.kIn True.intro e (fun z=>nomatch z) h
 | @lst a xs ea=>
  cases (show u=Value.ref a from rx);obtain⟨_,_,n,_,h1⟩:=(show dh X.prog X.w H s.heap a (.lst xs) from I.hok a _ ea);exact PySem.W.kia_one PySem.W.kitx_list I.kIn ⟨_,h1,rfl⟩ e (fun z=>nomatch z) h
 | @frz a ob xs ea=>
  cases (show u=Value.ref a from rx);obtain⟨_,_,_,n,_,h1⟩:=(show dh X.prog X.w H s.heap a (.frz ob (.lst xs)) from I.hok a _ ea);exact PySem.W.kia_one PySem.W.kitx_list I.kIn ⟨_,h1,rfl⟩ e (fun z=>nomatch z) h
 | @tup a xs ea=>
  cases (show u=Value.ref a from rx);obtain⟨_,_,_,p⟩:=(show dh X.prog X.w H s.heap a (.tup xs) from I.hok a _ ea);obtain⟨o,h1,h2,_⟩:=p;exact PySem.W.kia_one PySem.W.kitx_tuple I.kIn ⟨o,h1,h2⟩ e (fun z=>nomatch z) h
 | @dK a kvs ea=>
  cases (show u=Value.ref a from rx);obtain⟨_,_,vs,_,p⟩:=(show dh X.prog X.w H s.heap a (.dK kvs) from I.hok a _ ea);obtain⟨o,es,ep,h1,h2,_⟩:=p;exact PySem.W.kia_one PySem.W.kitx_dict I.kIn ⟨o,h1,h2.1⟩ e (fun z=>nomatch z) h
 | @dT a kvs ea=>
  cases (show u=Value.ref a from rx);obtain⟨_,_,xs,_,o,es,ep,h1,h2,_⟩:=(show dh X.prog X.w H s.heap a (.dT kvs) from I.hok a _ ea);exact PySem.W.kia_one PySem.W.kitx_dict I.kIn ⟨o,h1,h2.1⟩ e (fun z=>nomatch z) h
 | @ins a C dx fs ea cl ha hn htk hm=>
  cases (show u=Value.ref a from rx);obtain⟨mA,O,_⟩:=Qx I.hok ea;obtain⟨od,J,_⟩:=O.look;exact PySem.W.kia_one (PySem.W.kitx_own (cl.get _) cl.hd ha hn htk hm) I.kIn J e (fun z=>nomatch z) h
end
structure gm (k:Nat)(A:Around):Prop where
 hd:A.handled=none
 dp:A.depth+3*k+5<recursionLimit
 un:A.units+16*k+200<cLine
 gd:A.guards=some []
theorem gm.mono {j k:Nat}{A:Around}(r:gm k A)(h:j<=k):gm j A:=⟨r.hd,by have:=r.dp;omega,by have:=r.un;omega,r.gd⟩
theorem gm.deeper {k:Nat}{A:Around}(r:gm (k+1) A)(env:Env):gm k (A.deeper env):=
 ⟨r.hd,by have:=r.dp;show A.depth+1+3*k+5<_;omega,by have:=r.un;show A.units+3+16*k+200<_;omega,r.gd⟩
theorem gm.depth {k:Nat}{A:Around}(r:gm k A):A.depth<recursionLimit:=by have:=r.dp;omega
theorem gm.aZ {k:Nat}{A:Around}(r:gm k A):A.units<cLine:=by have:=r.un;omega
noncomputable def rE:TA:=fun _ H Q=>Q [] H
noncomputable def jl (ta:TE)(tr:TA):TA:=fun σ H Q=>ta σ H fun x H1=>tr σ H1 fun xs H2=>Q (x::xs) H2
section
variable {X:Cx}{e:Expr}{es:List Expr}{te:TE}{t:TA}{pos:Pos}
theorem Tt:PA X [] rE:=fun _ _ _ _ H Q I h=>Calls.spliced_nil ⟨[],H,I,.nil,h⟩
theorem PL (ha:PE X e te)(hr:PA X es t)(hs:starEach (e::es) X.env=(false,eval e X.env)::starEach es X.env:=by rfl):PA X (e::es) (jl te t):=by
 intro pos pins s σ H Q I h;rw[hs];show wpAny _ _ (spliced ((false,eval e X.env)::backTo pos (starEach es X.env))) _ _ s;refine Calls.spliced_cons (thE (ha pins s σ H _ I h) fun u s1 x H1 I1 r1 q1=>?_);exact thA (hr pos pins s1 σ H1 _ I1 q1) fun us s2 xs H2 I2 r2 q2=>⟨x::xs,H2,I2,.cons r1 r2,q2⟩
noncomputable def G4 (t:TA):TE:=fun σ H Q=>t σ H fun xs H1=>xs.length<=sizeLine/\∀p,H1 p=none->Q (.ref p) (upd H1 p (.tup xs))
noncomputable def Aj (t:TA):TE:=fun σ H Q=>t σ H fun xs H1=>xs.length<=sizeLine/\∀p,H1 p=none->Q (.ref p) (upd H1 p (.lst xs))
theorem S9 {x1}(h:PA X es t):PE X (.Tuple es x1 pos) (G4 t):=by
 intro pins s σ H Q I hq;refine wpAny_Tuple_spliced (thn (h pos pins s σ H _ I hq) fun us s1 ⟨xs,H1,I1,r,z,q⟩=>⟨by rw[<- r.length];exact z,?_⟩);have hf:H1 s1.heap.objs.size=none:=I1.hok.fresh (le_refl _);refine⟨.ref s1.heap.objs.size,upd H1 s1.heap.objs.size (.tup xs),I1.laid (t':=s1.toks) (fun b u e=>get?_push_of_some _ e) (le_refl _) ?_,rfl,q _ hf⟩;exact⟨z,us,r,⟨_,get?_push_size _ rfl,rfl,_,rfl⟩⟩
theorem Ti (h:PA X es t):PE X (.List es pos) (Aj t):=by
 intro pins s σ H Q I hq;refine wpAny_List_spliced (thn (h pos pins s σ H _ I hq) fun us s1 ⟨xs,H1,I1,r,z,q⟩=>⟨by rw[<- r.length];exact z,?_⟩);have hf:H1 s1.heap.objs.size=none:=I1.hok.fresh (le_refl _);refine⟨.ref s1.heap.objs.size,upd H1 s1.heap.objs.size (.lst xs),I1.laid (t':=s1.toks) (fun b u e=>get?_push_of_some _ e) (le_refl _) ?_,rfl,q _ hf⟩;exact⟨z,us,0,r,get?_push_size _ rfl⟩
end
noncomputable abbrev Sp:=List V->Hp->VK->XK->Prop
noncomputable abbrev CXT:=List Env->Hp->Shared->XK->Value->Shared->Prop
structure CN (P:Program)(w:World)(K:PySem.W.Frag)(mg:Str->Option Value)(base:Heap)(A:Around)(outer:List Env)(s:Shared)(H:Hp):Prop where
 frames:A.frames=some outer
 mod:Mod K mg base
 bs:∀b o,base.get? b=some o->s.heap.get? b=some o/\H b=none
 bsz:base.objs.size<=s.heap.objs.size
 oV:s.heap.FunFrames base outer
 frf:∀b∈frs outer,H b=none
 hok:HOk P w H s.heap
 bare:AllBare s.gens
noncomputable def CE (outer:List Env)(P:Program)(w:World)(H:Hp)(s:Shared)(Q:VK)(u:Value)(s':Shared):Prop:=
 ∃v H',s'.os=s.os/\AllBare s'.gens/\Un (frs outer) [] H H' s.heap s'.heap/\HOk P w H' s'.heap/\RelV v u/\Q v H'
noncomputable def CR (CX:CXT)(outer:List Env)(P:Program)(w:World)(H:Hp)(s:Shared)(Q:VK)(E:XK)(r:Result)(s':Shared):Prop:=
 match r with
 | .ok (.ret u)=>CE outer P w H s Q u s'
 | .ok _=>False
 | .error e=>CX outer H s E e s'
structure dM (P:Program)(w:World)(K:PySem.W.Frag)(mg:Str->Option Value)(base:Heap)(CX:CXT)(k:Nat)(f:Addr)(fd:FuncData)(ps:List Str)(sp:Sp):Prop where
 len:∀vs H Q E,sp vs H Q E->vs.length=ps.length
 run:∀(A:Around)(outer:List Env)(s:Shared)(H:Hp)(args:Args)(us:List Value)(vs:List V)(Q:VK)(E:XK),gm k A->CN P w K mg base A outer s H->BindsTo s fd args (ps.zip us)->Vals vs us->sp vs H Q E ->
  codeAny (model P w) A (.call (.ref f) args) (CR CX outer P w H s Q E) s
theorem dM.mono {P:Program}{w:World}{K:PySem.W.Frag}{mg:Str->Option Value}{base:Heap}{CX:CXT}{j k:Nat}{f:Addr}{fd:FuncData}{ps:List Str}{sp:Sp}(F:dM P w K mg base CX j f fd ps sp)(h:j<=k) :
  dM P w K mg base CX k f fd ps sp:=⟨F.len,fun A outer s H args us vs Q E hr=>F.run A outer s H args us vs Q E (hr.mono h)⟩
section
variable {X:Cx}{pins:List (Addr×Obj)}{σ:St}{H:Hp}{s s':Shared}
theorem Inv.env0 (I:Inv X pins σ H s):CN X.prog X.w X.K X.mg X.base X.A X.stack s H:=
 ⟨I.ok.frames,I.ok.mod,I.bs,le_trans I.ok.bsz I.sz,I.stack,I.Ez,I.hok,I.bare⟩
theorem Inv.after {Q:VK}{u:Value}(I:Inv X pins σ H s)(h:CE X.stack X.prog X.w H s Q u s'):EP X pins σ Q u s':=by
 obtain⟨v,H',os,bare,un,hok,r,q⟩:=h;obtain⟨hh,g,d,t,os'⟩:=s';obtain rfl:os'=s.os:=os;exact⟨v,H',I.call (h':=hh) (g':=g) (d':=d) (t':=t) (ch:=[]) un hok bare (fun b z=>absurd z (by simp)),r,q⟩
end
noncomputable def mJ (sp:Sp)(dvs:List V)(E:XK)(t:TA):TE:=fun σ H Q=>t σ H fun vs H1=>sp (vs++dvs) H1 Q E
noncomputable def Binds (K:PySem.W.Frag)(fd:FuncData)(ps:List Str)(ds:List Value):Prop:=
 ∀(s:Shared)(us:List Value),K.In s.heap->(us++ds).length=ps.length->BindsTo s fd ⟨us,[]⟩ (ps.zip (us++ds))
theorem Binds.all {K:PySem.W.Frag}{fd:FuncData}{ps:List Str}(h:∀us:List Value,us.length=ps.length->bindArgs fd ⟨us,[]⟩=pure (ps.zip us)):Binds K fd ps []:=fun s us _ hl=>by
 rw[append_nil] at hl |-;exact .of_eq (h us hl)
noncomputable def Af (CX:CXT)(X:Cx)(E:XK):Prop:=∀(pins:List (Addr×Obj)) (σ:St) (H:Hp) (s:Shared) (e:Value) (s':Shared),Inv X pins σ H s->CX X.stack H s E e s'->X.xe e s'
section
variable {X:Cx}{CX:CXT}{k:Nat}{f C:Addr}{fd:FuncData}{ps:List Str}{sp:Sp}{dvs:List V}{ds:List Value}{E:XK}{x m:Str}{p pos apos:Pos}{e o:Expr}{es:List Expr}{ta:TE}{t:TA}
theorem RX {pins:List (Addr×Obj)}{σ:St}{H:Hp}{s:Shared}{Q:VK}{us:List Value}{vs:List V}(F:dM X.prog X.w X.K X.mg X.base CX k f fd ps sp)(hr:gm k X.A)(hb:Binds X.K fd ps ds)(hd:Vals dvs ds)(hx:Af CX X E)
  (I:Inv X pins σ H s) (r:Vals vs us) (h:sp (vs++dvs) H Q E):wpAny (model X.prog X.w) X.A (call (.ref f) us) (EP X pins σ Q) X.xe s:=by
 have r2:Vals (vs++dvs) (us++ds):=r.append hd;have hl:(us++ds).length=ps.length:=by rw[<- r2.length];exact F.len _ _ _ _ h
 refine wpAny_call (codeAny_mono (F.run X.A X.stack s H ⟨us,[]⟩ (us++ds) (vs++dvs) Q E hr I.env0 (hb s us I.kIn hl) r2 h) fun r s' hq=>?_);cases r with
 | error e=>exact hx pins σ H s e s' I hq
 | ok fl=>
  cases fl with
  | ret u=>exact I.after hq
  | next=>exact False.elim hq
  | brk=>exact False.elim hq
  | cont=>exact False.elim hq
theorem PB (F:dM X.prog X.w X.K X.mg X.base CX k f fd ps sp)(hr:gm k X.A)(hg:Gl X x)(hm:X.mg x=some (.ref f))(hk:keepIn X.K (.ref f)=true)(hb:Binds X.K fd ps ds)(hd:Vals dvs ds)(hx:Af CX X E)
  (ha:PA X (e::es) t) (hdb:(x == ("__debug__" : Str))=false:=by decide) (he:starEach (e::es) X.env=(false,eval e X.env)::starEach es X.env:=by rfl) (hpl:(backTo pos (starEach es X.env)).any (·.1)=false:=by rfl) :
  PE X (.Call (.Name x p) (e::es) [] pos) (mJ sp dvs E t):=by
 intro pins s σ H Q I h;refine wpAny_Call_Name_kw (zj I hg hm ?_ hdb);refine PySem.W.callWith_K (h₀:=X.base) I.ok.mod.kin hk (thA (ha pos pins s σ H _ I h) fun us s1 vs H1 I1 r q=>⟨I1.kIn,?_⟩) he hpl;exact RX F hr hb hd hx I1 r q
end
structure bW (N P:List Str)(sc:Scope):Prop where
 kind:sc.kind=.function
 co:sc.isCoroutine=false
 gen:sc.isGenerator=false
 nd:N.Nodup
 pre:N.take P.length=P
 par:∀x∈P,sc.names.lookup x=some .local\/sc.names.lookup x=some .cell
 nofree:∀y∈sc.names,y.2≠.free
theorem xZ {kindOf:Str->Option NameKind}{x:Str}:∀{binds:List (Str×Value)}{m:Str->Option Value},(∀v,(x,v)∉binds)->bindL kindOf binds m x=m x
 | [],_,_=>rfl
 | (n,v)::r,m,h=>by
  unfold bindL;rw[xZ fun w hw=>h w (mem_cons_of_mem _ hw)];split
  ·have:x≠n:=by rintro rfl;exact h v mem_cons_self
   simp [this]
  rfl
theorem yd {kindOf:Str->Option NameKind}{x:Str}:∀{binds:List (Str×Value)}{m:Str->Option Value},(∀v,(x,v)∉binds)->bindC kindOf binds m x=m x
 | [],_,_=>rfl
 | (n,v)::r,m,h=>by
  unfold bindC;rw[yd fun w hw=>h w (mem_cons_of_mem _ hw)];split
  ·rfl
  have:x≠n:=by rintro rfl;exact h v mem_cons_self
  simp [this]
theorem yc {kindOf:Str->Option NameKind}{x:Str}{v:Value}:∀{P:List Str}{vs:List Value}{i:Nat}{m:Str->Option Value},P.Nodup->P[i]?=some x->vs[i]?=some v->kindOf x=some .local ->
  bindL kindOf (P.zip vs) m x=some v
 | [],_,_,_,_,h,_,_=>by simp at h
 | _::_,[],_,_,_,_,h,_=>by simp at h
 | p::P,w::vs,0,m,nd,h1,h2,hk=>by
  simp at h1 h2;subst h1;subst h2;show bindL kindOf ((p,w)::P.zip vs) m p=_;unfold bindL;rw[xZ fun v hv=>(nodup_cons.mp nd).1 (of_mem_zip hv).1,if_pos hk];simp
 | p::P,w::vs,i+1,m,nd,h1,h2,hk=>by
  show bindL kindOf ((p,w)::P.zip vs) m x=_;unfold bindL;exact yc (i:=i) (nodup_cons.mp nd).2 (by simpa using h1) (by simpa using h2) hk
theorem ye {kindOf:Str->Option NameKind}{x:Str}{v:Value}:∀{P:List Str}{vs:List Value}{i:Nat}{m:Str->Option Value},P.Nodup->P[i]?=some x->vs[i]?=some v->kindOf x≠some .local ->
  bindC kindOf (P.zip vs) m x=some v
 | [],_,_,_,_,h,_,_=>by simp at h
 | _::_,[],_,_,_,_,h,_=>by simp at h
 | p::P,w::vs,0,m,nd,h1,h2,hk=>by
  simp at h1 h2;subst h1;subst h2;show bindC kindOf ((p,w)::P.zip vs) m p=_;unfold bindC;rw[yd fun v hv=>(nodup_cons.mp nd).1 (of_mem_zip hv).1,if_neg hk];simp
 | p::P,w::vs,i+1,m,nd,h1,h2,hk=>by
  show bindC kindOf ((p,w)::P.zip vs) m x=_;unfold bindC;exact ye (i:=i) (nodup_cons.mp nd).2 (by simpa using h1) (by simpa using h2) hk
noncomputable def start (N:List Str)(vs:List V):St:=vs.map some++List.replicate (N.length-vs.length) none
noncomputable def Ci (CX:CXT)(P:Program)(w:World)(K:PySem.W.Frag)(mg:Str->Option Value)(base:Heap)(N:List Str)(qual:Str)(scope:Scope)(f:Addr)(cd:Value)(A:Around)(outer:List Env)(s:Shared)(H:Hp)(E:XK):Cx where
 prog:=P
 w:=w
 K:=K
 mg:=mg
 base:=base
 A:=A.deeper (envOfC qual scope s.heap.objs.size f cd)
 N:=N
 s₀:=s
 H₀:=H
 env:=envOfC qual scope s.heap.objs.size f cd
 outer:=outer
 stack:=envOfC qual scope s.heap.objs.size f cd::outer
 ex:=[]
 calm:=true
 fn:=fun _=>true
 pn:=[]
 xe:=fun e s'=>wpAny (model P w) (A.deeper (envOfC qual scope s.heap.objs.size f cd)) (leaving (envOfC qual scope s.heap.objs.size f cd) e) (fun _ s''=>CX outer H s E e s'') (fun e' s''=>CX outer H s E e' s'') s'
theorem Cp {sc:Scope}{n:Nat}{x:Str}(h:sc.names.lookup x=some .cell):∃c,(cellsFrom n sc.names []).lookup x=some c:=by
 have q:=PySem.W.cellsFrom_some sc.names n [] (.inl h);exact Option.isSome_iff_exists.mp q
theorem Ie {CX:CXT}{P:Program}{w:World}{K:PySem.W.Frag}{mg:Str->Option Value}{base:Heap}{N ps:List Str}{qual:Str}{scope:Scope}{f:Addr}{cd:Value}{A:Around}{outer:List Env}{s s1:Shared}{H:Hp}{E:XK}{us:List Value}{vs:List V}
  (S:bW N ps scope) (hd:A.handled=none) (e0:CN P w K mg base A outer s H) (hl:vs.length=ps.length) (r:Vals vs us)
  (x:InCallC s s.heap.objs.size (bindL (envOfC qual scope s.heap.objs.size f cd).kindOf (ps.zip us) fun _=>none) (cellsFrom (s.heap.objs.size+1) scope.names []) (bindC (envOfC qual scope s.heap.objs.size f cd).kindOf (ps.zip us) fun _=>none) s1) :
  Inv (Ci CX P w K mg base N qual scope f cd A outer s H E) [] (start N vs) H s1:=by
 have hpl:ps.length<=N.length:=by have:=congrArg List.length S.pre;rw[length_take] at this;omega
 obtain⟨h1,tk,rfl,hk⟩:=x.done;have noA:∀b:Addr,b∉(Ci CX P w K mg base N qual scope f cd A outer s H E).ex:=fun b z=>absurd (show b∈([]:List Addr) from z) (by simp);refine⟨⟨e0.mod,S.kind,rfl,rfl,le_refl _,fun y z c h1 h2=>?_,fun y hy=>?_,fun y c _ h=>?_,fun _=>hd,Around.frames_deeper e0.frames,.inr ⟨rfl,rfl⟩,fun b z=>absurd z (noA b),e0.bs,e0.bsz,fun b _ _=>noA b,fun b z=>absurd z (noA b),e0.oV,e0.frf⟩,
  rfl,e0.bare,Un.kept hk,⟨_,x.toInCall.ns,fun i y v h1 h2 h3=>?_⟩,fun y c h=>⟨_,x.cell y c h⟩,e0.hok.fresh (le_refl _),fun y c h=>?_,fun p hp=>absurd (show p∈([]:List (Addr×Obj)) from hp) (by simp),e0.hok.kept hk,?_⟩
 ·exact name_of_addr x.apart (PySem.mem_of_lookup h1) (PySem.mem_of_lookup h2)
 ·have hy:scope.names.lookup y=some .cell\/scope.names.lookup y=some .free:=hy;rcases hy with hy|hy
  ·exact Cp hy
  exact absurd rfl (S.nofree _ (PySem.mem_of_lookup hy))
 ·exact le_of_lt (x.above y c (PySem.mem_of_lookup h))
 ·have hi:i<vs.length:=by
   unfold start at h2;by_cases hi:i<vs.length
   ·exact hi
   rw[getElem?_append_right (by simpa using hi)] at h2;rw[List.getElem?_replicate] at h2;split at h2 <;> cases h2
  have ha:vs[i]?=some v:=by
   unfold start at h2;rw[List.getElem?_append_left (by simpa using hi),getElem?_map] at h2;cases e:vs[i]? with
   | none=>rw[e] at h2;cases h2
   | some a=>rw[e] at h2;cases h2;rfl
  obtain⟨u,hu,rv⟩:=r.get ha;have hp:ps[i]?=some y:=by
   rw[<- S.pre,List.getElem?_take_of_lt ω];exact h1
  have ndP:ps.Nodup:=by rw[<- S.pre];exact S.nd.sublist (List.take_sublist _ _)
  refine⟨u,rv,?_⟩;rcases S.par y (mem_of_getElem? hp) with k|k
  ·exact .inl ⟨k,yc ndP hp hu k⟩
  obtain⟨c,e⟩:=Cp (n:=s.heap.objs.size+1) k;refine .inr ⟨.inl k,c,e,?_⟩;have q:=x.cell y c e;rw[ye ndP hp hu (by show scope.names.lookup y≠_;rw[k];decide)] at q;exact q
 ·exact e0.hok.fresh (le_of_lt (x.above y c (PySem.mem_of_lookup h)))
 unfold start;show _=N.length;rw[length_append,length_map,List.length_replicate];omega
theorem Ru {CX:CXT}{P:Program}{w:World}{K:PySem.W.Frag}{mg:Str->Option Value}{base:Heap}{k:Nat}{f:Addr}{name qual:Str}{params:Arguments}{body:List Stmt}{scope:Scope}{dV kV doc pm cdv ct oc:Value}{an od:Option Addr}
  {osl:Array (Option Value)} {N ps:List Str} {sp:Sp} (lk:K.lookup f=some ⟨oc,od,.func (fnOf name qual params body scope dV kV doc pm an cdv ct),osl⟩) (hcd:codeIn K cdv qual=true) (S:bW N ps scope)
  (len:∀vs H Q E,sp vs H Q E->vs.length=ps.length)
  (hbody:∀(A:Around)(outer:List Env)(s:Shared)(H:Hp)(vs:List V)(Q:VK)(E:XK),gm k (A.deeper (envOfC qual scope s.heap.objs.size f cdv))->sp vs H Q E ->
   ∃t,PSs (Ci CX P w K mg base N qual scope f cdv A outer s H E) body t/\t { nx:=fun _ H'=>Q .non H',rt:=Q } (start N vs) H) :
  dM P w K mg base CX (k+1) f (fnOf name qual params body scope dV kV doc pm an cdv ct) ps sp:=by
 refine⟨len,fun A outer s H args us vs Q E hr e0 hb r hsp=>?_⟩;have hl:=len _ _ _ _ hsp;have KX:K.In s.heap:=e0.mod.kin.keeps fun b o e=>(e0.bs b o e).1;have lim:s.heap.NoLimit:=e0.mod.nolimit.keeps fun b o e=>(e0.bs b o e).1;have hkind:∀y∈ps.zip us,scope.names.lookup y.1=some .local\/(scope.names.lookup y.1=some .cell/\((cellsFrom (s.heap.objs.size+1) scope.names []).lookup y.1).isSome=true):=fun⟨n,v⟩ hy=>by
  rcases S.par n (of_mem_zip hy).1 with q|q
  ·exact .inl q
  exact .inr ⟨q,PySem.W.cellsFrom_some _ _ _ (.inl q)⟩
 refine codeAny_call_function hr.depth (KX _ _ lk) rfl S.co S.gen rfl (PySem.W.codeRec_of KX hcd) (hb _ _ _ _ ?_);refine wpAny_newFunctionEnv_cells S.kind hkind fun env he s1 x=>?_;subst he;refine⟨lim.keeps x.toInCall.keep,codeAny_func ?_⟩;obtain⟨t,ht,hq⟩:=hbody A outer s H vs Q E (hr.deeper _) hsp;have I:Inv (Ci CX P w K mg base N qual scope f cdv A outer s H E) [] (start N vs) H s1:=Ie S hr.hd e0 hl r x;refine wpAny_mono (ht [] s1 (start N vs) H _ I hq) (fun fl s' hs=>?_) fun e s' hs=>hs;have fin:∀{σ':St}{H':Hp}{v:V}{u:Value},Inv (Ci CX P w K mg base N qual scope f cdv A outer s H E) [] σ' H' s'->RelV v u->Q v H'->CE outer P w H s Q u s':=
  fun {σ' H' v u} J rv q=>⟨v,H',J.os,J.bare,J.base,J.hok,rv,q⟩
 cases fl with
 | ret u=>
  obtain⟨v,σ',H',J,rv,q⟩:=hs;exact fin J rv q
 | next=>
  obtain⟨σ',H',J,q⟩:=hs;exact fin (v:=V.non) (u:=Value.none) J rfl q
 | brk=>
  obtain⟨_,_,_,q⟩:=hs;exact False.elim q
 | cont=>
  obtain⟨_,_,_,q⟩:=hs;exact False.elim q
section
variable {X:Cx}{x:Str}{p pos:Pos}{e:Expr}{es:List Expr}{t:TA}{id T:String}{r:List V->Hp->VK->Prop}
noncomputable def tCB (r:List V->Hp->VK->Prop)(t:TA):TE:=fun σ H Q=>t σ H fun vs H1=>r vs H1 Q
theorem KN (hc:dJ X (.builtin id) r) (hg:Gl X x) (hm:X.mg x=none) (hv:bootBuiltins x=some (.builtin id)) (ha:PA X (e::es) t) (hn:x ≠ "__name__" := by decide) (hdb:(x == ("__debug__" : Str))=false:=by decide)
  (he:starEach (e::es) X.env=(false,eval e X.env)::starEach es X.env:=by rfl) (hpl:(backTo pos (starEach es X.env)).any (·.1)=false:=by rfl):PE X (.Call (.Name x p) (e::es) [] pos) (tCB r t):=by
 intro pins s σ H Q I h;refine wpAny_Call_Name_kw (pK I hg hm hv ?_ hn hdb);exact PyProof.Rows.callWith_builtin1 (thA (ha pos pins s σ H _ I h) fun us s1 vs H1 I1 r1 q1=>hc pins s1 σ H1 vs us Q I1 r1 q1) he hpl
theorem Hs (hc:dJ X (.type T) r) (hg:Gl X x) (hm:X.mg x=none) (hv:bootBuiltins x=some (.type T)) (ha:PA X (e::es) t) (hn:x ≠ "__name__" := by decide) (hdb:(x == ("__debug__" : Str))=false:=by decide)
  (he:starEach (e::es) X.env=(false,eval e X.env)::starEach es X.env:=by rfl) (hpl:(backTo pos (starEach es X.env)).any (·.1)=false:=by rfl):PE X (.Call (.Name x p) (e::es) [] pos) (tCB r t):=by
 intro pins s σ H Q I h;refine wpAny_Call_Name_kw (pK I hg hm hv ?_ hn hdb);exact PyProof.Rows.callWith_type1 (thA (ha pos pins s σ H _ I h) fun us s1 vs H1 I1 r1 q1=>hc pins s1 σ H1 vs us Q I1 r1 q1) he hpl
end
end L2
namespace HT
open PySem PyProof.Rows
section
variable {prog:Program}{w:World}{A:Around}{E:Value->Shared->Prop}{s:Shared}
theorem Q8 {t b:Addr}{vs ws:List Value}{Q:Value->Shared->Prop}(ht:IsTup s.heap t vs.toArray)(hb:IsTup s.heap b ws.toArray)(hv:vs≠[])
  (h1:ws=[]->Q (.ref t) s) (h2:ws≠[]->Q (.ref s.heap.objs.size) { s with heap:=s.heap.push { cls:=.type "tuple",data:=.seq (vs++ws).toArray } })
  (hsz:vs.length+ws.length<=sizeLine):wpAny (model prog w) A (binaryOp .Add (.ref t) (.ref b)) Q E s:=by
 obtain⟨⟨cls,dd,data,sl⟩,ho,hc,n,hd⟩:=id ht;obtain⟨⟨cls2,dd2,data2,sl2⟩,ho2,hc2,n2,hd2⟩:=id hb;simp only at hc hd hc2 hd2;subst hc hd hc2 hd2;have e:vs.toArray++ws.toArray=(vs++ws).toArray:=by simp
 by_cases hw:ws=[]
 ·exact concat_meets ⟨_,ho,rfl⟩ ⟨_,ho2,rfl⟩ noFill_tuple_add seq_tuple_add PySem.F.slot_tuple_add PySem.F.entry_tuple_add (PySem.F.args_tuple_add_2 _ _)
   (tuple_addW1 t b vs.toArray ws.toArray n n2 dd dd2 sl sl2 (by simpa using hv) (by simp [hw])) ⟨ho,ho2,h1 hw⟩
 refine concat_meets ⟨_,ho,rfl⟩ ⟨_,ho2,rfl⟩ noFill_tuple_add seq_tuple_add PySem.F.slot_tuple_add PySem.F.entry_tuple_add (PySem.F.args_tuple_add_2 _ _)
  (tuple_addW2 t b vs.toArray ws.toArray n n2 dd dd2 sl sl2 (by simpa using hv) (by simpa using hw) (by rw[size_toArray,size_toArray];exact hsz)) ⟨ho,ho2,?_⟩
 rw[e];exact h2 hw
noncomputable def sIx (n d:Nat):Option Int->Nat
 | none=>d
 | some v=>if v<0 then (v+(n:Int)).toNat else min v.toNat n
theorem RW (n d:Nat)(hd:d<=n)(o:Option Int):sIx n d o<=n:=by
 cases o with
 | none=>exact hd
 | some v=>
  show(if v<0 then (v+(n:Int)).toNat else min v.toNat n)<=n;by_cases hv:v<0
  ·rw[if_pos hv];omega
  rw[if_neg hv];exact Nat.min_le_right _ _
theorem Gy (v:Int)(n d:Nat):(if v<0 then max (v+(n:Int)) 0 else min v (n:Int))=((sIx n d (some v):Nat):Int):=by
 show(if v<0 then max (v+(n:Int)) 0 else min v (n:Int))=(((if v<0 then (v+(n:Int)).toNat else min v.toNat n):Nat):Int);by_cases hv:v<0
 ·simp only[if_pos hv];omega
 simp only[if_neg hv];omega
theorem Er (lo hi:Option Int)(n:Nat):Builtin.Slice.sliceAdjust lo hi 1 (n:Int)=(((sIx n 0 lo:Nat):Int),((sIx n n hi:Nat):Int)):=by
 have h1:¬((1:Int)<0):=ω;unfold Builtin.Slice.sliceAdjust;simp only[h1,if_false];refine Prod.ext ?_ ?_
 ·cases lo with
  | none=>rfl
  | some v=>exact Gy v n 0
 cases hi with
 | none=>rfl
 | some v=>exact Gy v n n
theorem Dp (i j:Nat):Builtin.Slice.slicePlaces (i:Int) (j:Int) 1=j-i:=by
 unfold Builtin.Slice.slicePlaces;have h1:(1:Int)>0:=ω;simp only[h1,if_true,Int.ediv_one];split <;> omega
theorem uQ {v:Value}{o:Option Int}{Q:Option Int->Shared->Prop}(p:IsPart v o)(h:Q o s):wpAny (model prog w) A (Builtin.Slice.slicePartIndex v) Q E s:=by
 cases p with
 | none=>exact slicePart_none h
 | int i t=>exact slicePart_int h
theorem rJ {sl:Addr}{vl vu:Value}{lo hi:Option Int}{n:Nat}{Q:Int×Int×Nat->Shared->Prop}(hs:s.heap.IsSliceOf sl vl vu .none)(pl:IsPart vl lo)(pu:IsPart vu hi)
  (h:Q (((sIx n 0 lo:Nat):Int),1,sIx n n hi-sIx n 0 lo) s):wpAny (model prog w) A (Builtin.Slice.sliceApplied (.ref sl) (pure (n:Int))) Q E s:=by
 obtain⟨os,hos,hcs,hds⟩:=id hs;unfold Builtin.Slice.sliceApplied Builtin.Slice.sliceFields;refine wpAny_bind (wpAny_bind (wpAny_field hos hds (x:=vl) rfl (wpAny_bind (wpAny_field hos hds (x:=vu) rfl (wpAny_bind (wpAny_field hos hds (x:=.none) rfl (wpAny_pure ?_)))))));refine wpAny_bind (slicePart_none ?_);show wpAny _ _ (if ((1:Int) == 0)=true then _ else _) _ _ s;rw[if_neg δ];refine wpAny_bind (uQ pl (wpAny_bind (uQ pu (wpAny_bind (wpAny_pure ?_)))));show wpAny _ _ (match Builtin.Slice.sliceAdjust lo hi 1 (n:Int) with|(lo,hi)=>pure (lo,(1:Int),Builtin.Slice.slicePlaces lo hi 1)) _ _ s
 rw[Er lo hi n];show wpAny _ _ (pure (((sIx n 0 lo:Nat):Int),(1:Int),Builtin.Slice.slicePlaces ((sIx n 0 lo:Nat):Int) ((sIx n n hi:Nat):Int) 1)) _ _ s;rw[Dp];exact wpAny_pure h
theorem Ks (xs:Array Value)(i k:Nat):((List.range k).filterMap fun(m:Nat)=>xs[((i:Int)+(m:Int)*1).toNat]?).toArray=((xs.toList.drop i).take k).toArray:=by
 have e:(fun(m:Nat)=>xs[((i:Int)+(m:Int)*1).toNat]?)=fun m=>xs[i+m]?:=by
  funext m;have:((i:Int)+(m:Int)*1).toNat=i+m:=by omega
  rw[this]
 rw[e];have:=pick_run xs i k;rw[filterMap_map] at this;have e2:((fun x=>xs[x]?)∘fun x=>i+x)=fun m=>xs[i+m]?:=rfl;rw[e2] at this;rw[this]
theorem qL {t sl:Addr}{items:Array Value}{vl vu:Value}{lo hi:Option Int}{Q:Value->Shared->Prop}(ht:IsTup s.heap t items)(hs:s.heap.IsSliceOf sl vl vu .none)(pl:IsPart vl lo)(pu:IsPart vu hi)
  (hw:¬(sIx items.size 0 lo=0/\sIx items.size items.size hi=items.size))
  (h:Q (.ref s.heap.objs.size) { s with heap:=s.heap.push { cls:=.type "tuple",data:=.seq ((items.toList.drop (sIx items.size 0 lo)).take (sIx items.size items.size hi-sIx items.size 0 lo)).toArray } })
  (hsz:items.size<=sizeLine):wpAny (model prog w) A (getItem (.ref t) (.ref sl)) Q E s:=by
 have htake:sizeOk (.seq ((items.toList.drop (sIx items.size 0 lo)).take (sIx items.size items.size hi-sIx items.size 0 lo)).toArray):=by
  show((items.toList.drop (sIx items.size 0 lo)).take (sIx items.size items.size hi-sIx items.size 0 lo)).toArray.size<=sizeLine;rw[size_toArray,length_take,length_drop,length_toList];omega
 have hj:sIx items.size items.size hi<=items.size:=RW _ _ (le_refl _) hi;obtain⟨os,hos,hcs,hds⟩:=id hs;have hTs:s.TypeIs (.ref sl) "slice" := ⟨os,hos,hcs⟩;unfold getItem
 try with_reducible refine wpAny_holding ?_
 first|refine wpAny_bind (wpAny_pure ?_)|skip
 refine wpAny_bind (wpAny_sequenceKey ht.typeIs δ ?_);refine wpAny_bind (wpAny_callSpecial?_slot (name:=Str.ofString "__getitem__") ht.typeIs PyProof.Rows.slot_tuple_getitem
  (wpAny_call_entry PyProof.Rows.slot_tuple_getitem ht.typeIs entry_tuple_getitem ?_ (args_tuple_getitem _ _)))
 show wpAny _ _ (Builtin.Tuple.tupleItemsOf (.ref t) >>= _) _ _ s;refine wpAny_bind (tupleItemsOf_ ht ?_);refine wpAny_bind (wpAny_typeOf hTs ?_);rw[if_pos δ];refine wpAny_bind (rJ hs pl pu ?_);have hno:¬((((sIx items.size 0 lo:Nat):Int) == 0&&(1:Int) == 1&&(sIx items.size items.size hi-sIx items.size 0 lo) == items.size)=true):=by
  intro q;rw[and_eq_true,and_eq_true] at q;have q1:((sIx items.size 0 lo:Nat):Int)=0:=eq_of_beq q.1.1;have q2:sIx items.size items.size hi-sIx items.size 0 lo=items.size:=eq_of_beq q.2;exact hw ⟨ω,ω⟩
 show wpAny _ _ (if (((sIx items.size 0 lo:Nat):Int) == 0&&(1:Int) == 1&&(sIx items.size items.size hi-sIx items.size 0 lo) == items.size)=true then _ else _) _ _ s;rw[if_neg hno,Ks]
 first
  | exact wpAny_bind (m:=Builtin.Tuple.tupleExact _) (wpAny_newObj_type (wpAny_pure ⟨_,rfl,wpAny_pure h⟩) htake)
  | exact wpAny_bind (m:=Builtin.Tuple.tupleExact _) (wpAny_newObj_type (wpAny_bind (wpAny_pure (wpAny_pure ⟨_,rfl,wpAny_pure h⟩))) htake)
  | exact wpAny_bind (wpAny_bind (m:=Builtin.Tuple.tupleExact _) (wpAny_newObj_type (wpAny_pure (wpAny_pure ⟨_,rfl,wpAny_pure h⟩)) htake))
  | exact wpAny_bind (wpAny_bind (m:=Builtin.Tuple.tupleExact _) (wpAny_newObj_type (wpAny_pure ⟨_,rfl,wpAny_pure h⟩) htake))
end
end HT
namespace L2
open PySem PySem.Spec PyProof.Rows
noncomputable abbrev TO:=St->Hp->(Option Int->Hp->Prop)->Prop
noncomputable def PO (X:Cx)(e:Option Expr)(t:TO):Prop:=
 ∀(pins:List (Addr×Obj)) (s:Shared) (σ:St) (H:Hp) (Q:Option Int->Hp->Prop),Inv X pins σ H s->t σ H Q ->
  wpAny (model X.prog X.w) X.A (evalPart e X.env) (fun u s'=>∃o H',Inv X pins σ H' s'/\IsPart u o/\Q o H') X.xe s
noncomputable def nM:TO:=fun _ H Q=>Q none H
noncomputable def uM (t:TE):TO:=fun σ H Q=>t σ H fun x H1=>∃i,x=.int i/\Q (some i) H1
section
variable {X:Cx}{e:Expr}{te:TE}{lo hi:Option Expr}{tl th:TO}{pos p2:Pos}
theorem O7:PO X none nM:=by
 intro pins s σ H Q I h;rw[evalPart_none];exact wpAny_pure ⟨none,H,I,.none,h⟩
theorem Fy (h:PE X e te):PO X (some e) (uM te):=by
 intro pins s σ H Q I hw;rw[evalPart_some];refine thE (h pins s σ H _ I hw) fun u s1 x H1 I1 r1 q1=>?_;obtain⟨i,rfl,q⟩:=q1;obtain⟨t,rfl⟩:=r1;exact⟨some i,H1,I1,.int i t,q⟩
noncomputable def SlR (X:Cx)(r:V->Option Int->Option Int->Hp->VK->Prop):Prop:=
 ∀(pins:List (Addr×Obj)) (s:Shared) (σ:St) (H:Hp) (x:V) (v vl vu:Value) (lo hi:Option Int) (sl:Addr) (Q:VK),Inv X pins σ H s->RelV x v->s.heap.IsSliceOf sl vl vu .none->IsPart vl lo->IsPart vu hi->r x lo hi H Q ->
  ∃T id,typeLookup (.type T) "__getitem__" = pure (some (.builtin id))/\s.TypeIs v T/\wpAny (model X.prog X.w) X.A (getItem v (.ref sl)) (EP X pins σ Q) X.xe s
noncomputable def tSl (r:V->Option Int->Option Int->Hp->VK->Prop)(te:TE)(tl th:TO):TE:=fun σ H Q=>te σ H fun x H1=>tl σ H1 fun l H2=>th σ H2 fun u H3=>r x l u H3 Q
theorem Ky {r:V->Option Int->Option Int->Hp->VK->Prop}(hr:SlR X r)(he:PE X e te)(hl:PO X lo tl)(hu:PO X hi th):PE X (.Subscript e (.Slice lo hi none p2) pos) (tSl r te tl th):=by
 intro pins s σ H Q I h;refine Subscript_ (thE (he pins s σ H _ I h) fun v s1 x H1 I1 r1 q1=>?_);refine wpAny_Slice (thn (hl pins s1 σ H1 _ I1 q1) fun vl s2 ⟨l,H2,I2,pl,q2⟩=>thn (hu pins s2 σ H2 _ I2 q2) fun vu s3 ⟨u,H3,I3,pu,q3⟩=>?_);rw[evalPart_none];refine wpAny_pure ?_;have I4:Inv X pins σ H3 { s3 with heap:=s3.heap.push { cls:=.type "slice",data:=.fields #[vl,vu,.none] } }:=I3.kept (t':=s3.toks) fun b ob q=>get?_push_of_some _ q;obtain⟨T,id,hT,ht,hg⟩:=hr pins { s3 with heap:=s3.heap.push { cls:=.type "slice",data:=.fields #[vl,vu,.none] } } σ H3 x v vl vu l u s3.heap.objs.size Q I4 r1 (Heap.IsSliceOf.new ..) pl pu q3;show wpAny (model X.prog X.w) X.A (subscriptTail e (.Slice lo hi none p2) v (.ref s3.heap.objs.size)) (EP X pins σ Q) X.xe { s3 with heap:=s3.heap.push { cls:=.type "slice",data:=.fields #[vl,vu,.none] } };exact tail_any (ops:=[.ref s3.heap.objs.size,v]) ht hT hg (by with_unfolding_all rfl)
noncomputable def lG (xs:List V)(lo hi:Option Int):List V:=(xs.drop (HT.sIx xs.length 0 lo)).take (HT.sIx xs.length xs.length hi-HT.sIx xs.length 0 lo)
theorem nA (xs:List V)(lo hi:Option Int):(lG xs lo hi).length<=xs.length:=by
 unfold lG;rw[length_take,length_drop];omega
noncomputable def V3 (K:PySem.W.Frag):V->Option Int->Option Int->Hp->VK->Prop:=fun x lo hi H Q=>∃a xs,x=.ref a/\SqT K H a xs /\
 ¬(HT.sIx xs.length 0 lo=0/\HT.sIx xs.length xs.length hi=xs.length)/\∀p,H p=none->Q (.ref p) (upd H p (.tup (lG xs lo hi)))
theorem RQ:SlR X (V3 X.K):=by
 intro pins s σ H x v vl vu lo hi sl Q I rx hs pl pu h;obtain⟨a,xs,rfl,hx,hw,q⟩:=h;cases rx;obtain⟨its,r,ht,hz⟩:=I.tuple hx;have hlen:its.toArray.size=xs.length:=by rw[size_toArray];exact r.length.symm
 refine⟨"tuple",_,PyProof.Rows.slot_tuple_getitem.lookup,ht.typeIs,?_⟩;refine HT.qL ht hs pl pu (by rw[hlen];exact hw) ?_ (by rw[hlen];exact hz);rw[hlen];refine⟨.ref s.heap.objs.size,_,I.laid (t':=s.toks) (o:=.tup (lG xs lo hi)) (fun b ob q=>get?_push_of_some _ q) (le_refl _) ?_,rfl,q _ (I.hok.fresh (le_refl _))⟩;exact⟨le_trans (nA xs lo hi) hz,_,(r.drop (HT.sIx xs.length 0 lo)).take (HT.sIx xs.length xs.length hi-HT.sIx xs.length 0 lo),IsTup.new _ _⟩
noncomputable def Vf (K:PySem.W.Frag):R2:=fun x y H Q=>∃a b xs ys,x=.ref a/\y=.ref b/\SqT K H a xs/\SqT K H b ys/\xs≠[]/\xs.length+ys.length<=sizeLine /\
 (ys=[]->Q (.ref a) H)/\(ys≠[]->∀p,H p=none->Q (.ref p) (upd H p (.tup (xs++ys))))
theorem Vals.yV {xs:List V}{us:List Value}(r:Vals xs us):us=[]↔xs=[]:=by
 cases r with
 | nil=>simp
 | cons _ _=>simp
theorem PN:OpR X (binaryOp .Add) (Vf X.K):=by
 intro pins s σ H x y v u Q I rx ry h;obtain⟨a,b,xs,ys,rfl,rfl,ha,hb,hx,hz,q1,q2⟩:=h;cases rx;cases ry;obtain⟨its,r1,p1,_⟩:=I.tuple ha;obtain⟨its2,r2,p2,_⟩:=I.tuple hb;refine HT.Q8 p1 p2 (fun z=>hx (r1.yV.mp z)) (fun z=>⟨.ref a,H,I,rfl,q1 (r2.yV.mp z)⟩) (fun z=>?_) (by rw[<- r1.length,<- r2.length];exact hz);refine⟨.ref s.heap.objs.size,_,I.laid (t':=s.toks) (o:=.tup (xs++ys)) (fun b ob q=>get?_push_of_some _ q) (le_refl _) ?_,rfl,q2 (fun w=>z (r2.yV.mpr w)) _ (I.hok.fresh (le_refl _))⟩;exact⟨by rw[length_append];exact hz,_,r1.append r2,IsTup.new _ _⟩
end
noncomputable def ixN (n:Nat)(i:Int):Option Nat:=if 0<=i then (if i<n then some i.toNat else none) else if -(n:Int)<=i then some (i+n).toNat else none
noncomputable def atI {α:Type}(xs:List α)(i:Int):Option α:=(ixN xs.length i).bind fun j=>xs[j]?
theorem Gg {n:Nat}{i:Int}{j:Nat}(h:ixN n i=some j):seqIndex? i n=some j/\j<n/\-(n:Int)<=i/\i<n:=by
 unfold ixN at h;by_cases h0:0<=i
 ·rw[if_pos h0] at h;by_cases h1:i<n
  ·rw[if_pos h1] at h;have e:i.toNat=j:=Option.some.inj h;exact⟨by rw[seqIndex_of h0 h1,e],ω,ω,h1⟩
  rw[if_neg h1] at h;cases h
 rw[if_neg h0] at h;by_cases h1:-(n:Int)<=i
 ·rw[if_pos h1] at h;have e:(i+n).toNat=j:=Option.some.inj h;exact⟨by rw[seqIndex_neg ω h1,e],ω,h1,ω⟩
 rw[if_neg h1] at h;cases h
theorem Ab {α:Type}{xs:List α}{i:Int}{v:α}(h:atI xs i=some v):∃j,seqIndex? i xs.length=some j/\xs[j]?=some v/\j<xs.length/\-(xs.length:Int)<=i/\i<xs.length:=by
 unfold atI at h;cases e:ixN xs.length i with
 | none=>rw[e] at h;cases h
 | some j=>
  rw[e] at h;obtain⟨h1,h2,h3,h4⟩:=Gg e;exact⟨j,h1,h,h2,h3,h4⟩
theorem dw {α:Type}{xs:List α}{j:Nat}{v:α}(h:xs[j]?=some v):atI xs (j:Int)=some v:=by
 have hj:j<xs.length:=(List.getElem?_eq_some_iff.mp h).1;have e:ixN xs.length (j:Int)=some j:=by
  unfold ixN;rw[if_pos ω,if_pos ω];simp
 unfold atI;rw[e];exact h
noncomputable def GF (b:Expr):Prop:=∀o i,subscripted b false o i=operate [o,i] (getItem o i)
noncomputable def IxR (X:Cx)(r:R2):Prop:=
 ∀(value slice:Expr)(pins:List (Addr×Obj)) (s:Shared) (σ:St) (H:Hp) (x y:V) (v u:Value) (Q:VK),Inv X pins σ H s->RelV x v->RelV y u->r x y H Q ->
  subscripted slice false v u=operate [v,u] (getItem v u)->wpAny (model X.prog X.w) X.A (subscriptTail value slice v u) (EP X pins σ Q) X.xe s
section
variable {X:Cx}{a b:Expr}{ta tb:TE}{pos:Pos}
theorem Vl {r:R2}(hr:IxR X r)(ha:PE X a ta)(hb:PE X b tb)(hs:GF b):PE X (.Subscript a b pos) (tOp r ta tb):=by
 intro pins s σ H Q I h;exact Subscript_ (UL ha hb I h fun v u s2 x y H2 I2 rx ry q=>hr a b pins s2 σ H2 x y v u Q I2 rx ry q (hs _ _))
noncomputable def Vd (K:PySem.W.Frag):R2:=fun x y H Q=>∃p xs i v,x=.ref p/\y=.int i/\SqL K H p xs/\atI xs i=some v/\Q v H
noncomputable def V7 (K:PySem.W.Frag):R2:=fun x y H Q=>∃p xs i v,x=.ref p/\y=.int i/\SqT K H p xs/\atI xs i=some v/\Q v H
noncomputable def V8:R2:=fun x y H Q=>∃z i c,x=.str z/\y=.int i/\z.length<=sizeLine/\atI z.cps.toList i=some c/\Q (.str ⟨#[c]⟩) H
theorem Gf:IxR X (Vd X.K):=by
 intro value slice pins s σ H x y v u Q I rx ry h hs;obtain⟨p,xs,i,z,rfl,rfl,hq,he,q⟩:=h;cases rx;obtain⟨t,rfl⟩:=ry;obtain⟨its,r,pl,hz⟩:=I.list hq;obtain⟨j,h1,h2,h3,h4,h5⟩:=Ab he;obtain⟨w,ew,rw'⟩:=r.get h2;have hl:=r.length;have hn:=pJ;have fin:EP X pins σ Q w s:=⟨z,H,I,rw',q⟩;by_cases h0:0<=i
 ·have hj:i.toNat=j:=by
   rw[seqIndex_of h0 h5] at h1;exact Option.some.inj h1
  exact item_listR pl.isList h0 ω (by rw[hj];simpa using ew) fin hs
 have hj:(i+(its.toArray.size:Int)).toNat=j:=by
  rw[seqIndex_neg ω h4] at h1;rw[size_toArray,<- hl];exact Option.some.inj h1
 exact subscriptTail_builtinR (x:=w) pl.isList.typeIs slot_list_getitem.lookup
  (wpAny_getItem_list_neg (Q:=fun r s'=>r=w/\EP X pins σ Q r s') pl.isList ω (by rw[size_toArray] <;> omega) ω (by rw[hj];simpa using ew) ⟨rfl,fin⟩) hs
theorem Uq:IxR X (V7 X.K):=by
 intro value slice pins s σ H x y v u Q I rx ry h hs;obtain⟨p,xs,i,z,rfl,rfl,hq,he,q⟩:=h;cases rx;obtain⟨t,rfl⟩:=ry;obtain⟨its,r,pl,hz⟩:=I.tuple hq;obtain⟨j,h1,h2,h3,h4,h5⟩:=Ab he;obtain⟨w,ew,rw'⟩:=r.get h2;have hl:=r.length;have hn:=pJ;have fin:EP X pins σ Q w s:=⟨z,H,I,rw',q⟩;exact subscriptTail_builtinR (x:=w) pl.typeIs slot_tuple_getitem.lookup
  (getItem_tuple (j:=j) (Q:=fun r s'=>r=w/\EP X pins σ Q r s') pl ω ω (by rw[size_toArray,<- hl];exact h1) (by simpa using ew) ⟨rfl,fin⟩) hs
theorem Ur:IxR X V8:=by
 intro value slice pins s σ H x y v u Q I rx ry h hs;obtain⟨z,i,c,rfl,rfl,hz,he,q⟩:=h;obtain⟨t,rfl⟩:=rx;obtain⟨t',rfl⟩:=ry;obtain⟨j,h1,h2,h3,h4,h5⟩:=Ab he;have hl:z.cps.toList.length=z.length:=by simp [Str.length]
 rw[hl] at h1 h4 h5;have hn:=pJ;exact tail_any (typeIs_str s z t) slot_str_getitem.lookup (getItem_str (c:=c) (by
  have e1:decide (i < -(2^63:Int))=false:=decide_eq_false ω;have e2:decide (i≥2^63)=false:=decide_eq_false ω;rw[e1,e2,Bool.or_false]) (by rw[h1];simpa using h2) ⟨.str ⟨#[c]⟩,H,I.tok _,⟨_,rfl⟩,q⟩) hs
theorem Dy (its:List Value) (n j:Nat) (u:Value):Obj.mapSeq (·.setIfInBounds j u) { cls:=.type "list",data:=.seq its.toArray n }={ cls:=.type "list",data:=.seq (its.set j u).toArray n }:=by
 simp [Obj.mapSeq]
theorem Inv.lst {pins:List (Addr×Obj)}{σ:St}{H:Hp}{s:Shared}{p:Addr}{xs:List V}(I:Inv X pins σ H s)(h:H p=some (.lst xs)) :
  ∃(its:List Value)(n:Nat),Vals xs its/\s.heap.get? p=some { cls:=.type "list",data:=.seq its.toArray n }/\xs.length<=sizeLine:=by
 obtain⟨z,its,n,r,e⟩:=I.hok p _ h;exact⟨its,n,r,e,z⟩
theorem Inv.Ud {pins:List (Addr×Obj)}{σ:St}{H:Hp}{s:Shared}{p:Addr}{xs ys:List V}{its its':List Value}{n n':Nat}{f:Obj->Obj}(I:Inv X pins σ H s)(h:H p=some (.lst xs))
  (ho:s.heap.get? p=some { cls:=.type "list",data:=.seq its.toArray n }) (hf:f { cls:=.type "list",data:=.seq its.toArray n }={ cls:=.type "list",data:=.seq its'.toArray n' }) (r:Vals ys its') (hz:ys.length<=sizeLine) (t:Nat) :
  Inv X pins σ (upd H p (.lst ys)) { s with heap:=s.heap.update p f,toks:=t }:=by
 have e:(s.heap.update p f).get? p=some { cls:=.type "list",data:=.seq its'.toArray n' }:=by
  rw[Heap.get?_update_self f ho (by rw[hf] <;> rfl),hf]
 refine I.write (x:=p) (e:=p) (by rw[h];trivial) (.inl rfl) (fun b u hb q=>(get?_update_other _ _ (Ne.symm hb)).trans q) ⟨_,e⟩ ?_;exact⟨hz,its',n',r,e⟩
noncomputable def Vb:V->V->V->Hp->(Hp->Prop)->Prop:=fun o i v H Q=>∃p xs k j,o=.ref p/\i=.int k/\H p=some (.lst xs)/\ixN xs.length k=some j/\Q (upd H p (.lst (xs.set j v)))
theorem set_list:Jk X Vb:=by
 intro pins s σ H o i v ov iv u Q I ro ri rv h;obtain⟨p,xs,k,j,rfl,rfl,hp,hj,q⟩:=h;cases ro;obtain⟨t,rfl⟩:=ri;obtain⟨its,n,r,ho,hz⟩:=I.lst hp;obtain⟨h1,h2,h3,h4⟩:=Gg hj;have hl:=r.length;have hn:=pJ;have I':Inv X pins σ (upd H p (.lst (xs.set j v))) { s with heap:=s.heap.update p (Obj.mapSeq (·.setIfInBounds j u)) }:=
  I.Ud hp ho (Dy its n j u) (r.set rv j) (by rw[length_set];exact hz) s.toks
 by_cases h0:0<=k
 ·have hk:k.toNat=j:=by
   rw[seqIndex_of h0 h4] at h1;exact Option.some.inj h1
  exact PySem.W.ki_setAt ho h0 ω (by rw[size_toArray,<- hl];exact h4) (by rw[hk];exact⟨_,I',q⟩)
 have hk:(k+(its.toArray.size:Int)).toNat=j:=by
  rw[seqIndex_neg ω h3] at h1;rw[size_toArray,<- hl];exact Option.some.inj h1
 exact PySem.W.ki_setBack ho ω (by rw[size_toArray,<- hl];exact h3) ω (by rw[hk];exact⟨_,I',q⟩)
theorem yu (lo hi:Option Int)(n:Nat):(sliceBounds lo hi none n).1=((HT.sIx n 0 lo:Nat):Int)/\(sliceBounds lo hi none n).2.1=((HT.sIx n n hi:Nat):Int)/\(sliceBounds lo hi none n).2.2=1:=by
 refine⟨?_,?_,rfl⟩
 ·cases lo with
  | none=>simp [sliceBounds,HT.sIx]
  | some i=>
   simp only[sliceBounds,HT.sIx,getD_none,show(1:Int)>0 by decide,if_true];by_cases h:i<0
   ·simp only[h,if_true] <;> omega
   simp only[h,if_false] <;> omega
 cases hi with
 | none=>simp [sliceBounds,HT.sIx]
 | some i=>
  simp only[sliceBounds,HT.sIx,getD_none,show(1:Int)>0 by decide,if_true];by_cases h:i<0
  ·simp only[h,if_true] <;> omega
  simp only[h,if_false] <;> omega
theorem v8 (its:List Value)(lo hi:Option Int):slicePick its.toArray lo hi none=((its.drop (HT.sIx its.length 0 lo)).take (HT.sIx its.length its.length hi-HT.sIx its.length 0 lo)).toArray:=by
 obtain⟨h1,h2,h3⟩:=yu lo hi its.toArray.size;unfold slicePick;rw[h1,h2,h3];simp only[sliceRange_one,pick_run,size_toArray] <;> rfl
noncomputable def V4 (K:PySem.W.Frag):V->Option Int->Option Int->Hp->VK->Prop:=fun x lo hi H Q=>∃a xs,x=.ref a/\SqL K H a xs/\∀p,H p=none->Q (.ref p) (upd H p (.lst (lG xs lo hi)))
theorem N5:SlR X (V4 X.K):=by
 intro pins s σ H x v vl vu lo hi sl Q I rx hs pl pu h;obtain⟨a,xs,rfl,hx,q⟩:=h;cases rx;obtain⟨its,r,ht,hz⟩:=I.list hx;have hlen:=r.length;refine⟨"list",_,slot_list_getitem.lookup,ht.isList.typeIs,?_⟩;refine wpAny_getItem_list_slice ht.isList hs pl pu .none (by simp) ?_ (by rw[size_toArray] <;> omega)
 rw[v8,<- hlen];refine⟨.ref s.heap.objs.size,_,I.laid (t':=s.toks) (o:=.lst (lG xs lo hi)) (fun b ob q=>get?_push_of_some _ q) (le_refl _) ?_,rfl,q _ (I.hok.fresh (le_refl _))⟩;exact⟨le_trans (nA xs lo hi) hz,_,0,(r.drop (HT.sIx xs.length 0 lo)).take (HT.sIx xs.length xs.length hi-HT.sIx xs.length 0 lo),get?_push_size _ rfl⟩
noncomputable def gh:V->Bool
 | .non=>true
 | .bl _=>true
 | .int _=>true
 | .str _=>true
 | _=>false
noncomputable def eqV:V->V->Bool
 | .non,.non=>true
 | .bl a,.bl b=>a == b
 | .bl a,.int b=>(if a then 1 else 0) == b
 | .int a,.bl b=>a == (if b then 1 else 0)
 | .int a,.int b=>a == b
 | .str a,.str b=>a == b
 | _,_=>false
theorem Mx {A:Around}{s:Shared}{y x:V}{u v:Value}(ry:RelV y u)(rx:RelV x v)(fy:gh y=true)(fx:gh x=true):SeqAt.EqAt A s u v (eqV y x):=by
 cases y with
 | non=>
  cases ry;cases x with
  | non=>cases rx;exact SeqAt.EqAt.same _
  | bl b=>cases rx;exact SeqAt.EqAt.none_bool b
  | int b=>obtain⟨t,rfl⟩:=rx;exact SeqAt.EqAt.none_int b t
  | str b=>obtain⟨t,rfl⟩:=rx;exact SeqAt.EqAt.none_str b t
  | _=>exact absurd (show false=true from fx) Bool.false_ne_true
 | bl a=>
  cases ry;cases x with
  | non=>cases rx;exact SeqAt.EqAt.bool_none a
  | bl b=>cases rx;exact SeqAt.EqAt.bool_bool a b
  | int b=>obtain⟨t,rfl⟩:=rx;exact SeqAt.EqAt.bool_int a b t
  | str b=>obtain⟨t,rfl⟩:=rx;exact SeqAt.EqAt.bool_str a b t
  | _=>exact absurd (show false=true from fx) Bool.false_ne_true
 | int a=>
  obtain⟨t',rfl⟩:=ry;cases x with
  | non=>cases rx;exact SeqAt.EqAt.int_none a t'
  | bl b=>cases rx;exact SeqAt.EqAt.int_bool a t' b
  | int b=>obtain⟨t,rfl⟩:=rx;exact SeqAt.EqAt.int_int a t' b t
  | str b=>obtain⟨t,rfl⟩:=rx;exact SeqAt.EqAt.int_str a t' b t
  | _=>exact absurd (show false=true from fx) Bool.false_ne_true
 | str a=>
  obtain⟨t',rfl⟩:=ry;cases x with
  | non=>cases rx;exact SeqAt.EqAt.str_none a t'
  | bl b=>cases rx;exact SeqAt.EqAt.str_bool a t' b
  | int b=>obtain⟨t,rfl⟩:=rx;exact SeqAt.EqAt.str_int a t' b t
  | str b=>obtain⟨t,rfl⟩:=rx;exact SeqAt.EqAt.str_str a t' b t
  | _=>exact absurd (show false=true from fx) Bool.false_ne_true
 | _=>exact absurd (show false=true from fy) Bool.false_ne_true
noncomputable def eqU (x:V)(u:Value):Bool:=match u with
 | .none=>eqV .non x
 | .bool b=>eqV (.bl b) x
 | .int i _=>eqV (.int i) x
 | .str z _=>eqV (.str z) x
 | _=>false
theorem Mw {x y:V}{u:Value}(r:RelV y u)(f:gh y=true):eqU x u=eqV y x:=by
 cases y with
 | non=>cases r;rfl
 | bl b=>cases r;rfl
 | int i=>obtain⟨t,rfl⟩:=r;rfl
 | str z=>obtain⟨t,rfl⟩:=r;rfl
 | _=>exact absurd (show false=true from f) Bool.false_ne_true
theorem rA {x:V}:∀{xs:List V}{us:List Value},Vals xs us->xs.all gh=true->us.any (eqU x)=xs.any fun y=>eqV y x
 | _,_,.nil,_=>rfl
 | y::xs,u::us,.cons r t,f=>by
  rw[all_cons,and_eq_true] at f;rw[any_cons,any_cons,Mw r f.1,rA t f.2]
theorem m9 {A:Around}{s:Shared}{x:V}{v:Value}(rx:RelV x v)(fx:gh x=true):∀{xs:List V}{us:List Value},Vals xs us->xs.all gh=true->∀u∈us,SeqAt.EqAt A s u v (eqU x u)
 | _,_,.nil,_=>fun u hu=>by cases hu
 | y::xs,u::us,.cons r t,f=>fun u' hu=>by
  rw[all_cons,and_eq_true] at f;rcases mem_cons.mp hu with rfl|hu
  ·rw[Mw r f.1];exact Mx r rx f.1 fx
  exact m9 rx fx t f.2 u' hu
noncomputable def inV (x:V)(xs:List V):Bool:=xs.any fun y=>eqV y x
noncomputable def rIn (K:PySem.W.Frag)(neg:Bool):R2:=fun x y H Q=>∃p xs,y=.ref p/\(SqL K H p xs\/SqT K H p xs)/\gh x=true/\xs.all gh=true/\Q (.bl (if neg then !inV x xs else inV x xs)) H
theorem Ht:OpR X (compareOp .In) (rIn X.K false):=by
 intro pins s σ H x y v u Q I rx ry h;obtain⟨p,xs,rfl,hq,fx,fs,q⟩:=h;cases ry;rcases hq with hq|hq
 ·obtain⟨its,r,pl,hz⟩:=I.list hq;refine SeqAt.in_listAt (eqU x) pl.isList (fun w hw=>m9 rx fx r fs w (by simpa using hw)) ⟨.bl _,H,I,rfl,?_⟩;rw[show its.toArray.any (eqU x)=its.any (eqU x) by simp,rA r fs];exact q
 obtain⟨its,r,pl,hz⟩:=I.tuple hq;refine SeqAt.in_tupleAt (eqU x) pl (fun w hw=>m9 rx fx r fs w (by simpa using hw)) ⟨.bl _,H,I,rfl,?_⟩;rw[show its.toArray.any (eqU x)=its.any (eqU x) by simp,rA r fs];exact q
theorem yR:OpR X (compareOp .NotIn) (rIn X.K true):=by
 intro pins s σ H x y v u Q I rx ry h;obtain⟨p,xs,rfl,hq,fx,fs,q⟩:=h;cases ry;rcases hq with hq|hq
 ·obtain⟨its,r,pl,hz⟩:=I.list hq;refine SeqAt.notIn_listAt (eqU x) pl.isList (fun w hw=>m9 rx fx r fs w (by simpa using hw)) ⟨.bl _,H,I,rfl,?_⟩;rw[show its.toArray.any (eqU x)=its.any (eqU x) by simp,rA r fs];exact q
 obtain⟨its,r,pl,hz⟩:=I.tuple hq;refine SeqAt.notIn_tupleAt (eqU x) pl (fun w hw=>m9 rx fx r fs w (by simpa using hw)) ⟨.bl _,H,I,rfl,?_⟩;rw[show its.toArray.any (eqU x)=its.any (eqU x) by simp,rA r fs];exact q
theorem jw:dJ X (.builtin "len") (fun xs H Q=>∃p ys,xs=[.ref p]/\(SqL X.K H p ys\/SqT X.K H p ys)/\Q (.int ys.length) H):=by
 intro pins s σ H xs us Q I r h;obtain⟨p,ys,rfl,hq,q⟩:=h;obtain⟨u,rfl,rx⟩:=vals1 r;cases rx;have hn:=pJ;rcases hq with hq|hq
 ·obtain⟨its,r',pl,hz⟩:=I.list hq;have hlen:=r'.length;exact Calls.call_len_list pl.isList (by simp only[size_toArray] <;> omega) ⟨.int ys.length,H,I.tok _,⟨s.toks+1,by rw[size_toArray,hlen]⟩,q⟩
 obtain⟨its,r',pl,hz⟩:=I.tuple hq;have hlen:=r'.length;exact len_tuple pl (by simp only[size_toArray] <;> omega) ⟨.int ys.length,H,I.tok _,⟨s.toks+1,by rw[size_toArray,hlen]⟩,q⟩
theorem zV:dJ X (.builtin "len") (fun xs H Q=>∃z,xs=[.str z]/\z.length<=sizeLine/\Q (.int z.length) H):=by
 intro pins s σ H xs us Q I r h;obtain⟨z,rfl,hz,q⟩:=h;obtain⟨u,rfl,t,rfl⟩:=vals1 r;have hn:=pJ;exact len_str ω ⟨.int z.length,H,I.tok _,⟨_,rfl⟩,q⟩
theorem gB:dJ X (.type "list") (fun xs H Q=>∃p ys,xs=[.ref p]/\(SqL X.K H p ys\/SqT X.K H p ys)/\∀l,H l=none->Q (.ref l) (upd H l (.lst ys))):=by
 intro pins s σ H xs us Q I r h;obtain⟨p,ys,rfl,hq,q⟩:=h;obtain⟨u,rfl,rx⟩:=vals1 r;cases rx;have fin:∀(its:List Value),Vals ys its->ys.length<=sizeLine->∀(h':Heap)(c':Nat),(∀b o',s.heap.get? b=some o'->h'.get? b=some o') ->
   h'.get? s.heap.objs.size=some { cls:=.type "list",dict:=none,data:=.seq its.toArray c',slots:=#[] }->EP X pins σ Q (.ref s.heap.objs.size) { s with heap:=h' }:=fun its r' hz h' c' kp e=>
  ⟨.ref s.heap.objs.size,_,I.laid (t':=s.toks) kp (le_refl _) (show dh X.prog X.w _ h' _ (.lst ys) from⟨hz,its,c',r',e⟩),rfl,q _ (I.hok.fresh (le_refl _))⟩
 rcases hq with hq|hq
 ·obtain⟨its,r',pl,hz⟩:=I.list hq;have hlen:=r'.length;obtain⟨o,ho,hc,n,hd⟩:=pl.isList;exact call_list_seq p (.inl rfl) ho hc hd (fun h' c' kp e=>fin its r' hz h' c' kp e) (by simp only[size_toArray] <;> omega)
 obtain⟨its,r',pl,hz⟩:=I.tuple hq;have hlen:=r'.length;obtain⟨o,ho,hc,n,hd⟩:=pl;exact call_list_seq p (.inr rfl) ho hc hd (fun h' c' kp e=>fin its r' hz h' c' kp e) (by simp only[size_toArray] <;> omega)
theorem kh:dJ X (.type "tuple") (fun xs H Q=>∃p ys,xs=[.ref p]/\((SqL X.K H p ys/\∀l,H l=none->Q (.ref l) (upd H l (.tup ys)))\/(SqT X.K H p ys/\Q (.ref p) H))):=by
 intro pins s σ H xs us Q I r h;obtain⟨p,ys,rfl,h⟩:=h;obtain⟨u,rfl,rx⟩:=vals1 r;cases rx;rcases h with⟨hq,q⟩|⟨hq,q⟩
 ·obtain⟨its,r',pl,hz⟩:=I.list hq;have hlen:=r'.length;refine call_tuple_list pl.isList (fun h' kp=>?_) (by simp only[size_toArray] <;> omega)
  have I1:Inv X pins σ H { s with heap:=h' }:=I.kept (t':=s.toks) kp;have I2:Inv X pins σ (upd H h'.objs.size (.tup ys)) { s with heap:=h'.push { cls:=.type "tuple",data:=.seq its.toArray } }:=
   I1.laid (t':=s.toks) (fun b o e=>get?_push_of_some _ e) (le_refl _) (show dh X.prog X.w _ _ _ (.tup ys) from⟨hz,its,r',IsTup.new _ _⟩)
  exact⟨.ref h'.objs.size,_,I2,rfl,q _ (I1.hok.fresh (le_refl _))⟩
 obtain⟨its,r',pl,hz⟩:=I.tuple hq;exact call_tuple_same pl ⟨.ref p,H,I,rfl,q⟩
noncomputable def tyV (K:PySem.W.Frag)(T:String)(x:V)(H:Hp):Prop:=match x with
 | .str _=>T = "str"
 | .int _=>T = "int"
 | .ref p=>(T = "list" /\ ∃xs,SqL K H p xs)\/(T = "tuple" /\ ∃o,K.lookup p=some o/\o.cls=.type "tuple" /\ o.dict=none) \/
   (T = "dict" /\ ((∃kvs,H p=some (.dK kvs))\/∃kvs,H p=some (.dT kvs)))\/(T = "set" /\ ∃S n,H p=some (.set S n))
 | _=>False
theorem yp {pins:List (Addr×Obj)}{σ:St}{H:Hp}{s:Shared}{T:String}{x:V}{v:Value}(I:Inv X pins σ H s)(r:RelV x v)(ty:tyV X.K T x H) :
  s.TypeIs v T/\∀a,v=.ref a->∃ob,s.heap.get? a=some ob/\ob.dict=none:=by
 cases x with
 | str z=>
  obtain⟨t,rfl⟩:=r;cases (show T = "str" from ty);exact⟨typeIs_str s z t,fun _ e=>nomatch e⟩
 | int i=>
  obtain⟨t,rfl⟩:=r;cases (show T = "int" from ty);exact⟨typeIs_int s i t,fun _ e=>nomatch e⟩
 | ref p=>
  cases r;rcases ty with⟨rfl,xs,hq⟩|⟨rfl,o,hk,hc,hd⟩|⟨rfl,hk⟩|⟨rfl,S,n,hk⟩
  ·obtain⟨its,_,pl,_⟩:=I.list hq;refine⟨pl.isList.typeIs,fun a e=>?_⟩;cases e;obtain⟨o,n,e,c,hd,_⟩:=pl;exact⟨o,e,hd⟩
  ·refine⟨⟨o,I.kIn p o hk,hc⟩,fun a e=>?_⟩;cases e;exact⟨o,I.kIn _ o hk,hd⟩
  ·have z:∃o,s.heap.get? p=some o/\o.ExactDict:=by
    rcases hk with⟨kvs,hk⟩|⟨kvs,hk⟩
    ·obtain⟨_,_,_,_,o,_,_,e,ex,_⟩:=I.hok p _ hk;exact⟨o,e,ex⟩
    obtain⟨_,_,_,_,o,_,_,e,ex,_⟩:=I.hok p _ hk;exact⟨o,e,ex⟩
   obtain⟨o,e,ex⟩:=z;refine⟨⟨o,e,ex.1⟩,fun a e2=>?_⟩;cases e2;exact⟨o,e,ex.2.1⟩
  obtain⟨o,_,_,_,e,ex,_⟩:=I.hok p _ hk;refine⟨⟨o,e,ex.1⟩,fun a e2=>?_⟩;cases e2;exact⟨o,e,ex.2.1⟩
 | _=>exact False.elim ty
variable {o e:Expr}{es:List Expr}{to:TE}{t:TA}{name:Str}{apos cpos:Pos}{T id:String}{r:V->List V->Hp->VK->Prop}
end
noncomputable def MtM (X:Cx)(id:String)(r:V->List V->Hp->VK->Prop):Prop:=
 ∀(pins:List (Addr×Obj)) (s:Shared) (σ:St) (H:Hp) (x:V) (xs:List V) (v:Value) (us:List Value) (Q:VK),Inv X pins σ H s->RelV x v->Vals xs us->r x xs H Q ->
  wpAny (model X.prog X.w) X.A (call (.builtin id) (v::us)) (EP X pins σ Q) X.xe s
theorem Vals.one:∀{x:V}{us:List Value},Vals [x] us->∃u,us=[u]/\RelV x u:=fun h=>by
 cases h with
 | cons r h=>
  cases h;exact⟨_,rfl,r⟩
theorem Vals.zero:∀{us:List Value},Vals [] us->us=[]
 | _,.nil=>rfl
theorem Vals.dropLast {xs:List V}{us:List Value}(h:Vals xs us):Vals xs.dropLast us.dropLast:=by
 induction h with
 | nil=>exact .nil
 | cons r t ih=>
  cases t with
  | nil=>exact .nil
  | cons q t'=>exact .cons r ih
theorem Vals.reverse {xs:List V}{us:List Value}(h:Vals xs us):Vals xs.reverse us.reverse:=by
 induction h with
 | nil=>exact .nil
 | cons r t ih=>rw[reverse_cons,reverse_cons];exact Vals.append ih (.cons r .nil)
theorem Vals.rep {xs:List V}{us:List Value}(h:Vals xs us):∀k:Nat,Vals (List.replicate k xs).flatten (List.replicate k us).flatten
 | 0=>.nil
 | k+1=>by
  rw[replicate_succ,replicate_succ,flatten_cons,flatten_cons];exact Vals.append h (Vals.rep h k)
theorem Ek {α:Type}(l:List α):l.eraseIdx (l.length-1)=l.dropLast:=by
 induction l with
 | nil=>rfl
 | cons a r ih=>
  cases r with
  | nil=>rfl
  | cons b r=>
   have e:(a::b::r).length-1=((b::r).length-1)+1:=by
    have h1:(a::b::r).length=r.length+2:=rfl;have h2:(b::r).length=r.length+1:=rfl;omega
   rw[e,List.eraseIdx_cons_succ,ih]
   all_goals rfl
theorem foldl_rep (its:List Value):∀(k:Nat)(acc:List Value),
  List.foldl (fun x1 x2=>x1++x2) acc.toArray (List.replicate k its.toArray)=(acc++(List.replicate k its).flatten).toArray
 | 0,acc=>by simp
 | k+1,acc=>by
  have e:acc.toArray++its.toArray=(acc++its).toArray:=by simp
  have e2:(acc++its)++(List.replicate k its).flatten=acc++(List.replicate (k+1) its).flatten:=by
   rw[replicate_succ,flatten_cons,List.append_assoc]
  rw[<- e2,<- foldl_rep its k (acc++its),<- e,replicate_succ,List.foldl_cons]
section
variable {X:Cx}{pins:List (Addr×Obj)}{σ:St}{H:Hp}{s:Shared}{l b:Addr}{xs ys zs:List V}
theorem Inv.Ue {its its':List Value}{n:Nat}{f:Array Value->Array Value}{t':Nat}(I:Inv X pins σ H s)(hH:H l=some (.lst xs))
  (e:s.heap.get? l=some { cls:=.type "list",data:=.seq its.toArray n }) (hf:f its.toArray=its'.toArray) (hv:Vals ys its') (hz:ys.length<=sizeLine) :
  Inv X pins σ (upd H l (.lst ys)) { s with heap:=s.heap.update l (Obj.mapSeq f),toks:=t' }:=by
 have q:=PySem.IsL.update e f;rw[hf] at q;refine I.write (x:=l) (e:=l) (by rw[hH];exact trivial) (.inl rfl) (fun b' u hb hu=>(get?_update_other s.heap (Obj.mapSeq f) (Ne.symm hb)).trans hu) ⟨_,q⟩ ?_;exact⟨hz,its',_,hv,q⟩
theorem Inv.Vz {its:List Value}{t':Nat}(I:Inv X pins σ H s)(hv:Vals ys its)(hz:ys.length<=sizeLine) :
  Inv X pins σ (upd H s.heap.objs.size (.lst ys)) { s with heap:=s.heap.push { cls:=.type "list",data:=.seq its.toArray },toks:=t' }:=
 I.laid (fun _ _ q=>get?_push_of_some _ q) (le_refl _) ⟨hz,its,0,hv,get?_push_size _ rfl⟩
theorem Inv.fresh (I:Inv X pins σ H s):H s.heap.objs.size=none:=I.hok.fresh (le_refl _)
theorem Inv.Dz (I:Inv X pins σ H s) (hH:H l=some (.lst xs)):xs.length<=sizeLine/\∃(its:List Value)(n:Nat),Vals xs its/\xs.length=its.length/\s.heap.get? l=some { cls:=.type "list",data:=.seq its.toArray n }:=by
 obtain⟨z,its,n,r,e⟩:=I.hok l _ hH;exact⟨z,its,n,r,r.length,e⟩
theorem Bm {n:Nat}(h:n<=sizeLine):Builtin.List.listTooLong n=false:=by
 unfold Builtin.List.listTooLong;exact decide_eq_false ω
end
section
variable {X:Cx}
noncomputable def Ol:V->List V->Hp->VK->Prop:=fun x vs H Q=>∃l xs y,x=.ref l/\vs=[y]/\H l=some (.lst xs)/\xs.length<sizeLine/\Q .non (upd H l (.lst (xs++[y])))
theorem HS:MtM X "list.append" Ol:=by
 intro pins s σ H x vs v us Q I rx rv h;obtain⟨l,xs,y,rfl,rfl,hH,hz,q⟩:=h;cases rx;obtain⟨u,rfl,ru⟩:=rv.one;obtain⟨z,its,n,r,hl,e⟩:=I.Dz hH;refine call_meets F.slot_list_append ⟨_,e,rfl⟩ F.entry_list_append (F.args_list_append_2 _ _) (PySem.list_append l its.toArray n u (by rw[size_toArray];omega)) ⟨e,?_⟩;refine⟨.non,_,I.Ue (its':=its++[u]) hH e (by simp) (r.append (.cons ru .nil)) ?_,rfl,q⟩;rw[length_append,length_singleton];omega
noncomputable def Oh:V->List V->Hp->VK->Prop:=fun x vs H Q=>∃l b xs zs,x=.ref l/\vs=[.ref b]/\H l=some (.lst xs)/\H b=some (.lst zs)/\xs.length+zs.length<=sizeLine/\Q .non (upd H l (.lst (xs++zs)))
theorem HN:MtM X "list.extend" Oh:=by
 intro pins s σ H x vs v us Q I rx rv h;obtain⟨l,b,xs,zs,rfl,rfl,hH,hB,hz,q⟩:=h;cases rx;obtain⟨u,rfl,ru⟩:=rv.one;cases ru;obtain⟨z,its,n,r,hl,e⟩:=I.Dz hH;obtain⟨z2,its2,n2,r2,hl2,e2⟩:=I.Dz hB;have hsz:its.toArray.size+its2.toArray.size<=sizeLine:=by rw[size_toArray,size_toArray];omega
 have hlong:¬(!its.toArray.isEmpty&&Builtin.List.listTooLong (its.toArray.size+its2.toArray.size))=true:=by
  rw[Bm hsz,Bool.and_false];exact Bool.false_ne_true
 refine call_meets F.slot_list_extend ⟨_,e,rfl⟩ F.entry_list_extend (F.args_list_extend_2 _ _)
  (AutoSeq1.list_extend_list_list_0 l its.toArray n b its2.toArray n2 hlong (by rw[size_toArray];omega) ω) ⟨e,e2,?_⟩
 refine⟨.non,_,I.Ue (its':=its++its2) hH e (by simp) (r.append r2) ?_,rfl,q⟩;rw[length_append];omega
noncomputable def V6:V->List V->Hp->VK->Prop:=fun x vs H Q=>∃l xs y,x=.ref l/\vs=[]/\H l=some (.lst xs)/\xs[xs.length-1]?=some y/\Q y (upd H l (.lst xs.dropLast))
theorem Uc:MtM X "list.pop" V6:=by
 intro pins s σ H x vs v us Q I rx rv h;obtain⟨l,xs,y,rfl,rfl,hH,hy,q⟩:=h;cases rx;have hus:=rv.zero;subst hus;obtain⟨z,its,n,r,hl,e⟩:=I.Dz hH;obtain⟨u,hu,ru⟩:=r.get hy;have hy':its.toArray[its.toArray.size-1]?=some u:=by
  show its.toArray[its.length-1]?=some u;rw[<- Array.getElem?_toList,<- hl];exact hu
 refine call_meets F.slot_list_pop ⟨_,e,rfl⟩ F.entry_list_pop (F.args_list_pop_1 _) (MeetsSeq.list_pop_last l its.toArray n u hy' (by rw[size_toArray];omega)) ⟨e,?_⟩;refine⟨y,_,I.Ue (its':=its.dropLast) hH e ?_ r.dropLast ?_,ru,q⟩
 ·show its.toArray.eraseIdxIfInBounds (its.toArray.size-1)=its.dropLast.toArray;rw[size_toArray,List.eraseIdxIfInBounds_toArray,Ek]
 rw[List.length_dropLast];omega
noncomputable def Wd:R2:=fun x y H Q=>∃l b xs zs,x=.ref l/\y=.ref b/\H l=some (.lst xs)/\H b=some (.lst zs)/\xs.length+zs.length<=sizeLine/\∀p,H p=none->Q (.ref p) (upd H p (.lst (xs++zs)))
theorem TY:OpR X (binaryOp .Add) Wd:=by
 intro pins s σ H x y v u Q I rx ry h;obtain⟨l,b,xs,zs,rfl,rfl,hH,hB,hz,q⟩:=h;cases rx;cases ry;obtain⟨z,its,n,r,hl,e⟩:=I.Dz hH;obtain⟨z2,its2,n2,r2,hl2,e2⟩:=I.Dz hB;refine PySem.P.add_list e e2 ?_ (by rw[size_toArray,size_toArray];omega);have ea:its.toArray++its2.toArray=(its++its2).toArray:=by simp
 rw[ea];exact⟨.ref _,_,I.Vz (t':=s.toks) (r.append r2) (by rw[length_append];omega),rfl,q _ I.fresh⟩
noncomputable def V5:R2:=fun x y H Q=>∃l k xs,x=.ref l/\y=.int k/\H l=some (.lst xs)/\-(2^63)<=k/\k<2^63/\xs.length*k.toNat<=sizeLine /\
 ∀p,H p=none->Q (.ref p) (upd H p (.lst (List.replicate k.toNat xs).flatten))
theorem len_rep {α:Type}(xs:List α)(k:Nat):(List.replicate k xs).flatten.length=k*xs.length:=by
 induction k with
 | zero=>simp
 | succ k ih=>rw[replicate_succ,flatten_cons,length_append,ih,Nat.succ_mul,add_comm]
theorem Tw:OpR X (binaryOp .Mult) V5:=by
 intro pins s σ H x y v u Q I rx ry h;obtain⟨l,k,xs,rfl,rfl,hH,h1,h2,hz,q⟩:=h;cases rx;obtain⟨t,rfl⟩:=ry;obtain⟨z,its,n,r,hl,e⟩:=I.Dz hH;have hlen:its.toArray.size*k.toNat<=sizeLine:=by rw[size_toArray,<- hl];exact hz
 have hcap:¬its.toArray.size*k.toNat>(2^63-1)/8:=by
  have:(sizeLine:Nat)<=(2^63-1)/8:=by decide
  omega
 have hfit:¬(!Builtin.List.listFitsIndex k)=true:=by
  rw[fitsIndex_both h1 h2];exact Bool.false_ne_true
 have hlong:¬Builtin.List.listTooLong (its.toArray.size*k.toNat)=true:=by
  rw[Bm hlen];exact Bool.false_ne_true
 have hnew:List.foldl (fun x1 x2=>x1++x2) #[] (List.replicate (if its.toArray.isEmpty=true then 0 else k.toNat) its.toArray)=(List.replicate k.toNat its).flatten.toArray:=by
  have f0:∀m:Nat,List.foldl (fun x1 x2=>x1++x2) #[] (List.replicate m its.toArray)=(List.replicate m its).flatten.toArray:=fun m=>by
   have:=foldl_rep its m [];rw[nil_append] at this;exact this
  rw[f0];cases its with
  | nil=>simp
  | cons a r'=>rw[if_neg (by simp)]
 refine wpAny_binaryOp_repeat_ref (T := "list") (U := "int") δ ⟨_,e,rfl⟩ (fun s'=>typeIs_int s' k t) noFill_list_mul F.fills_int_mul F.slot_int_rmul repeat_list F.slot_int_index.lookup
  (call_meets F.slot_int_rmul (typeIs_int s k t) F.entry_int_rmul (F.args_int_rmul_2 _ _) (int___rmul___int_list k t l its.toArray n)
   ⟨e,rfl,⟨_,e,rfl⟩,call_meets F.slot_list_mul ⟨_,e,rfl⟩ F.entry_list_mul (F.args_list_mul_2 _ _) (AutoListH.list___mul___list_int_3 l its.toArray n k t hfit hcap hlong) ⟨e,?_⟩⟩)
 rw[hnew];exact⟨.ref _,_,I.Vz (t':=s.toks) (r.rep k.toNat) (by rw[len_rep,Nat.mul_comm];exact hz),rfl,q _ I.fresh⟩
end
end L2
namespace Att
open PySem PySem.W PySem.Calls PyProof.Rows
theorem ud {P:Params}{h:Heap}:∀(ns:List Int)(vs:List Value),WellAll P h vs (ns.map WData.int)->IntsAre vs ns:=by
 intro ns
 induction ns with
 | nil=>
  intro vs w;rw[map_nil] at w;cases w;exact .nil
 | cons n ns ih=>
  intro vs w;rw[map_cons] at w;cases w with
  | cons a b=>
   cases a;exact .cons _ _ (ih _ b)
theorem G8 {l:OpenLaw}{n:Nat}(hn:l.most=some n){P:Params}{h:Heap}{args:List WData}{vals:List Value}
  (hpre:l.row.toRowW.claim.pre args=true) (hwl:WellAll P h vals args) :
  ∃a vs ns,vals=[Value.ref a]/\args=[WData.list (ns.map WData.int)]/\h.get? a=some { cls:=.type "list",data:=.seq vs.toArray }/\IntsAre vs ns/\ns.length<=n:=by
 have hsh:WShape.hasAll [] args [.list .int]=true:=(pre_splitW hpre).1;have hc:l.pre.holds [] { args:=args }=true:=(pre_splitW hpre).2;obtain⟨d,r,rfl,h1,h2⟩:=hasAllW_cons hsh;obtain rfl:=hasAllW_nil h2;obtain⟨xs,rfl,h3⟩:=hasW_list h1;obtain⟨ns,rfl⟩:=items_int h3;have hlen:ns.length<=n:=by
  unfold OpenLaw.pre at hc;have h4:(WTm.not (.lt (.lit (.int (n:Int))) (.len (.arg 0)))).holds [] { args:=[.list (ns.map .int)] }=true:=by
   have h4:=(holds_andW hc).1;rw[hn] at h4;exact h4
  have h5:=condW_of h4 (w_not (w_lt w_lit (w_len_list (w_arg rfl))));rw[length_map] at h5;refine Nat.le_of_not_lt fun q=>?_;have q':(n:Int)<((ns.length:Nat):Int):=ω
  first
   | (rw[decide_eq_true q'] at h5;exact absurd h5 δ)
   | (simp at h5;omega)
 cases hwl with
 | cons w1 w2=>
  cases w2;cases w1 with
  | list ho hall=>exact⟨_,_,ns,rfl,rfl,ho,ud ns _ hall,hlen⟩
theorem Ho (l:OpenLaw)(args:List WData):l.row.toRowW.claim.post args (.bool true) args=true:=
 postW_of (r:=l.row.toRowW) (X:=(true == true))
  (show WShape.has [] (.bool true) .bool=true by first|rfl|decide|simp [WShape.has,WShape.arms,WShape.armsAll])
  (show(WTm.eq .res (.lit (.bool true))).value [] { args:=args,res:=some (.bool true),after:=args }=some (.bool (true == true)) from w_eq_bool (w_res rfl) w_lit) rfl
theorem CJ {l:OpenLaw}{n:Nat}{q:Program}{loose:List Str}{XP:(Str->Option Value)->Heap->Prop}{YP:World->Heap->Prop}{d:DefRec}
  (hn:l.most=some n) (hdf:d.params.defaults=[])
  (call:∀(w:World)(s₀ s₁:Shared)(mg mb:Str->Option Value)(fa:Addr)(o:Obj)(pm cd doc:Value)(a:Addr)(vs:List Value)(ns:List Int),
   Ground q loose [] XP w s₀ mg mb s₁.heap->YP w s₁.heap ->
   s₁.heap.get? fa=some o->o.data=.func (docDef d.name d.params d.body d.scope pm cd doc)->s₁.heap.CodeRec cd d.name->mg d.name=some (.ref fa) ->
   s₁.heap.get? a=some { cls:=.type "list",data:=.seq vs.toArray }->IntsAre vs ns->ns.length<=n->s₁.gens=#[] ->
   codeAny (model l.prog w) callerA (.call (.ref fa) ⟨[.ref a],[]⟩) (fun r s'=>r=.ok (.ret (.bool true))/\OldK s₁.heap s'.heap/\s'.os=s₁.os/\AllBare s'.gens) s₁) :
  WalkO q loose XP YP l.row.toRowW d [] (fun f vs=>PySem.call f vs):=by
 intro w s₀ s₁ mg mb G Y fa o pm cd doc dV kV ho hd hcd hD hmg hg args vals as hpre hlay hrd hwl hlo;obtain rfl:dV=.none:=Dflts.none hD hdf;obtain rfl:kV=.none:=Dflts.noKw hD;obtain⟨a,vs,ns,rfl,rfl,hobj,hints,hlen⟩:=G8 hn hpre hwl;refine enter_call (codeAny_mono (call w s₀ s₁ mg mb fa o pm cd doc a vs ns G Y ho (fd_plain hd) hcd hmg hobj hints hlen hg) fun r s' hq=>?_);obtain⟨rfl,h2,h3,h4⟩:=hq;exact⟨.inl ⟨.bool true,.bool true,[],rfl,fun _=>rfl,.bool true,Ho l _,fun _=>⟨List.Pairwise.nil,fun _ hm=>(nomatch hm)⟩⟩,h2,h3,h4⟩
end Att
namespace L2
open PySem PySem.Spec PyProof.Rows
theorem wY:∀{vs:List Value}{ns:List Int},IntsAre vs ns->Vals (ns.map V.int) vs
 | _,_,.nil=>.nil
 | _,_,.cons n t h=>.cons ⟨t,rfl⟩ (wY h)
noncomputable def bC (s:Stmt):Arguments:=match s with
 | .FunctionDef _ a _ _ _ _ _ _ _ _=>a
 | _=>{ posonlyargs:=[],args:=[],vararg:=none,kwonlyargs:=[],kw_defaults:=[],kwarg:=none,defaults:=[] }
noncomputable def bf (s:Stmt):List Stmt:=match s with
 | .FunctionDef _ _ b _ _ _ _ _ _ _=>b
 | _=>[]
noncomputable def ak (s:Stmt):Scope:=match s with
 | .FunctionDef _ _ _ _ _ _ sc _ _ _=>sc
 | _=>{ kind:=.function,names:=[],isGenerator:=false,isCoroutine:=false }
noncomputable abbrev CX0:CXT:=fun _ _ _ _ _ _=>False
noncomputable abbrev E0:XK:=fun _ _ _=>False
theorem KQ {X:Cx}:Af CX0 X E0:=fun _ _ _ _ _ _ _ h=>h.elim
structure Fun (K:PySem.W.Frag)(x qual:Str)(st:Stmt)(f:Addr)(fd:FuncData):Prop where
 ex:∃(oc:Value)(od:Option Addr)(kV doc pm:Value)(an:Option Addr)(cdv ct:Value)(osl:Array (Option Value)),
  fd=fnOf x qual (bC st) (bf st) (ak st) .none kV doc pm an cdv ct/\K.lookup f=some ⟨oc,od,.func fd,osl⟩/\codeIn K cdv qual=true
 kp:keepIn K (.ref f)=true
section
variable {P:Program}{w:World}{K:PySem.W.Frag}{mg:Str->Option Value}{base:Heap}
theorem Fun.ok {x qual:Str}{st:Stmt}{f:Addr}{fd:FuncData}{N ps:List Str}{k:Nat}{sp:Sp}(F:Fun K x qual st f fd)(S:bW N ps (ak st))(len:∀vs H Q E,sp vs H Q E->vs.length=ps.length)
  (hbody:∀(cdv:Value)(A:Around)(outer:List Env)(s:Shared)(H:Hp)(vs:List V)(Q:VK)(E:XK),gm k (A.deeper (envOfC qual (ak st) s.heap.objs.size f cdv))->sp vs H Q E ->
   ∃t,PSs (Ci CX0 P w K mg base N qual (ak st) f cdv A outer s H E).nox (bf st) t/\t { nx:=fun _ H'=>Q .non H',rt:=Q } (start N vs) H):dM P w K mg base CX0 (k+1) f fd ps sp:=by
 obtain⟨oc,od,kV,doc,pm,an,cdv,ct,osl,rfl,lk,hcd⟩:=F.ex;refine Ru lk hcd S len fun A outer s H vs Q E hr hsp=>?_;obtain⟨t,h,q⟩:=hbody cdv A outer s H vs Q E hr hsp;exact⟨t,h.nox,q⟩
theorem Fun.binds {x qual:Str}{st:Stmt}{f:Addr}{fd:FuncData}{ps:List Str}(F:Fun K x qual st f fd)
  (h:∀(kV doc pm:Value)(an:Option Addr)(cdv ct:Value)(us:List Value),us.length=ps.length->bindArgs (fnOf x qual (bC st) (bf st) (ak st) .none kV doc pm an cdv ct) ⟨us,[]⟩=pure (ps.zip us)):Binds K fd ps []:=by
 obtain⟨oc,od,kV,doc,pm,an,cdv,ct,osl,rfl,lk,hcd⟩:=F.ex;exact .all (h kV doc pm an cdv ct)
theorem Mt {x qual:Str}{st:Stmt}{f:Addr}{oc:Value}{od an:Option Addr}{osl:Array (Option Value)}{kV doc pm cdv ct:Value}(l:K.lookup f=some ⟨oc,od,.func (fnOf x qual (bC st) (bf st) (ak st) .none kV doc pm an cdv ct),osl⟩)
  (c:codeIn K cdv qual=true) (k:keepIn K (.ref f)=true):Fun K x qual st f (fnOf x qual (bC st) (bf st) (ak st) .none kV doc pm an cdv ct):=⟨⟨oc,od,kV,doc,pm,an,cdv,ct,osl,rfl,l,c⟩,k⟩
end
noncomputable def Same (H H':Hp):Prop:=∀b o,H b=some o->H' b=some o
theorem Same.refl (H:Hp):Same H H:=fun _ _ h=>h
theorem Same.trans {H H1 H2:Hp}(a:Same H H1)(b:Same H1 H2):Same H H2:=fun c o h=>b c o (a c o h)
theorem Same.seq {K:PySem.W.Frag}{H H':Hp}{a:Addr}{xs:List V}(e:Same H H')(h:SqL K H a xs):SqL K H' a xs:=by
 rcases h with(h|⟨o,h⟩)|h
 ·exact .inl (.inl (e _ _ h))
 ·exact .inl (.inr ⟨o,e _ _ h⟩)
 exact .inr h
end L2
set_option maxHeartbeats 4000000
namespace L2
open PySem PySem.Spec PyProof.Rows
theorem vX {env:Env}:∀(names:List (Str×NameKind)) (acc:List (Str×Addr)),
  (∀y∈names,y.2=.free->∃c,env.cells.lookup y.1=some c)->(∀x c,acc.lookup x=some c->env.cells.lookup x=some c) ->
  ∃cl,(forIn names acc fun(y:Str×NameKind)(r:List (Str×Addr))=>(match y with
   | (name,kind)=>if (kind == .free)=true then (do let a <- cellOf env name;pure (ForInStep.yield ((name,a)::r))) else pure (ForInStep.yield r):Sem (ForInStep (List (Str×Addr)))))=pure cl /\
   (∀x c,cl.lookup x=some c->env.cells.lookup x=some c)/\(∀y∈names,y.2=.free->∃c,cl.lookup y.1=some c)/\(∀x c,acc.lookup x=some c->∃c',cl.lookup x=some c')
 | [],acc,_,ha=>⟨acc,rfl,ha,fun _ h=>(nomatch h),fun x c h=>⟨c,h⟩⟩
 | (n,k)::r,acc,hf,ha=>by
  have hf':∀y∈r,y.2=.free->∃c,env.cells.lookup y.1=some c:=fun y hy=>hf y (mem_cons_of_mem _ hy);by_cases hk:k=.free
  ·subst hk;obtain⟨c0,e0⟩:=hf (n,.free) mem_cons_self rfl;have hce:cellOf env n=pure c0:=by unfold cellOf;rw[e0]
   have ha2:∀x c,((n,c0)::acc).lookup x=some c->env.cells.lookup x=some c:=fun x c h=>by
    rw[lookup_cons] at h;cases hx:x == n with
    | true=>
     rw[hx] at h;have e1:x=n:=by simpa using hx
     rw[e1,e0];exact h
    | false=>
     rw[hx] at h;exact ha x c h
   obtain⟨cl,e,h1,h2,h3⟩:=vX r ((n,c0)::acc) hf' ha2;refine⟨cl,?_,h1,fun y hy hz=>?_,fun x c h=>?_⟩
   ·rw[forIn_cons];simp only[beq_self_eq_true,if_true,hce];exact e
   ·rcases mem_cons.mp hy with q|q
    ·subst q;exact h3 n c0 (by simp)
    exact h2 y q hz
   cases hx:x == n with
   | true=>exact h3 x c0 (by rw[lookup_cons,hx])
   | false=>exact h3 x c (by rw[lookup_cons,hx];exact h)
  have hb:(k == NameKind.free)=false:=by simpa using hk
  obtain⟨cl,e,h1,h2,h3⟩:=vX r acc hf' ha;refine⟨cl,?_,h1,fun y hy hz=>?_,h3⟩
  ·rw[forIn_cons];simp only[hb,false_eq_true,if_false];exact e
  rcases mem_cons.mp hy with q|q
  ·subst q;exact absurd hz hk
  exact h2 y q hz
theorem Gx {env:Env}{scope:Scope}(hf:∀y∈scope.names,y.2=.free->∃c,env.cells.lookup y.1=some c) :
  ∃cl,closureFor scope env=pure cl/\(∀x c,cl.lookup x=some c->env.cells.lookup x=some c)/\(∀y∈scope.names,y.2=.free->∃c,cl.lookup y.1=some c):=by
 obtain⟨cl,e,h1,h2,_⟩:=vX (env:=env) scope.names [] hf (fun x c h=>by simp at h);refine⟨cl,?_,h1,h2⟩;unfold closureFor;show(forIn scope.names [] _ >>= fun r=>pure r)=_;rw[show(forIn scope.names ([]:List (Str×Addr)) fun(y:Str×NameKind)(r:List (Str×Addr))=>(match y with
   | (name,kind)=>if (kind == .free)=true then (do let a <- cellOf env name;pure (ForInStep.yield ((name,a)::r))) else pure (ForInStep.yield r):Sem (ForInStep (List (Str×Addr)))))=pure cl from e]
 rfl
section
variable {prog:Program}{w:World}{A:Around}{R:Result->Shared->Prop}{s:Shared}
theorem xV {elt tg iter:Expr}{ifs:List Expr}{scope:Scope}{pos:Pos}{it acc:Value}{env:Env}(J:Nat->Shared->Prop)
  (turn:∀n s,J n s->wpAny (model prog w) A (pyNext it) (fun r s1=>match r with
   | none=>R (.ok .next) s1
   | some v=>wpAny (model prog w) A (letOwnedTupleGo tg it v) (fun _ s1'=>wpAny (model prog w) A (assign tg env v) (fun _ s2=>
     wpAny (model prog w) A (forIn ifs true fun c r=>if r=true then do let ok <- isTrue c env (eval c env);pure (ForInStep.yield ok) else pure (ForInStep.yield r)) (fun ok s3=>
      if ok=true then wpAny (model prog w) A (eval elt env) (fun x s4=>
       wpAny (model prog w) A (call (.builtin "list.append") [acc,x]) (fun _ s5=>∃m,m<n/\J m s5) (notedBy (model prog w) A env fun e z=>R (.error e) z) s4) (notedBy (model prog w) A env fun e z=>R (.error e) z) s3
      else ∃m,m<n/\J m s3) (notedBy (model prog w) A env fun e z=>R (.error e) z) s2) (notedBy (model prog w) A env fun e z=>R (.error e) z) s1') (notedBy (model prog w) A env fun e z=>R (.error e) z) s1) (notedBy (model prog w) A env fun e z=>R (.error e) z) s)
  (n:Nat) (h:J n s):codeAny (model prog w) A (.compLoop (.ListComp elt [⟨tg,iter,ifs,0⟩] scope pos) 0 it acc env) R s:=by
 refine codeAny_loop rfl J (fun n z hJ=>?_) n h;show wpAny _ A ((compTurn (.ListComp elt [⟨tg,iter,ifs,0⟩] scope pos) 0 it acc env).onRaise (fun y=>do noteFrame y env;theTreesLotGoes y)) _ _ z;refine wpAny_noted ?_;rw[compTurn_list];refine wpAny_bind (wpAny_standAt (wpAny_bind (wpAny_mono (turn n z hJ) (fun r s1 h1=>?_) fun _ _ q=>q)));cases r with
 | none=>exact wpAny_pure h1
 | some v=>
  refine wpAny_bind (wpAny_mono h1 (fun _ s1' h1'=>?_) fun _ _ q=>q);refine wpAny_bind (wpAny_mono h1' (fun _ s2 h2=>wpAny_bind (wpAny_mono h2 (fun ok s3 h3=>?_) fun _ _ q=>q)) fun _ _ q=>q);cases ok with
  | false=>exact wpAny_pure ⟨rfl,h3⟩
  | true=>
   exact wpAny_bind (wpAny_bind (wpAny_mono h3 (fun x s4 h4=>wpAny_bind (wpAny_mono h4 (fun _ s5 h5=>wpAny_pure (wpAny_pure ⟨rfl,h5⟩)) fun _ _ q=>q)) fun _ _ q=>q))
end
noncomputable def qd (mp:List (Option Nat))(σ:St):St:=mp.map fun o=>match o with
 | some j=>(σ[j]?).join
 | none=>none
noncomputable def cP (X:Cx)(N:List Str)(scope:Scope)(cl:List (Str×Addr))(C:Addr)(s:Shared)(H:Hp)(fp:List Addr):Cx:=
 { X with N:=N,s₀:=s,H₀:=H,env:=compEnvC scope cl C X.env,outer:=X.stack,stack:=X.stack,ex:=fp,fn:=fun _=>false,pn:=[],xe:=fun _ _=>False }
noncomputable def pq (NX:List Str)(names:List (Str×NameKind)):List Str->List (Option Nat)->Bool
 | [],[]=>true
 | x::r,o::q=>(match o with
   | none=>names.lookup x == some .local
   | some j=>NX[j]? == some x&&names.lookup x == some .free)&&pq NX names r q
 | _,_=>false
theorem xQ {NX:List Str}{names:List (Str×NameKind)}:∀{N:List Str}{mp:List (Option Nat)}{i j:Nat}{x:Str},pq NX names N mp=true->N[i]?=some x->mp[i]?=some (some j)->NX[j]?=some x/\names.lookup x=some .free
 | [],_,i,_,_,_,h,_=>by simp at h
 | _::_,[],_,_,_,h,_,_=>by simp [pq] at h
 | y::r,o::q,0,j,x,h,h1,h2=>by
  simp at h1 h2;subst h1 h2;unfold pq at h;simp only[and_eq_true,beq_iff_eq] at h;exact h.1
 | y::r,o::q,i+1,j,x,h,h1,h2=>by
  unfold pq at h;rw[and_eq_true] at h;exact xQ (i:=i) h.2 (by simpa using h1) (by simpa using h2)
theorem xP {NX:List Str}{names:List (Str×NameKind)}:∀{N:List Str}{mp:List (Option Nat)},pq NX names N mp=true->mp.length=N.length
 | [],[],_=>rfl
 | [],_::_,h=>by simp [pq] at h
 | _::_,[],h=>by simp [pq] at h
 | _::r,_::q,h=>by
  unfold pq at h;rw[and_eq_true] at h;simp [xP h.2]
structure yo (NX:List Str)(kX:List (Str×NameKind))(N:List Str)(mp:List (Option Nat))(scope:Scope):Prop where
 kind:scope.kind=.function
 nocell:∀y∈scope.names,y.2≠.cell
 locs:∀y∈scope.names,y.2=.local->scope.names.lookup y.1=some .local
 fre:∀y∈scope.names,y.2=.free->kX.lookup y.1=some .cell\/kX.lookup y.1=some .free
 map:pq NX scope.names N mp=true
noncomputable def PTs (X:Cx)(cs:List Expr)(t:TT):Prop:=
 ∀(pins:List (Addr×Obj)) (s:Shared) (σ:St) (H:Hp) (Q:Bool->Hp->Prop),Inv X pins σ H s->t σ H Q ->
  wpAny (model X.prog X.w) X.A (forIn cs true fun c r=>if r=true then do let ok <- isTrue c X.env (eval c X.env);pure (ForInStep.yield ok) else pure (ForInStep.yield r)) (TP X pins σ Q) X.xe s
noncomputable def RD:TT:=fun _ H Q=>Q true H
theorem Oz {X:Cx}:PTs X [] RD:=fun _ _ _ H _ I h=>wpAny_tests_nil ⟨H,I,h⟩
theorem Ox {X:Cx}{c:Expr}{t:TT}(h:PT X c t):PTs X [c] t:=fun pins s σ H Q I q=>wpAny_tests_one (h pins s σ H Q I q)
noncomputable def w6 (mp:List (Option Nat))(wi:TI)(g:TG)(tc:TT)(te:TE):TE:=fun σ H Q=>wi σ H fun J H1=>
 ∃W:Nat->Nat->List V->St->Hp->Prop,(∃m,W 0 m [] (qd mp σ) H1)/\∀i m acc τ H2,W i m acc τ H2 ->
  (J.stop i H2/\∀d,H2 d=none->Q (.ref d) (upd H2 d (.lst acc))) \/
  (J.go i H2/\acc.length<sizeLine/\∃N:List V->St->Hp->Prop,(∀acc' τ' H',N acc' τ' H'->∃m',m'<m/\W (i+1) m' acc' τ' H')/\∀x H3,J.yld i H2 x H3->g x τ H3 fun τ1 H4=>tc τ1 H4 fun b H5=>
   if b=true then te τ1 H5 fun v H6=>N (acc++[v]) τ1 H6 else N acc τ1 H5)
theorem iG {env:Env}:∀{names:List (Str×NameKind)}{x:Str}{k:NameKind},(names.map fun(n,k)=>if (k == NameKind.free&&env.scope.kind == .function&&env.kindOf n == some .cell) then (n,NameKind.cell) else (n,k)).lookup x=some k ->
  names.lookup x=some k\/(k=.cell/\names.lookup x=some .free)
 | [],_,_,h=>by simp at h
 | (n,k0)::r,x,k,h=>by
  have ih:=@iG env r x k;rw[map_cons] at h;by_cases hc:(k0 == NameKind.free&&env.scope.kind == .function&&env.kindOf n == some .cell)=true
  ·simp only[hc,if_true] at h;cases hx:x == n with
   | true=>
    rw[lookup_cons,hx] at h;have hk:k0=.free:=by
     rw[and_eq_true,and_eq_true] at hc;simpa using hc.1.1
    right;refine⟨(Option.some.inj h).symm,?_⟩;rw[lookup_cons,hx,hk]
   | false=>
    rw[lookup_cons,hx] at h;rw[lookup_cons,hx];exact ih h
  simp only[hc,if_false] at h;cases hx:x == n with
  | true=>
   rw[if_neg (by simp),lookup_cons,hx] at h;rw[lookup_cons,hx];exact .inl h
  | false=>
   rw[if_neg (by simp),lookup_cons,hx] at h;rw[lookup_cons,hx];exact ih h
theorem na0 {b D E:Nat}(h:b<E)(hD:E=D):b≠D:=by omega
theorem na1 {b D E C:Nat}(h:b<E)(hD:E=D)(hC:C=D+1):b≠C:=by omega
theorem na2 {C D:Nat}(hC:C=D+1):D≠C:=by omega
theorem na3 {C D E:Nat}(hD:E=D)(hC:C=D+1):E<=C:=by omega
theorem na4 {D E:Nat}(hD:E=D):E<=D:=by omega
section
variable {X:Cx}{NX N:List Str}{kX:List (Str×NameKind)}{mp:List (Option Nat)}{scope:Scope}{pins:List (Addr×Obj)}{σ:St}{s s':Shared}{H:Hp}{fp:List Addr}{cl:List (Str×Addr)}{C:Addr}
theorem Em (hkX:X.env.scope.names=kX)(S:yo NX kX N mp scope)(I:Inv X pins σ H s)(hfp:∀b∈fp,rC X pins H b)(hold:∀b∈fp,b<s.heap.objs.size)(hC:s.heap.objs.size<=C)
  (hsub:∀x c,cl.lookup x=some c->X.env.cells.lookup x=some c) (hhas:∀y∈scope.names,y.2=.free->∃c,cl.lookup y.1=some c):(cP X N scope cl C s H fp).Ok where
 mod:=I.ok.mod
 kind:=S.kind
 glob:=I.ok.glob
 blt:=I.ok.blt
 above:=hC
 inj:=fun x y c h1 h2=>I.ok.inj x y c (hsub x c h1) (hsub y c h2)
 has:=fun x h=>by
  have key:scope.names.lookup x=some .free:=by
   rcases h with h|h
   ·rcases iG (env:=X.env) (names:=scope.names) h with q|⟨_,q⟩
    ·exact absurd rfl (S.nocell _ (PySem.mem_of_lookup q))
    exact q
   rcases iG (env:=X.env) (names:=scope.names) h with q|⟨q,_⟩
   ·exact q
   cases q
  exact hhas _ (PySem.mem_of_lookup key) rfl
 cab:=fun x c h=>by cases h
 hd:=I.ok.hd
 frames:=I.ok.frames
 stk:=.inl rfl
 exf:=fun b hb=>⟨ne_of_lt (lt_of_lt_of_le (hold b hb) hC),fun x c e=>(hfp b hb).2.2.2.2.1 x c (hsub x c e)⟩
 bs:=I.bs
 bsz:=le_trans I.ok.bsz I.sz
 noex:=fun b o e hb=>by
  rcases(hfp b hb).2.2.2.1 with q|q
  ·exact I.ok.noex b o e q
  exact absurd (lt_of_lt_of_le (lt_of_lt_of_le (lt_size e) I.ok.bsz) q) (lt_irrefl _)
 exfs:=fun b hb hz=>by
  obtain⟨_,h1,h2,_⟩:=hfp b hb;rcases mem_cons.mp (I.rF b hz) with q|q
  ·exact h1 q
  exact h2 q
 oV:=I.stack
 frf:=I.Ez
theorem Gw (hNX:X.N=NX)(hkX:X.env.scope.names=kX)(S:yo NX kX N mp scope)(I:Inv X pins σ H s)(hfp:∀b∈fp,rC X pins H b)(hold:∀b∈fp,b<s.heap.objs.size)(hC:s.heap.objs.size<=C)
  (hsub:∀x c,cl.lookup x=some c->X.env.cells.lookup x=some c) (hhas:∀y∈scope.names,y.2=.free->∃c,cl.lookup y.1=some c)
  (ho:s'.os=s.os) (hg:s'.gens=s.gens) (hn:∃m,s'.heap.Ns C m) (hk:∀b o,s.heap.get? b=some o->s'.heap.get? b=some o) {pl:List (Addr×Obj)}
  (hp:∀p∈pl,s'.heap.get? p.1=some p.2/\H p.1=none/\p.1≠C/\p.1∉frs X.stack/\∀v,p.2.data≠.cell v) :
  Inv (cP X N scope cl C s H fp) pl (qd mp σ) H s' where
 ok:=Em hkX S I hfp hold hC hsub hhas
 os:=ho
 bare:=by rw[hg];exact I.bare
 base:=Un.kept hk
 loc:=by
  obtain⟨m,hm⟩:=hn;refine⟨m,hm,fun i x v h1 h2 h3=>?_⟩;have h2':(mp.map fun o=>match o with|some j=>(σ[j]?).join|none=>none)[i]?=some (some v):=h2
  rw[getElem?_map] at h2';cases e:mp[i]? with
  | none=>rw[e] at h2';cases h2'
  | some o=>
   rw[e] at h2';cases o with
   | none=>cases h2'
   | some j=>
    have h4:(σ[j]?).join=some v:=by simpa using h2'
    have h5:σ[j]?=some (some v):=by
     cases q:σ[j]? with
     | none=>rw[q] at h4;cases h4
     | some z=>rw[q] at h4;rw[show z=some v from h4]
    obtain⟨g1,g2⟩:=xQ S.map h1 e;have fk:=S.fre _ (PySem.mem_of_lookup g2) rfl;obtain⟨m0,_,hl⟩:=I.loc;have vis:Vis X.env.scope x:=by
     rcases fk with q|q
     ·exact .inr (.inl (by rw[hkX];exact q))
     exact .inr (.inr (by rw[hkX];exact q))
    obtain⟨u,r,l⟩:=hl j x v (by rw[hNX];exact g1) h5 vis;refine⟨u,r,.inr ?_⟩;have l':∃c,X.env.cells.lookup x=some c/\s.heap.IsCell c (some u):=by
     rcases l with⟨q,_⟩|⟨_,q⟩
     ·have q':X.env.scope.names.lookup x=some .local:=q;rw[hkX] at q';rcases fk with z|z
      ·rw[q'] at z;cases z
      rw[q'] at z;cases z
     exact q
    obtain⟨c,hc,oc,hoc,hd⟩:=l';obtain⟨c',hc'⟩:=hhas _ (PySem.mem_of_lookup g2) rfl;have ec:c'=c:=by
     have:=hsub x c' hc';rw[hc] at this;exact(Option.some.inj this).symm
    subst ec;refine⟨?_,c',hc',oc,hk _ _ hoc,hd⟩;rcases h3 with q|q|q
    ·rcases iG (env:=X.env) (names:=scope.names) q with z|⟨z,_⟩
     ·rw[g2] at z;cases z
     cases z
    ·exact .inl q
    exact .inr q
 cell:=fun x c e=>by
  obtain⟨v,o,h1,h2⟩:=I.cell x c (hsub x c e);exact⟨v,o,hk _ _ h1,h2⟩
 free:=I.hok.fresh hC
 freeC:=fun x c e=>I.freeC x c (hsub x c e)
 pin:=fun p hpp=>hp p (by simpa [cP] using hpp)
 hok:=I.hok.kept hk
 len:=by
  show(mp.map _).length=N.length;rw[length_map];exact xP S.map
set_option maxHeartbeats 8000000 in
theorem Pu {tg iter elt:Expr}{ifs:List Expr}{pos:Pos}{wi:TI}{g:TG}{tc:TT}{te:TE}(N:List Str)(mp:List (Option Nat))(hNX:X.N=NX)(hkX:X.env.scope.names=kX)(S:yo NX kX N mp scope)(hc:X.calm=true)
  (hi:PI X tg iter wi) (hg:∀cl C s H fp,PG (cP X N scope cl C s H fp) tg g) (ht:∀cl C s H fp,PTs (cP X N scope cl C s H fp) ifs tc) (he:∀cl C s H fp,PE (cP X N scope cl C s H fp) elt te)
  (hs:∀x,foldedSetIterable iter X.env x=pure x:=by intro _;rfl):PE X (.ListComp elt [⟨tg,iter,ifs,0⟩] scope pos) (w6 mp wi g tc te):=by
 intro pins s σ H Q I h;obtain⟨cl,hcl,hsub,hhas⟩:=Gx (env:=X.env) (scope:=scope) fun y hy hf=>I.ok.has y.1 (by
  rcases S.fre y hy hf with q|q
  ·exact .inl (show X.env.scope.names.lookup y.1=_ by rw[hkX];exact q)
  exact .inr (show X.env.scope.names.lookup y.1=_ by rw[hkX];exact q))
 rw[eval_ListComp];refine wpAny_comprehension_free (use:=none) rfl hs hcl S.kind S.locs ?_;refine thn (hi pins s σ H _ I h) fun v s1 h1=>thn h1 fun itv s2 h2=>?_;obtain⟨it,fp,tn,J,H2,e,I2,T,st2,f2,W,⟨m0,w0⟩,turn⟩:=h2;subst e;refine wpAny_newObj_type (wpAny_newFunctionEnv S.nocell (by intro y hy;simp at hy) (fun h3 hns hsb=>?_) S.kind);dsimp only at hns hsb |-;have hold:∀b∈fp,b<s2.heap.objs.size:=fun b hb=>by
  obtain⟨o,q,_⟩:=T.obj _ _ st2 b hb;exact lt_size q
 generalize hD:s2.heap.objs.size=D at hns hsb;generalize hH2:s2.heap.push { cls:=.type "list",dict:=none,data:=.seq ([]:List Value).toArray }=P2 at hns hsb |-;have hC:P2.objs.size=D+1:=by rw[<- hH2,size_push,hD]
 generalize hC':P2.objs.size=C at hns hsb |-;rw[hC'] at hC;have old:∀b o,s2.heap.get? b=some o->h3.get? b=some o:=fun b o q=>by
  have hb:=lt_size q;exact hsb.extBut b o (na1 hb hD hC) (get?_push_of_some _ (hH2 ▸ get?_push_of_some _ q))
 have accD:h3.get? D=some { cls:=.type "list",data:=.seq ([]:List Value).toArray }:=
  hsb.extBut _ _ (na2 hC) (get?_push_of_some _ (by rw[<- hH2,<- hD];exact get?_push_size _ rfl))
 have hfr:D∉frs X.stack:=fun z=>by
  rcases mem_cons.mp (I2.rF D z) with q|q
  ·exact na0 I2.lt hD q.symm
  exact I2.T9 (na4 hD) q
 have I0:Inv (cP X N scope cl C s2 H2 fp) [(D,{ cls:=.type "list",data:=.seq ([]:List Value).toArray })] (qd mp σ) H2 { s2 with heap:=h3,toks:=s2.toks+([]:List (Str×Value)).length }:=
  Gw (s':={ s2 with heap:=h3,toks:=s2.toks+([]:List (Str×Value)).length }) hNX hkX S I2 f2 hold (na3 hD hC) hsub hhas rfl rfl ⟨_,hns⟩ old fun p hp=>by
   have ep:=mem_singleton.mp hp;subst ep;exact⟨accD,I2.hok.fresh (na4 hD),na2 hC,hfr,fun v z=>by cases z⟩
 have T0:tn 0 h3:=T.keep _ _ _ st2 fun b _ o q=>old b o q;have loop:∀z:Shared,z={ s2 with heap:=h3,toks:=s2.toks+([]:List (Str×Value)).length } ->
   codeAny (model X.prog X.w) X.A (.compLoop (.ListComp elt [⟨tg,iter,ifs,0⟩] scope pos) 0 (.ref it) (.ref D) (compEnvC scope cl C X.env))
    (compPost (model X.prog X.w) X.A X.xe none (EP X pins σ Q) (.ref D) C) z:=by
  rintro z rfl;have stat:∀{H':Hp}{pl:List (Addr×Obj)},(∀b∈fp,H' b=none)->(∀p∈pl,p.1=D)->∀b∈fp,rC (cP X N scope cl C s2 H2 fp) pl H' b:=fun hn hp b hb=>by
   have hb2:=hold b hb;refine⟨hn b hb,na1 hb2 hD hC,(Em hkX S I2 f2 hold (na3 hD hC) hsub hhas).exfs b hb,.inl hb,fun x c q=>(f2 b hb).2.2.2.2.1 x c (hsub x c q),fun p hpp=>?_⟩;have hpD:=hp p (by simpa [cP] using hpp);rw[hpD];exact(na0 hb2 hD).symm
  refine xV (env:=compEnvC scope cl C X.env) (fun n z=>∃i acc τ H' its k,Inv (cP X N scope cl C s2 H2 fp) [(D,{ cls:=.type "list",data:=.seq (List.toArray its) k })] τ H' z/\tn i z.heap/\(∀b∈fp,H' b=none)/\Vals acc its/\acc.length<=sizeLine/\W i n acc τ H')
   ?_ m0 ⟨0,[],_,H2,[],0,I0,T0,fun b hb=>(f2 b hb).1,.nil,zero_le _,w0⟩
  rintro n s5 ⟨i,acc,τ,H5,its,k,I5,st5,fr5,va,hz,w5⟩;rcases turn i n acc τ H5 w5 with⟨stop,qn⟩|⟨go,hz2,N9,hN9,step⟩
  ·refine thn (T.done (cP X N scope cl C s2 H2 fp) rfl rfl rfl hc i _ s5 τ H5 _ I5 (stat fr5 (by simp)) st5 stop) fun r s6 ⟨hr,I6⟩=>?_;subst hr;obtain⟨m6,hn6,_⟩:=I6.loc;refine⟨m6,hn6,fun h' sb=>?_⟩;obtain⟨dD,nD,_,_,_⟩:=I6.pin (D,_) (mem_append_right _ (mem_singleton.mpr rfl));have U:=I6.base;have nC:H5 C=none:=I6.free;have ne:∀b o,s2.heap.get? b=some o->b≠C/\b≠D:=fun b o q=>by
    exact⟨na1 (lt_size q) hD hC,na0 (lt_size q) hD⟩
   have keepC:∀b o,b≠C->s6.heap.get? b=some o->h'.get? b=some o:=fun b o hb q=>(sb.2 b hb).trans q;have U':Un (frs X.stack) fp H2 (upd H5 D (.lst acc)) s2.heap h':=by
    refine⟨fun b o q n1 hb hx=>keepC b o (ne b o q).1 (U.keep b o q n1 hb hx),fun b o q n1 hb hx=>?_,fun b o q n1 hx=>?_,fun b o q hx=>?_,fun b xs q=>?_,fun b o xs q=>?_,fun b ps q=>?_⟩
    ·obtain⟨sl,z⟩:=U.slot b o q n1 hb hx;exact⟨sl,keepC b _ (ne b o q).1 z⟩
    ·rw[aO (ne b o q).2];exact U.free b o q n1 hx
    ·obtain⟨o',z⟩:=U.there b o q hx;exact⟨o',keepC b _ (ne b o q).1 z⟩
    ·have z:=U.tups b xs q;rw[aO (aF z nD)];exact z
    ·have z:=U.frzs b o xs q;rw[aO (aF z nD)];exact z
    obtain⟨more,z⟩:=U.tbls b ps q;exact⟨more,by rw[aO (aF z nD)];exact z⟩
   have hok:HOk X.prog X.w (upd H5 D (.lst acc)) h':=fun b u q=>by
    by_cases hb:b=D
    ·subst hb;rw[aB] at q;cases q;exact⟨hz,its,k,va,keepC _ _ (na2 hC) dD⟩
    rw[aO hb] at q;refine(I6.hok b u q).stay (fun c v hcc z=>keepC c v ?_ z) (fun c z=>by rw[aO (aF z nD)];exact z) fun c xs z=>by rw[aO (aF z nD)];exact z
    rcases hcc with z1|z1
    ·subst z1;exact aF q nC
    exact aF z1 nC
   have I7:Inv X pins σ (upd H5 D (.lst acc)) { s6 with heap:=h' }:=I2.call' (s':={ s6 with heap:=h' }) (ch:=fp) I6.os U' hok I6.bare fun b hb=>by
    obtain⟨_,a2,_,a4,a5,a6⟩:=f2 b hb;exact⟨a4,a2,a5,a6⟩
   exact⟨.ref D,_,I7,rfl,qn D nD⟩
  refine thn (T.item (cP X N scope cl C s2 H2 fp) rfl rfl rfl hc i _ s5 τ H5 _ I5 (stat fr5 (by simp)) st5 go) fun r s6 ⟨u,hr,h6⟩=>?_;subst hr;refine thn h6 fun _ s7 ⟨x,H7,I7,r7,y7,st7,fr7⟩=>?_;have I7':=I7.pinned (stat fr7 (by simp)) (T.obj _ _ st7);have no:∀{α:Type}{t:Sem α}{Q1 Q2:α->Shared->Prop}{E:Value->Shared->Prop}{z:Shared},wpAny (model X.prog X.w) X.A t Q1 (fun _ _=>False) z->(∀a z,Q1 a z->Q2 a z)->wpAny (model X.prog X.w) X.A t Q2 E z:=
   fun q f=>wpAny_mono q f fun _ _ z=>z.elim
  refine no (hg cl C s2 H2 fp _ s7 τ H7 x u _ I7' r7 (step x H7 y7)) fun _ s8 ⟨τ1,H8,I8,q8⟩=>?_;refine no (ht cl C s2 H2 fp _ s8 τ1 H8 _ I8 q8) fun ok s9 ⟨H9,I9,q9⟩=>?_;have again:∀{H':Hp}{z:Shared}{its':List Value}{k':Nat},Inv (cP X N scope cl C s2 H2 fp) ([(D,{ cls:=.type "list",data:=.seq (List.toArray its') k' })]++j9 fp s7.heap) τ1 H' z ->
    tn (i+1) z.heap/\(∀b∈fp,H' b=none)/\Inv (cP X N scope cl C s2 H2 fp) [(D,{ cls:=.type "list",data:=.seq (List.toArray its') k' })] τ1 H' z:=fun {H' z its' k'} Iz=>by
   have get:∀b∈fp,∀o,s7.heap.get? b=some o->z.heap.get? b=some o/\H' b=none:=fun b hb o q=>by
    obtain⟨a1,a2,_⟩:=Iz.pin (b,o) (mem_append_right _ (mem_append_right _ (lY hb q)));exact⟨a1,a2⟩
   refine⟨T.keep _ _ _ st7 fun b hb o q=>(get b hb o q).1,fun b hb=>?_,Iz.mH⟩;obtain⟨o,q,_⟩:=T.obj _ _ st7 b hb;exact(get b hb o q).2
  cases ok with
  | false=>
   rw[if_neg Bool.false_ne_true] at q9 |-;obtain⟨m',hm,w9⟩:=hN9 _ _ _ q9;obtain⟨a1,a2,a3⟩:=again I9;exact⟨m',hm,i+1,acc,τ1,H9,its,k,a3,a1,a2,va,hz,w9⟩
  | true=>
   rw[if_pos rfl] at q9 |-;refine no (he cl C s2 H2 fp _ s9 τ1 H9 _ I9 q9) fun y s10 ⟨v,H10,I10,rv,q10⟩=>?_;obtain⟨m',hm,w10⟩:=hN9 _ _ _ q10;obtain⟨a1,a2,a3⟩:=again I10;obtain⟨dD,nD,_,_,_⟩:=a3.pin (D,_) (mem_append_right _ (mem_singleton.mpr rfl));have hlen:=va.length;refine call_meets F.slot_list_append ⟨_,dD,rfl⟩ F.entry_list_append (F.args_list_append_2 _ _) (PySem.list_append D its.toArray k y (by rw[size_toArray];omega)) ⟨dD,?_⟩;obtain⟨k',q⟩:∃k',(s10.heap.update D (Obj.mapSeq fun a=>a.push y)).get? D=some { cls:=.type "list",data:=.seq (its++[y]).toArray k' }:=by
    have q:=PySem.IsL.update dD (fun a=>a.push y);rw[show its.toArray.push y=(its++[y]).toArray by simp] at q;exact⟨_,q⟩
   have a4:Inv (cP X N scope cl C s2 H2 fp) (j9 fp s7.heap) τ1 H10 s10:=I10.nU fun p hp=>I10.pin p (mem_append_right _ (mem_append_right _ hp));have a5:Inv (cP X N scope cl C s2 H2 fp) (j9 fp s7.heap) τ1 H10 { s10 with heap:=s10.heap.update D (Obj.mapSeq fun a=>a.push y),toks:=s10.toks }:=
    a4.turned (it:=D) (fun b o hb z=>(get?_update_other _ _ (Ne.symm hb)).trans z) nD (na2 hC) (.inr (na4 hD))
     (fun x c z=>by
      obtain⟨_,o,h1,_⟩:=I2.cell x c (hsub x c z);exact na0 (lt_size h1) hD) fun p hp=>by
      have hb:=(rT (by simpa [cP] using hp)).1;exact na0 (hold _ hb) hD
   obtain⟨b1,b2,b3⟩:=(show tn (i+1) (s10.heap.update D (Obj.mapSeq fun a=>a.push y))/\(∀b∈fp,H10 b=none)/\True from
    ⟨T.keep _ _ _ a1 fun b hb o z=>(get?_update_other _ _ (na0 (hold b hb) hD).symm).trans z,a2,trivial⟩)
   refine⟨m',hm,i+1,acc++[v],τ1,H10,its++[y],k',a5.nU fun p hp=>?_,b1,b2,va.append (.cons rv .nil),by rw[length_append,length_singleton];omega,w10⟩;have ep:=mem_singleton.mp hp;subst ep;exact⟨q,nD,na2 hC,hfr,fun v z=>by cases z⟩
 have e1:{ newEnv scope C X.env.globals cl X.env.qual none .none (some X.env) X.env.builtins with scope:=relabel scope X.env }=compEnvC scope cl C X.env:=rfl;exact codeAny_compStart_list (loop _ rfl) (T.self _ 0 _ _ _ T0 (loop _ rfl))
end
section
variable {X:Cx}{pins:List (Addr×Obj)}{σ:St}{H:Hp}{s:Shared}
theorem Inv.Rm {ch:List Addr}{h':Heap}{t':Nat}(I:Inv X pins σ H s)(hf:∀b∈ch,rC X pins H b)(k:∀b o,b∉ch->s.heap.get? b=some o->h'.get? b=some o):Inv X pins σ H { s with heap:=h',toks:=t' }:=by
 have nit:∀b u,H b=some u->b∉ch:=fun b u e z=>by rw[(hf b z).1] at e;cases e
 refine I.step (g':=s.gens) (d':=s.drawn) (ch:=ch) (fun b hb=>?_) (fun b o _ _ hc e _=>k b o hc e) (fun b o _ _ hc e _=>⟨o.slots,k b o hc e⟩) (fun _ _ _ _ n=>n)
  (fun b o hc e=>⟨o,k b o hc e⟩) (fun _ _ e=>e) (fun _ _ _ e=>e) (fun b ps e=>⟨#[],by rw[e];simp⟩) (fun m hm=>?_) (fun b u e=>?_) I.bare
 ·obtain⟨_,a2,_,a4,a5,a6⟩:=hf b hb;exact⟨a4,a2,a5,a6⟩
 ·obtain⟨o,es,ep,ho,r⟩:=hm;exact⟨o,es,ep,k _ o (fun z=>(hf _ z).2.1 rfl) ho,r⟩
 refine(I.hok b u e).stay (fun c v hc q=>k c v ?_ q) (fun _ q=>q) fun _ _ q=>q;rcases hc with z|z
 ·rw[z];exact nit b u e
 exact nit c _ z
theorem Inv.Rk {ch:List Addr}{h':Heap}{t':Nat}{p:Addr}{o:HO}(I:Inv X pins σ H s)(hf:∀b∈ch,rC X pins H b)(k:∀b o,b∉ch->s.heap.get? b=some o->h'.get? b=some o)(hp:s.heap.objs.size<=p)
  (new:dh X.prog X.w (upd H p o) h' p o):Inv X pins σ (upd H p o) { s with heap:=h',toks:=t' }:=by
 have hn:H p=none:=I.hok.fresh hp;have nit:∀b u,H b=some u->b∉ch:=fun b u e z=>by rw[(hf b z).1] at e;cases e
 have lt:∀b u,s.heap.get? b=some u->b≠p:=fun b u e=>ne_of_lt (lt_of_lt_of_le (lt_size e) hp);refine I.step (g':=s.gens) (d':=s.drawn) (ch:=ch) (fun b hb=>?_) (fun b o _ _ hc e _=>k b o hc e) (fun b o _ _ hc e _=>⟨o.slots,k b o hc e⟩) (fun b o _ e n=>by rw[aO (lt b o e)];exact n)
  (fun b o hc e=>⟨o,k b o hc e⟩) (fun b xs e=>by rw[aO (aF e hn)];exact e) (fun b u xs e=>by rw[aO (aF e hn)];exact e) (fun b ps e=>⟨#[],by rw[aO (aF e hn),e];simp⟩) (fun m hm=>?_) (fun b u e=>?_) I.bare
 ·obtain⟨_,a2,_,a4,a5,a6⟩:=hf b hb;exact⟨a4,a2,a5,a6⟩
 ·obtain⟨o,es,ep,ho,r⟩:=hm;exact⟨o,es,ep,k _ o (fun z=>(hf _ z).2.1 rfl) ho,r⟩
 by_cases hb:b=p
 ·subst hb;rw[aB] at e;cases e;exact new
 rw[aO hb] at e;refine(I.hok b u e).stay (fun c v hc q=>k c v ?_ q) (fun c q=>by rw[aO (aF q hn)];exact q) fun c xs q=>by rw[aO (aF q hn)];exact q
 rcases hc with z|z
 ·rw[z];exact nit b u e
 exact nit c _ z
end
noncomputable def Ite (K:PySem.W.Frag)(a:Addr):It:=
 ⟨fun i H=>∃xs x,SqL K H a xs/\xs[i]?=some x,
  fun i H v H'=>∃p x,v=.ref p/\H p=none/\H'=upd H p (.tup [.int (i:Nat),x])/\∀xs,SqL K H a xs->xs[i]?=some x,
  fun i H=>∃xs,SqL K H a xs/\xs[i]?=none⟩
theorem GQ {P:Program}{w:World}{K:PySem.W.Frag}{es:List Expr}{kk:Nat}{tpos:Pos}{e it l:Addr}(hne:e≠it) :
  Turn P w K (.Tuple es kk tpos) (Ite K l) [e,it] e (fun i h=>(∃old,IsEnum h e it ((i:Nat):Int) old)/\h.IsListIter it l i) where
 mem:=by simp
 obj:=fun i h st b hb=>by
  obtain⟨⟨old,he⟩,⟨o1,e1,c1,d1⟩⟩:=st;simp only[mem_cons,not_mem_nil,or_false] at hb;rcases hb with rfl|rfl
  ·exact⟨_,he,fun v q=>by cases q⟩
  exact⟨o1,e1,fun v q=>by rw[d1] at q;cases q⟩
 keep:=fun i h h' st k=>by
  obtain⟨⟨old,he⟩,h1⟩:=st;exact⟨⟨old,k e (by simp) _ he⟩,h1.at fun o q=>k it (by simp) o q⟩
 item:=by
  intro X hP hw hK hc i pins s σ H E I hf st hg;subst hP hw hK;obtain⟨xs,x,q1,hx⟩:=hg;obtain⟨its1,rv1,p1,hz1⟩:=I.list q1;obtain⟨u1,hu1,ru1⟩:=rv1.get hx;obtain⟨⟨old,he⟩,h1⟩:=st;refine wpAny_pyNext_enum_item he h1 p1.isList (x:=u1) (by simpa using hu1) hne fun h' a1 a2 a3 a4 hk=>?_;have new:dh X.prog X.w (upd H s.heap.objs.size (.tup [.int (i:Nat),x])) h' s.heap.objs.size (.tup [.int (i:Nat),x]):=⟨by show 2<=sizeLine;decide,[.int (i:Nat) s.toks,u1],.cons ⟨_,rfl⟩ (.cons ru1 .nil),_,a3,rfl,_,rfl⟩;have I1:Inv X pins σ (upd H s.heap.objs.size (.tup [.int (i:Nat),x])) { s with heap:=h',toks:=s.toks+1 }:=I.Rk (ch:=[e,it]) hf
   (fun b o hb q=>hk b o (fun z=>hb (by simp [z])) (fun z=>hb (by simp [z])) q) (le_refl _) new
  have hsz:∀b,b∈[e,it]->b≠s.heap.objs.size:=fun b hb=>by
   have lt:∃o,s.heap.get? b=some o:=by
    simp only[mem_cons,not_mem_nil,or_false] at hb;rcases hb with rfl|rfl
    ·exact⟨_,he⟩
    obtain⟨o,q,_⟩:=h1;exact⟨o,q⟩
   obtain⟨o,q⟩:=lt;exact ne_of_lt (lt_size q)
  refine⟨_,rfl,wpAny_letOwnedTupleGo_enum (s:={ s with heap:=h',toks:=s.toks+1 }) a1 fun h'' z2 sb=>?_⟩;have fz:=hf e (by simp);have I2:Inv X pins σ (upd H s.heap.objs.size (.tup [.int (i:Nat),x])) { s with heap:=h'',toks:=s.toks+1 }:=Inv.turned (s:={ s with heap:=h',toks:=s.toks+1 }) (it:=e) I1 (fun b o hb q=>(sb.2 b hb).trans q) (by rw[aO (hsz e (by simp))];exact fz.1) fz.2.1 fz.2.2.2.1 fz.2.2.2.2.1 fz.2.2.2.2.2;refine⟨.ref s.heap.objs.size,_,I2,rfl,⟨_,x,rfl,I.fresh,rfl,fun xs' q=>by rw[I.Bx q q1];exact hx⟩,
   ⟨⟨_,by simpa using z2⟩,a2.extBut sb.extBut hne.symm⟩,fun b hb=>by rw[aO (hsz b hb)];exact(hf b hb).1⟩
 done:=by
  intro X hP hw hK hc i pins s σ H E I hf st hg;subst hP hw hK;obtain⟨xs,q1,hx⟩:=hg;obtain⟨its1,rv1,p1,hz1⟩:=I.list q1;obtain⟨⟨old,he⟩,h1⟩:=st;refine wpAny_pyNext_enum_end (I.ok.hd hc) he h1 p1.isList (by simpa using rv1.none_of hx) fun h' hk=>⟨rfl,?_⟩;exact I.Rm (t':=s.toks) (ch:=[e,it]) hf (fun b o hb q=>hk b o (fun z=>hb (by simp [z])) q)
 self:=fun _ _ _ _ _ st h=>by
  obtain⟨⟨old,he⟩,_⟩:=st;exact wpAny_pyIter_enum he h
section
variable {X:Cx}
noncomputable def V9 (K:PySem.W.Frag):List V->Hp->VK->Prop:=fun xs H Q=>∃x T t b,xs=[x,.ty T]/\oW K H x t/\kitOne K t (.type T)=some b/\Q (.bl b) H
theorem MP:dJ X (.builtin "isinstance") (V9 X.K):=by
 intro pins s σ H xs us Q I r h;obtain⟨x,T,t,b,rfl,ty,e,q⟩:=h;cases r with
 | cons r rr=>
  cases rr with
  | cons r' rr=>
   cases rr;cases (show _=Value.type T from r');exact Ib I r ty e fun tk=>⟨.bl b,H,I.tok tk,rfl,q⟩
noncomputable def Ve (K:PySem.W.Frag):List V->Hp->VK->Prop:=fun xs H Q=>∃x p Ts t b,xs=[x,.ref p]/\SqT K H p (List.map V.ty Ts)/\oW K H x t/\PySem.W.kitAny K t (Ts.map Value.type)=some b/\Q (.bl b) H
theorem Vals.types:∀{bs:List String}{us:List Value},Vals (bs.map V.ty) us->us=bs.map Value.type
 | [],_,.nil=>rfl
 | _::_,_,.cons r t=>by rw[Vals.types t,(show _=Value.type _ from r)];rfl
theorem Wj {x:V}{u t:Value}{pins:List (Addr×Obj)}{σ:St}{H:Hp}{s:Shared}(I:Inv X pins σ H s)(rx:RelV x u)(ty:oW X.K H x t)(hl:∀a C dx fs,H a=some (.ins C dx fs)->x≠.ref a) :
  ∃Hh:Heap->Prop,PySem.W.KitX X.K u t Hh/\Hh s.heap/\u≠.builtin "__main__.__loader__#opaque" := by
 cases ty with
 | non=>cases (show u=Value.none from rx);exact⟨_,PySem.W.kitx_none,True.intro,fun z=>nomatch z⟩
 | bl y=>cases (show u=Value.bool y from rx);exact⟨_,PySem.W.kitx_bool,True.intro,fun z=>nomatch z⟩
 | int i=>obtain⟨t,q⟩:=(show ∃t,u=Value.int i t from rx);cases q;exact⟨_,PySem.W.kitx_int,True.intro,fun z=>nomatch z⟩
 | str y=>obtain⟨t,q⟩:=(show ∃t,u=Value.str y t from rx);cases q;exact⟨_,PySem.W.kitx_str,True.intro,fun z=>nomatch z⟩
 | flt y=>obtain⟨t,q⟩:=(show ∃t,u=Value.float y t from rx);cases q;exact⟨_,PySem.W.kitx_float,True.intro,fun z=>nomatch z⟩
 | @lst a xs ea=>
  cases (show u=Value.ref a from rx);obtain⟨_,_,n,_,h1⟩:=(show dh X.prog X.w H s.heap a (.lst xs) from I.hok a _ ea);exact⟨_,PySem.W.kitx_list,⟨_,h1,rfl⟩,fun z=>nomatch z⟩
 | @frz a ob xs ea=>
  cases (show u=Value.ref a from rx);obtain⟨_,_,_,n,_,h1⟩:=(show dh X.prog X.w H s.heap a (.frz ob (.lst xs)) from I.hok a _ ea);exact⟨_,PySem.W.kitx_list,⟨_,h1,rfl⟩,fun z=>nomatch z⟩
 | @tup a xs ea=>
  cases (show u=Value.ref a from rx);obtain⟨_,_,_,p⟩:=(show dh X.prog X.w H s.heap a (.tup xs) from I.hok a _ ea);obtain⟨o,h1,h2,_⟩:=p;exact⟨_,PySem.W.kitx_tuple,⟨o,h1,h2⟩,fun z=>nomatch z⟩
 | @dK a kvs ea=>
  cases (show u=Value.ref a from rx);obtain⟨_,_,vs,_,p⟩:=(show dh X.prog X.w H s.heap a (.dK kvs) from I.hok a _ ea);obtain⟨o,es,ep,h1,h2,_⟩:=p;exact⟨_,PySem.W.kitx_dict,⟨o,h1,h2.1⟩,fun z=>nomatch z⟩
 | @dT a kvs ea=>
  cases (show u=Value.ref a from rx);obtain⟨_,_,xs,_,o,es,ep,h1,h2,_⟩:=(show dh X.prog X.w H s.heap a (.dT kvs) from I.hok a _ ea);exact⟨_,PySem.W.kitx_dict,⟨o,h1,h2.1⟩,fun z=>nomatch z⟩
 | @ins a C dx fs ea cl ha hn htk hm=>exact absurd rfl (hl a C dx fs ea)
theorem Je:dJ X (.builtin "isinstance") (fun xs H Q=>Ve X.K xs H Q/\∀a C dx fs,H a=some (.ins C dx fs)->xs.head?≠some (.ref a)):=by
 intro pins s σ H xs us Q I r h;obtain⟨⟨x,p,Ts,t,b,rfl,hq,ty,e,q⟩,hl⟩:=h;cases r with
 | cons r rr=>
  cases rr with
  | cons r' rr=>
   cases rr;cases r';obtain⟨Hh,Z,hh,ne⟩:=Wj I r ty fun a C dx fs z w'=>hl a C dx fs z (by rw[w'];rfl);obtain⟨its,rv,⟨o,ho,hcl,n,hd⟩,hz⟩:=I.tuple hq;have ei:=rv.types;subst ei;obtain⟨c0,d0,dt0,sl0⟩:=o;cases (show c0=Value.type "tuple" from hcl);cases (show dt0=Data.seq (List.map Value.type Ts).toArray n from hd);exact PySem.W.kia_tup Z I.kIn hh ho e ne fun tk=>⟨.bl b,H,I.tok tk,rfl,q⟩
end
inductive Tn (H:Hp):V->String->Prop where
 | non:Tn H .non "NoneType"
 | bl (b:Bool):Tn H (.bl b) "bool"
 | int (i:Int):Tn H (.int i) "int"
 | str (x:Str):Tn H (.str x) "str"
 | lst {a:Addr} {xs:List V} (e:H a=some (.lst xs)):Tn H (.ref a) "list"
 | tup {a:Addr} {xs:List V} (e:H a=some (.tup xs)):Tn H (.ref a) "tuple"
theorem Tn.ty {K:PySem.W.Frag}{H:Hp}{x:V}{t:String}(h:Tn H x t):oW K H x (.type t):=by
 cases h with
 | non=>exact .non
 | bl b=>exact .bl b
 | int i=>exact .int i
 | str x=>exact .str x
 | lst e=>exact .lst e
 | tup e=>exact .tup e
noncomputable def d9 (t T:String):Bool:=t == T||(t == "bool" && T == "int")
noncomputable def fu:List String:=["NoneType","bool","int","str","list","tuple"]
theorem Gd (K:PySem.W.Frag):∀t∈fu,∀T∈fu,kitOne K (.type t) (.type T)=some (d9 t T):=by
 intro t ht T hT;simp only[fu,mem_cons,not_mem_nil,or_false] at ht hT;rcases ht with rfl|rfl|rfl|rfl|rfl|rfl <;> rcases hT with rfl|rfl|rfl|rfl|rfl|rfl <;> first|rfl|kernel_rfl
theorem Tn.known {H:Hp}{x:V}{t:String}(h:Tn H x t):t∈fu:=by cases h <;> decide
section
variable {X:Cx}
theorem Jg:dJ X (.builtin "isinstance") (fun xs H Q=>∃x T t,xs=[x,.ty T]/\Tn H x t/\T∈fu/\Q (.bl (d9 t T)) H):=by
 intro pins s σ H xs us Q I r h;obtain⟨x,T,t,rfl,ty,hT,q⟩:=h;exact MP pins s σ H _ us Q I r ⟨x,T,_,_,rfl,ty.ty,Gd X.K t ty.known T hT,q⟩
theorem Ge (K:PySem.W.Frag){t:String}(ht:t∈fu):∀Ts:List String,(∀T∈Ts,T∈fu)->PySem.W.kitAny K (.type t) (Ts.map Value.type)=some (Ts.any fun T=>d9 t T)
 | [],_=>rfl
 | T::r,h=>by
  have e:=Gd K t ht T (h T mem_cons_self);have ih:=Ge K ht r fun T' h'=>h T' (mem_cons_of_mem _ h');show(match kitOne K (.type t) (.type T) with|some true=>some true|some false=>PySem.W.kitAny K (.type t) (r.map Value.type)|none=>none)=_
  rw[e,any_cons];cases d9 t T with
  | true=>rfl
  | false=>exact ih
theorem Jf:dJ X (.builtin "isinstance") (fun xs H Q=>∃x p Ts t,xs=[x,.ref p]/\H p=some (.tup (List.map V.ty Ts))/\Tn H x t/\(∀T∈Ts,T∈fu)/\Q (.bl (Ts.any fun T=>d9 t T)) H):=by
 intro pins s σ H xs us Q I r h;obtain⟨x,p,Ts,t,rfl,hp,ty,hT,q⟩:=h;refine Je pins s σ H _ us Q I r ⟨⟨x,p,Ts,_,_,rfl,SqT.of hp,ty.ty,Ge X.K ty.known Ts hT,q⟩,fun a C dx fs e z=>?_⟩;have z':x=.ref a:=by simpa using z
 subst z';cases ty with
 | lst e'=>rw[e] at e';cases e'
 | tup e'=>rw[e] at e';cases e'
noncomputable def Rw (i j:Int):Prop:=0<j/\j<2^70
theorem Bj:OpR X (binaryOp .FloorDiv) (rI Rw fun i j=>.int (i/j)):=opI fun i j _ _ _ _ _ hc q=>by
 have h1:(0:Int)<j:=hc.1;have h2:j<2^70:=hc.2;refine floordiv_int ω (by rw[Int.fdiv_eq_ediv_of_nonneg i ω];exact q) (.inl (PyProof.noPylong_of_log2 ?_));have h3:j.natAbs≠0:=ω;have h4:j.natAbs.log2<70:=(log2_lt h3).mpr ω;omega
end
noncomputable def aV (p:Addr)(H H':Hp):Prop:=∀b o,b≠p->H b=some o->H' b=some o
theorem aV.refl (p:Addr)(H:Hp):aV p H H:=fun _ _ _ h=>h
theorem aV.trans {p:Addr}{H H1 H2:Hp}(a:aV p H H1)(b:aV p H1 H2):aV p H H2:=fun c o n h=>b c o n (a c o n h)
theorem aV.upd {p:Addr}{H:Hp}{o:HO}:aV p H (upd H p o):=fun b u n h=>by rw[aO n];exact h
theorem Same.x {p:Addr}{H H':Hp}(h:Same H H'):aV p H H':=fun b o _ q=>h b o q
theorem aq {H:Hp}{p:Addr}{o:HO}(h:H p=none):Same H (upd H p o):=fun b u q=>by rw[aO (aF q h)];exact q
theorem aV.seq {K:PySem.W.Frag}{p:Addr}{H H':Hp}{a:Addr}{xs:List V}(e:aV p H H')(n:a≠p)(h:SqL K H a xs):SqL K H' a xs:=by
 rcases h with(h|⟨o,h⟩)|h
 ·exact .inl (.inl (e _ _ n h))
 ·exact .inl (.inr ⟨o,e _ _ n h⟩)
 exact .inr h
structure Cal (P:Program)(w:World)(K:PySem.W.Frag)(mg:Str->Option Value)(base:Heap)(x:Str)(k:Nat)(ps:List Str)(sp:Sp):Prop where
 ex:∃(f:Addr)(fd:FuncData),dM P w K mg base CX0 k f fd ps sp/\Binds K fd ps []/\keepIn K (.ref f)=true/\mg x=some (.ref f)
section
variable {X:Cx}{k:Nat}{ps:List Str}{sp:Sp}{x:Str}{p pos:Pos}{e:Expr}{es:List Expr}{t:TA}
theorem Tp (C:Cal X.prog X.w X.K X.mg X.base x k ps sp) (hr:gm k X.A) (hg:Gl X x) (ha:PA X (e::es) t) (hdb:(x == ("__debug__" : Str))=false:=by decide)
  (he:starEach (e::es) X.env=(false,eval e X.env)::starEach es X.env:=by rfl) (hpl:(backTo pos (starEach es X.env)).any (·.1)=false:=by rfl):PE X (.Call (.Name x p) (e::es) [] pos) (mJ sp [] E0 t):=by
 obtain⟨f,fd,F,b,kp,hm⟩:=C.ex;exact PB F hr hg hm kp b .nil KQ ha hdb he hpl
end
structure U5 (K:PySem.W.Frag)(mg:Str->Option Value)(x:Str)(st:Stmt)(ps:List Str)(f:Addr)(fd:FuncData):Prop where
 fn:Fun K x x st f fd
 bd:Binds K fd ps []
 nm:mg x=some (.ref f)
theorem U5.cal {P:Program}{w:World}{K:PySem.W.Frag}{mg:Str->Option Value}{base:Heap}{x:Str}{st:Stmt}{ps:List Str}{f:Addr}{fd:FuncData}{k:Nat}{sp:Sp}(D:U5 K mg x st ps f fd)(F:dM P w K mg base CX0 k f fd ps sp):Cal P w K mg base x k ps sp:=
 ⟨f,fd,F,D.bd,D.fn.kp,D.nm⟩
theorem JR (i j:Int):JS (.int i) (.int j)=true:=rfl
theorem N6 (i j:Bool):JS (.bl i) (.bl j)=true:=rfl
theorem JQ (i j:Str):JS (.str i) (.str j)=true:=rfl
theorem V1 {α:Type}(a:α)(r:List α):atI (a::r) 0=some a:=dw (j:=0) rfl
theorem GD {α:Type}(a b:α)(r:List α):atI (a::b::r) 1=some b:=dw (j:=1) rfl
theorem V0 {α:Type}(a b c:α)(r:List α):atI (a::b::c::r) 2=some c:=dw (j:=2) rfl
theorem Ma:ixN 3 0=some 0/\ixN 3 1=some 1/\ixN 3 2=some 2:=⟨δ,δ,δ⟩
theorem aX {n:Nat}(h:n<=1000000):n<=sizeLine:=le_trans h δ
noncomputable def ixq (o:Option HO)(i:Int)(H:Hp)(Q:VK):Prop:=match o with
 | some (.lst xs)=>∃v,atI xs i=some v/\Q v H
 | some (.tup xs)=>∃v,atI xs i=some v/\Q v H
 | _=>False
noncomputable def stq (o:Option HO)(p:Addr)(k:Int)(v:V)(H:Hp)(Q:Hp->Prop):Prop:=match o with
 | some (.lst xs)=>∃j,ixN xs.length k=some j/\Q (upd H p (.lst (xs.set j v)))
 | _=>False
noncomputable def lnq (o:Option HO)(H:Hp)(Q:VK):Prop:=match o with
 | some (.lst ys)=>Q (.int ys.length) H
 | some (.tup ys)=>Q (.int ys.length) H
 | _=>False
noncomputable def uW:R2:=fun x y H Q=>match x,y with
 | .ref p,.int i=>ixq (H p) i H Q
 | _,_=>False
noncomputable def JZ:V->V->V->Hp->(Hp->Prop)->Prop:=fun o i v H Q=>match o,i with
 | .ref p,.int k=>stq (H p) p k v H Q
 | _,_=>False
noncomputable def Fp:List V->Hp->VK->Prop:=fun xs H Q=>match xs with
 | [.ref p]=>lnq (H p) H Q
 | _=>False
theorem Az (p:Addr)(i:Int)(H:Hp)(Q:VK):uW (.ref p) (.int i) H Q=ixq (H p) i H Q:=rfl
theorem Hf (p:Addr)(k:Int)(v:V)(H:Hp)(Q:Hp->Prop):JZ (.ref p) (.int k) v H Q=stq (H p) p k v H Q:=rfl
theorem Hi (p:Addr)(H:Hp)(Q:VK):Fp [.ref p] H Q=lnq (H p) H Q:=rfl
theorem Qt (xs:List V)(i:Int)(H:Hp)(Q:VK):ixq (some (.lst xs)) i H Q=∃v,atI xs i=some v/\Q v H:=rfl
theorem NP (xs:List V)(p:Addr)(k:Int)(v:V)(H:Hp)(Q:Hp->Prop):stq (some (.lst xs)) p k v H Q=∃j,ixN xs.length k=some j/\Q (upd H p (.lst (xs.set j v))):=rfl
theorem Qn (xs:List V)(H:Hp)(Q:VK):lnq (some (.lst xs)) H Q=Q (.int xs.length) H:=rfl
theorem Qm (xs:List V)(H:Hp)(Q:VK):lnq (some (.tup xs)) H Q=Q (.int xs.length) H:=rfl
section
variable {X:Cx}
theorem bA:IxR X uW:=by
 intro value slice pins s σ H x y v u Q I rx ry h hs;unfold uW at h;split at h
 ·rename_i p i;unfold ixq at h;split at h
  ·rename_i xs e;obtain⟨z,hz,q⟩:=h;exact Gf value slice pins s σ H _ _ v u Q I rx ry ⟨p,xs,i,z,rfl,rfl,SqL.of e,hz,q⟩ hs
  ·rename_i xs e;obtain⟨z,hz,q⟩:=h;exact Uq value slice pins s σ H _ _ v u Q I rx ry ⟨p,xs,i,z,rfl,rfl,SqT.of e,hz,q⟩ hs
  exact h.elim
 exact h.elim
theorem uT:Jk X JZ:=by
 intro pins s σ H o i v ov iv u Q I ro ri rv h;unfold JZ at h;split at h
 ·rename_i p k;unfold stq at h;split at h
  ·rename_i xs e;obtain⟨j,hj,q⟩:=h;exact set_list pins s σ H _ _ v ov iv u Q I ro ri rv ⟨p,xs,k,j,rfl,rfl,e,hj,q⟩
  exact h.elim
 exact h.elim
theorem bx:dJ X (.builtin "len") Fp:=by
 intro pins s σ H xs us Q I r h;unfold Fp at h;split at h
 ·rename_i p;unfold lnq at h;split at h
  ·rename_i ys e;exact jw pins s σ H _ us Q I r ⟨p,ys,rfl,.inl (SqL.of e),h⟩
  ·rename_i ys e;exact jw pins s σ H _ us Q I r ⟨p,ys,rfl,.inr (SqT.of e),h⟩
  exact h.elim
 exact h.elim
end
noncomputable def Kc:List V->Hp->VK->Prop:=fun xs H Q=>match xs with
 | [.int i]=>Q (.int i) H
 | [.bl k]=>Q (.int (if k then 1 else 0)) H
 | _=>False
theorem Og (k:Bool)(H:Hp)(Q:VK):Kc [.bl k] H Q=Q (.int (if k then 1 else 0)) H:=rfl
theorem qb {X:Cx}:dJ X (.type "int") Kc:=by
 intro pins s σ H xs us Q I r h;unfold Kc at h;split at h
 ·exact xX pins s σ H _ us Q I r (.inl ⟨_,rfl,h⟩)
 ·exact xX pins s σ H _ us Q I r (.inr ⟨_,rfl,h⟩)
 exact h.elim
theorem aQ {t u:TS}{D:Ends}{σ:St}{H:Hp}(h:∀k,k=u D->t { D with nx:=k } σ H):G5 t u D σ H:=h _ rfl
theorem qW {wi:TI}{g:TG}{tb:TS}{D:Ends}{σ:St}{H:Hp}(h:∀R:It->Hp->Prop,R=(fun J H1=>∃W:Nat->Nat->St->Hp->Prop,(∃m,W 0 m σ H1)/\∀i m σ H,W i m σ H ->
  (J.stop i H/\D.nx σ H)\/(J.go i H/\∃N:St->Hp->Prop,(∀σ' H',N σ' H'->∃m',m'<m/\W (i+1) m' σ' H')/\∀x H',J.yld i H x H'->g x σ H' fun σ2 H2=>tb { D with nx:=N,ct:=N,bk:=D.nx } σ2 H2))->wi σ H R):RL wi g tb D σ H:=h _ rfl
theorem BZ {lo:Int}{n:Nat}{g:TG}{tb:TS}{D:Ends}{σ:St}{H:Hp}{R:It->Hp->Prop}(hR:R=(fun J H1=>∃W:Nat->Nat->St->Hp->Prop,(∃m,W 0 m σ H1)/\∀i m σ H,W i m σ H ->
  (J.stop i H/\D.nx σ H)\/(J.go i H/\∃N:St->Hp->Prop,(∀σ' H',N σ' H'->∃m',m'<m/\W (i+1) m' σ' H')/\∀x H',J.yld i H x H'->g x σ H' fun σ2 H2=>tb { D with nx:=N,ct:=N,bk:=D.nx } σ2 H2)))
  (Pv:Nat->St->Hp->Prop) (h0:Pv 0 σ H) (hs:∀i σ H,i<n->Pv i σ H->g (.int (lo+i)) σ H fun σ2 H2=>tb { D with nx:=Pv (i+1),ct:=Pv (i+1),bk:=D.nx } σ2 H2) (hd:∀σ H,Pv n σ H->D.nx σ H):R (Itr lo n) H:=by
 subst hR;exact Ip Pv h0 hs hd
noncomputable def Nq (mp:List (Option Nat))(g:TG)(tc:TT)(te:TE)(σ:St)(Q:VK)(J:It)(H1:Hp):Prop:=∃W:Nat->Nat->List V->St->Hp->Prop,(∃m,W 0 m [] (qd mp σ) H1)/\∀i m acc τ H2,W i m acc τ H2 ->
  (J.stop i H2/\∀d,H2 d=none->Q (.ref d) (upd H2 d (.lst acc))) \/
  (J.go i H2/\acc.length<sizeLine/\∃N:List V->St->Hp->Prop,(∀acc' τ' H',N acc' τ' H'->∃m',m'<m/\W (i+1) m' acc' τ' H')/\∀x H3,J.yld i H2 x H3->g x τ H3 fun τ1 H4=>tc τ1 H4 fun b H5=>
   if b=true then te τ1 H5 fun v H6=>N (acc++[v]) τ1 H6 else N acc τ1 H5)
theorem fB {mp:List (Option Nat)}{wi:TI}{g:TG}{tc:TT}{te:TE}{σ:St}{H:Hp}{Q:VK}(h:∀R:It->Hp->Prop,R=Nq mp g tc te σ Q->wi σ H R):w6 mp wi g tc te σ H Q:=h _ rfl
theorem Q7 {J:It}{mp:List (Option Nat)}{g:TG}{tc:TT}{te:TE}{σ:St}{H:Hp}{Q:VK}{R:It->Hp->Prop}(hR:R=Nq mp g tc te σ Q)(n:Nat)(hz:n<=sizeLine)(Pv:Nat->List V->St->Hp->Prop)(h0:Pv 0 [] (qd mp σ) H)
  (hl:∀i acc τ H,Pv i acc τ H->acc.length<=i) (hgo:∀i acc τ H,i<n->Pv i acc τ H->J.go i H) (hst:∀acc τ H,Pv n acc τ H->J.stop n H)
  (hs:∀i acc τ H x H3,i<n->Pv i acc τ H->J.yld i H x H3->g x τ H3 fun τ1 H4=>tc τ1 H4 fun b H5=>if b=true then te τ1 H5 fun v H6=>Pv (i+1) (acc++[v]) τ1 H6 else Pv (i+1) acc τ1 H5)
  (hd:∀acc τ H d,Pv n acc τ H->H d=none->Q (.ref d) (upd H d (.lst acc))):R J H:=by
 subst hR;refine⟨fun i m acc τ H2=>m=n-i/\i<=n/\Pv i acc τ H2,⟨_,rfl,zero_le _,h0⟩,?_⟩;rintro i m acc τ H2 ⟨rfl,hi,p⟩;have q3:=hl i acc τ H2 p;by_cases hlt:i<n
 ·exact .inr ⟨hgo i acc τ H2 hlt p,ω,Pv (i+1),fun acc' τ' H' q=>⟨_,ω,rfl,hlt,q⟩,fun x H3 y=>hs i acc τ H2 x H3 hlt p y⟩
 have e:i=n:=ω;subst e;exact .inl ⟨hst acc τ H2 p,fun d hd'=>hd acc τ H2 d p hd'⟩
structure Nm (N:List Str)(sc:Scope)(i:Nat)(x:Str):Prop where
 hN:N[i]?=some x
 hv:Loc sc x
 hd:(x == ("__debug__" : Str))=false
 hcd:(x == ("__classdict__" : Str))=false
noncomputable def Vw (N:List Str) (sc:Scope) (i:Nat) (x:Str):Bool:=decide (N[i]?=some x)&&(decide (sc.names.lookup x=some .local)||decide (sc.names.lookup x=some .cell)) && !(x == ("__debug__" : Str)) && !(x == ("__classdict__" : Str))
theorem Nm.of {N:List Str}{sc:Scope}{i:Nat}{x:Str}(h:Vw N sc i x=true):Nm N sc i x:=by
 unfold Vw at h;rw[and_eq_true,and_eq_true,and_eq_true,Bool.or_eq_true] at h;obtain⟨⟨⟨h1,h2⟩,h3⟩,h4⟩:=h;exact⟨of_decide_eq_true h1,h2.elim (fun z=>.inl (of_decide_eq_true z)) (fun z=>.inr (of_decide_eq_true z)),by simpa using h3,by simpa using h4⟩
structure Bn (x:Str):Prop where
 hn:x ≠ "__name__"
 hd:(x == ("__debug__" : Str))=false
section
variable {X:Cx}{i:Nat}{x:Str}{pos pos' p:Pos}{e:Expr}{es:List Expr}{te:TE}{t:TA}{k:Nat}{ps:List Str}{sp:Sp}{id T:String}{r:List V->Hp->VK->Prop}
theorem pn (n:Nm X.N X.env.scope i x):PE X (.Name x pos) (G3 i):=Kw n.hN (n.hv.elim .inl fun z=>.inr (.inl z)) n.hd n.hcd
theorem Vh (n:Nm X.N X.env.scope i x)(hN:X.N.Nodup)(he:PE X e te)(hs:swapsWith e (some (.Name x pos')) pos.line X.env=pure false:=by rfl)(hf:X.fn x=true\/X.env.scope.names.lookup x=some .local:=by exact .inl rfl) :
  PS X (.Assign [.Name x pos'] e pos) (tU te (j4 i)):=SM hN n.hN n.hv he hs hf
theorem Vj (n:Nm X.N X.env.scope i x)(hN:X.N.Nodup)(hf:X.fn x=true\/X.env.scope.names.lookup x=some .local:=by exact .inl rfl):PG X (.Name x pos) (j4 i):=Fz hN n.hN n.hv hf
theorem Vn (C:Cal X.prog X.w X.K X.mg X.base x k ps sp)(hr:gm k X.A)(hg:Gl X x)(hdb:Bn x)(ha:PA X (e::es) t)
  (he:starEach (e::es) X.env=(false,eval e X.env)::starEach es X.env:=by rfl) (hpl:(backTo pos (starEach es X.env)).any (·.1)=false:=by rfl):PE X (.Call (.Name x p) (e::es) [] pos) (mJ sp [] E0 t):=
 Tp C hr hg ha hdb.hd he hpl
theorem Vo (hc:dJ X (.builtin id) r)(hg:Gl X x)(hm:X.mg x=none)(hv:bootBuiltins x=some (.builtin id))(b:Bn x)(ha:PA X (e::es) t)
  (he:starEach (e::es) X.env=(false,eval e X.env)::starEach es X.env:=by rfl) (hpl:(backTo pos (starEach es X.env)).any (·.1)=false:=by rfl):PE X (.Call (.Name x p) (e::es) [] pos) (tCB r t):=KN hc hg hm hv ha b.hn b.hd he hpl
theorem Vm (hc:dJ X (.type T) r)(hg:Gl X x)(hm:X.mg x=none)(hv:bootBuiltins x=some (.type T))(b:Bn x)(ha:PA X (e::es) t)
  (he:starEach (e::es) X.env=(false,eval e X.env)::starEach es X.env:=by rfl) (hpl:(backTo pos (starEach es X.env)).any (·.1)=false:=by rfl):PE X (.Call (.Name x p) (e::es) [] pos) (tCB r t):=Hs hc hg hm hv ha b.hn b.hd he hpl
theorem Vp (n:String)(hg:Gl X x)(hm:X.mg x=none)(hv:bootBuiltins x=some (.type n))(b:Bn x):PE X (.Name x pos) (tC (.ty n)):=PJ hg hm hv rfl b.hn b.hd
end
theorem cT:Bn "len" := ⟨ψ,ψ⟩
theorem M5:Bn "abs" := ⟨ψ,ψ⟩
theorem MT:Bn "min" := ⟨ψ,ψ⟩
theorem M4:Bn "max" := ⟨ψ,ψ⟩
theorem bw:Bn "isinstance" := ⟨ψ,ψ⟩
theorem sZ:Bn "int" := ⟨ψ,ψ⟩
theorem j6:Bn "list" := ⟨ψ,ψ⟩
theorem gO:Bn "tuple" := ⟨ψ,ψ⟩
theorem zW:Bn "str" := ⟨ψ,ψ⟩
theorem qZ:Bn "bool" := ⟨ψ,ψ⟩
theorem GC:Bn "repr" := ⟨ψ,ψ⟩
noncomputable def tyO:Option HO->Option String
 | some (.lst _)=>some "list"
 | some (.tup _)=>some "tuple"
 | _=>none
noncomputable def tyN (x:V)(H:Hp):Option String:=match x with
 | .non=>some "NoneType"
 | .bl _=>some "bool"
 | .int _=>some "int"
 | .str _=>some "str"
 | .ref a=>tyO (H a)
 | _=>none
theorem Tn.of {x:V}{H:Hp}{t:String}(h:tyN x H=some t):Tn H x t:=by
 cases x with
 | non=>cases h;exact .non
 | bl b=>cases h;exact .bl b
 | int i=>cases h;exact .int i
 | str s=>cases h;exact .str s
 | ref a=>
  have h':tyO (H a)=some t:=h;cases e:H a with
  | none=>rw[e] at h';cases h'
  | some o=>
   rw[e] at h';cases o with
   | lst xs=>cases h';exact .lst e
   | tup xs=>cases h';exact .tup e
   | _=>cases h'
 | _=>cases h
noncomputable def Ka:List V->Hp->VK->Prop:=fun xs H Q=>match xs with
 | [x,.ty T]=>∃t,tyN x H=some t/\fu.contains T=true/\Q (.bl (d9 t T)) H
 | _=>False
noncomputable def i2q (o:Option HO)(x:V)(H:Hp)(Q:VK):Prop:=match o with
 | some (.tup [.ty T,.ty U])=>∃t,tyN x H=some t/\fu.contains T=true/\fu.contains U=true/\Q (.bl (d9 t T||d9 t U)) H
 | _=>False
noncomputable def J8:List V->Hp->VK->Prop:=fun xs H Q=>match xs with
 | [x,.ref p]=>i2q (H p) x H Q
 | _=>False
theorem cJ {X:Cx}:dJ X (.builtin "isinstance") Ka:=by
 intro pins s σ H xs us Q I r h;unfold Ka at h;split at h
 ·obtain⟨t,e,k,q⟩:=h;exact Jg pins s σ H _ us Q I r ⟨_,_,t,rfl,Tn.of e,by simpa using k,q⟩
 exact h.elim
theorem xW {X:Cx}:dJ X (.builtin "isinstance") J8:=by
 intro pins s σ H xs us Q I r h;unfold J8 at h;split at h
 ·rename_i x p;unfold i2q at h;split at h
  ·rename_i T U e;obtain⟨t,e1,k1,k2,q⟩:=h;refine Jf pins s σ H _ us Q I r ⟨x,p,[T,U],t,rfl,e,Tn.of e1,fun z hz=>?_,by simpa using q⟩;rcases mem_cons.mp hz with rfl|hz
   ·simpa using k1
   obtain rfl:=mem_singleton.mp hz;simpa using k2
  exact h.elim
 exact h.elim
theorem J9 (x:V)(T:String)(H:Hp)(Q:VK):Ka [x,.ty T] H Q=∃t,tyN x H=some t/\fu.contains T=true/\Q (.bl (d9 t T)) H:=rfl
theorem J7 (x:V)(p:Addr)(H:Hp)(Q:VK):J8 [x,.ref p] H Q=i2q (H p) x H Q:=rfl
theorem Uv (x:V)(T U:String)(H:Hp)(Q:VK):i2q (some (.tup [.ty T,.ty U])) x H Q=∃t,tyN x H=some t/\fu.contains T=true/\fu.contains U=true/\Q (.bl (d9 t T||d9 t U)) H:=rfl
theorem Qs:fu.contains "list" = true:=by decide
theorem LC:fu.contains "tuple" = true:=by decide
theorem Uo:fu.contains "int" = true:=by decide
theorem Um:fu.contains "str" = true:=by decide
theorem kc_bool:fu.contains "bool" = true:=by decide
theorem ty_int (i:Int) (H:Hp):tyN (.int i) H=some "int" := rfl
theorem U8 (i:Bool) (H:Hp):tyN (.bl i) H=some "bool" := rfl
theorem ty_str (i:Str) (H:Hp):tyN (.str i) H=some "str" := rfl
theorem Ry (H:Hp):tyN .non H=some "NoneType" := rfl
theorem Rx (p:Addr)(H:Hp):tyN (.ref p) H=tyO (H p):=rfl
theorem Nt (xs:List V):tyO (some (.lst xs))=some "list" := rfl
theorem Nr (xs:List V):tyO (some (.tup xs))=some "tuple" := rfl
theorem rO:d9 "NoneType" "bool" = false:=by decide
theorem tZ:d9 "NoneType" "int" = false:=by decide
theorem tY:d9 "NoneType" "str" = false:=by decide
theorem rN:d9 "NoneType" "list" = false:=by decide
theorem qu:d9 "NoneType" "tuple" = false:=by decide
theorem yL:d9 "bool" "bool" = true:=by decide
theorem Ax:d9 "bool" "int" = true:=by decide
theorem Aw:d9 "bool" "str" = false:=by decide
theorem yK:d9 "bool" "list" = false:=by decide
theorem wu:d9 "bool" "tuple" = false:=by decide
theorem Av:d9 "int" "bool" = false:=by decide
theorem Dl:d9 "int" "int" = true:=by decide
theorem Dk:d9 "int" "str" = false:=by decide
theorem Ar:d9 "int" "list" = false:=by decide
theorem yJ:d9 "int" "tuple" = false:=by decide
theorem Am:d9 "str" "bool" = false:=by decide
theorem Dj:d9 "str" "int" = false:=by decide
theorem Di:d9 "str" "str" = true:=by decide
theorem Al:d9 "str" "list" = false:=by decide
theorem yG:d9 "str" "tuple" = false:=by decide
theorem yI:d9 "list" "bool" = false:=by decide
theorem Aq:d9 "list" "int" = false:=by decide
theorem Ao:d9 "list" "str" = false:=by decide
theorem yH:d9 "list" "list" = true:=by decide
theorem wk:d9 "list" "tuple" = false:=by decide
theorem wj:d9 "tuple" "bool" = false:=by decide
theorem yF:d9 "tuple" "int" = false:=by decide
theorem yE:d9 "tuple" "str" = false:=by decide
theorem wg:d9 "tuple" "list" = false:=by decide
theorem uV:d9 "tuple" "tuple" = true:=by decide
noncomputable def gtq (o:Option HO)(n:Nat)(t:TGs)(σ:St)(H:Hp)(Q:St->Hp->Prop):Prop:=match o with
 | some (.tup xs)=>xs.length=n/\t xs σ H Q
 | _=>False
noncomputable def Gk (n:Nat)(t:TGs):TG:=fun v σ H Q=>match v with
 | .ref a=>gtq (H a) n t σ H Q
 | _=>False
theorem Il (n:Nat)(t:TGs)(a:Addr)(σ:St)(H:Hp)(Q:St->Hp->Prop):Gk n t (.ref a) σ H Q=gtq (H a) n t σ H Q:=rfl
theorem QL (xs:List V)(n:Nat)(t:TGs)(σ:St)(H:Hp)(Q:St->Hp->Prop):gtq (some (.tup xs)) n t σ H Q=(xs.length=n/\t xs σ H Q):=rfl
section
variable {X:Cx}{es:List Expr}{k:Nat}{t:TGs}{n:Nat}{pos:Pos}
theorem Ph (hc:X.calm=true)(h:PGs X es t)(hn:(assignEach es X.env).length=n:=by rfl)(hst:(assignEach es X.env).findIdx? (·.1)=none:=by rfl):PG X (.Tuple es k pos) (Gk n t):=by
 intro pins s σ H v u Q I r hw;unfold Gk at hw;split at hw
 ·rename_i a;unfold gtq at hw;split at hw
  ·rename_i xs e;exact S8 hc h hn hst pins s σ H _ u Q I r ⟨a,xs,rfl,SqT.of e,hw.1,hw.2⟩
  exact hw.elim
 exact hw.elim
end
noncomputable def J2:List V->Hp->VK->Prop:=fun xs H Q=>match xs with
 | [.int i,.int j]=>Q (.int (if j<i then j else i)) H
 | _=>False
noncomputable def J4:List V->Hp->VK->Prop:=fun xs H Q=>match xs with
 | [.int i,.int j]=>Q (.int (if j>i then j else i)) H
 | _=>False
theorem J1 (i j:Int)(H:Hp)(Q:VK):J2 [.int i,.int j] H Q=Q (.int (if j<i then j else i)) H:=rfl
theorem J3 (i j:Int)(H:Hp)(Q:VK):J4 [.int i,.int j] H Q=Q (.int (if j>i then j else i)) H:=rfl
theorem Iw {X:Cx}(hc:X.calm=true):dJ X (.builtin "min") J2:=by
 intro pins s σ H xs us Q I r h;unfold J2 at h;split at h
 ·exact IK hc pins s σ H _ us Q I r ⟨_,_,rfl,h⟩
 exact h.elim
theorem IW {X:Cx}(hc:X.calm=true):dJ X (.builtin "max") J4:=by
 intro pins s σ H xs us Q I r h;unfold J4 at h;split at h
 ·exact Ja hc pins s σ H _ us Q I r ⟨_,_,rfl,h⟩
 exact h.elim
structure QE (X:Cx)(e:Expr)(t:TE):Prop where
 h:PE X e t
structure QT (X:Cx)(e:Expr)(t:TT):Prop where
 h:PT X e t
structure QW (X:Cx)(e:Expr)(t:TT):Prop where
 h:PW X e t
structure QA (X:Cx)(es:List Expr)(t:TA):Prop where
 h:PA X es t
structure QS (X:Cx)(st:Stmt)(t:TS):Prop where
 h:PS X st t
structure QB (X:Cx)(st:List Stmt)(t:TS):Prop where
 h:PSs X st t
structure QG (X:Cx)(e:Expr)(t:TG):Prop where
 h:PG X e t
structure QGs (X:Cx)(es:List Expr)(t:TGs):Prop where
 h:PGs X es t
structure QI (X:Cx)(tg e:Expr)(t:TI):Prop where
 h:PI X tg e t
structure QC (X:Cx)(cs:List Expr)(t:TT):Prop where
 h:PTs X cs t
section
variable {X:Cx}{i:Nat}{x:Str}{pos pos' p tpos:Pos}{e a b c o:Expr}{es rest:List Expr}{te ta tb tc to ti:TE}{tA tB':TT}{t:TA}{k n kk:Nat}{ps:List Str}{sp:Sp}{id T:String}{r:List V->Hp->VK->Prop}{st:Stmt}{sts:List Stmt}{ts us:TS}{tg iter:Expr}{wi:TI}{g:TG}{gs:TGs}
theorem Wg (h:Nm X.N X.env.scope i x):QE X (.Name x pos) (G3 i):=⟨pn h⟩
theorem Wf (i:Nat) {x:Str}{pos:Pos}(hN:X.N[i]?=some x:=by rfl) (hv:Vis X.env.scope x:=by first|exact Or.inl rfl|exact Or.inr (Or.inl rfl)|exact Or.inr (Or.inr rfl)) (hd:(x == ("__debug__" : Str))=false:=by decide)
  (hcd:(x == ("__classdict__" : Str))=false:=by decide):QE X (.Name x pos) (G3 i):=⟨Kw hN hv hd hcd⟩
theorem au {i j pos}:QE X (.Constant (.int i) j pos) (tC (.int i)):=⟨KC⟩
theorem fP {b j pos}:QE X (.Constant (.bool b) j pos) (tC (.bl b)):=⟨Vq⟩
theorem rP {j pos}:QE X (.Constant .none j pos) (tC .non):=⟨Tg⟩
theorem bM {x j pos}:QE X (.Constant (.str x) j pos) (tC (.str x)):=⟨Tc⟩
theorem aR {op:Operator}{r:R2}(ho:OpR X (binaryOp op) r)(ha:QE X a ta)(hb:QE X b tb):QE X (.BinOp a op b pos) (tOp r ta tb):=⟨Vk ho ha.h hb.h⟩
theorem Bc {op:UnaryOp}{r:V->Hp->VK->Prop}(ho:UnR X (unaryOp op) r)(ha:QE X a ta):QE X (.UnaryOp op a pos) (tUn r ta):=⟨Rq ho ha.h⟩
theorem Sq (ha:QE X a ta):QE X (.UnaryOp .Not a pos) (Jv ta):=⟨Tf ha.h⟩
theorem fU {op:CmpOp}{r:R2}(ho:OpR X (compareOp op) r)(ha:QE X a ta)(hb:QE X b tb)(hm:behindInMarks op b=false):QE X (.Compare a [op] [b] pos) (tOp r ta tb):=⟨Pz ho ha.h hb.h hm⟩
theorem aW {op:CmpOp}{r:R2}(ho:OpR X (compareOp op) r)(ha:QE X a ta)(hb:QE X b tb)(hm:behindInMarks op b=false):QT X (.Compare a [op] [b] pos) (oY (tOp r ta tb)):=⟨OJ ho ha.h hb.h hm⟩
theorem Km {op op':CmpOp}{r r':R2}(ho:OpR X (compareOp op) r)(ho':OpR X (compareOp op') r')(ha:QE X a ta)(hb:QE X b tb)(hc:QE X c tc)
  (hm:lastMarks [op,op'] [b,c]=false:=by with_unfolding_all rfl):QE X (.Compare a [op,op'] [b,c] pos) (uO r r' ta tb tc):=⟨KH ho ho' ha.h hb.h hc.h hm⟩
theorem Kg {op op':CmpOp}{r r':R2}(ho:OpR X (compareOp op) r)(ho':OpR X (compareOp op') r')(ha:QE X a ta)(hb:QE X b tb)(hc:QE X c tc)
  (hm:lastMarks [op,op'] [b,c]=false:=by with_unfolding_all rfl):QT X (.Compare a [op,op'] [b,c] pos) (oY (uO r r' ta tb tc)):=⟨Ko ho ho' ha.h hb.h hc.h hm⟩
theorem mV {op}(h:QE X a ta):QE X (.BoolOp op [a] pos) ta:=⟨Te h.h⟩
theorem mW (ha:QE X a ta)(hb:QE X (.BoolOp .And (b::rest) pos) tb):QE X (.BoolOp .And (a::b::rest) pos) (JD ta tb):=⟨Tq ha.h hb.h⟩
theorem tL (hc:QT X c tA)(ha:QE X a ta)(hb:QE X b tb):QE X (.IfExp c a b pos) (tIf tA ta tb):=⟨KD hc.h ha.h hb.h⟩
theorem aN {r:R2}(hr:IxR X r)(ha:QE X a ta)(hb:QE X b tb)(hs:GF b):QE X (.Subscript a b pos) (tOp r ta tb):=⟨Vl hr ha.h hb.h hs⟩
theorem cB (h:QA X es t):QE X (.List es pos) (Aj t):=⟨Ti h.h⟩
theorem cN {x1}(h:QA X es t):QE X (.Tuple es x1 pos) (G4 t):=⟨S9 h.h⟩
theorem aA:QA X [] rE:=⟨Tt⟩
theorem aj (ha:QE X e te)(hr:QA X es t)(hs:starEach (e::es) X.env=(false,eval e X.env)::starEach es X.env:=by rfl):QA X (e::es) (jl te t):=⟨PL ha.h hr.h hs⟩
theorem aY (C:Cal X.prog X.w X.K X.mg X.base x k ps sp)(hr:gm k X.A)(hg:Gl X x)(hdb:Bn x)(ha:QA X (e::es) t)
  (he:starEach (e::es) X.env=(false,eval e X.env)::starEach es X.env:=by rfl) (hpl:(backTo pos (starEach es X.env)).any (·.1)=false:=by rfl):QE X (.Call (.Name x p) (e::es) [] pos) (mJ sp [] E0 t):=⟨Vn C hr hg hdb ha.h he hpl⟩
theorem bO (hc:dJ X (.builtin id) r)(hg:Gl X x)(hm:X.mg x=none)(hv:bootBuiltins x=some (.builtin id))(b:Bn x)(ha:QA X (e::es) t)
  (he:starEach (e::es) X.env=(false,eval e X.env)::starEach es X.env:=by rfl) (hpl:(backTo pos (starEach es X.env)).any (·.1)=false:=by rfl):QE X (.Call (.Name x p) (e::es) [] pos) (tCB r t):=⟨Vo hc hg hm hv b ha.h he hpl⟩
theorem kY (hc:dJ X (.type T) r)(hg:Gl X x)(hm:X.mg x=none)(hv:bootBuiltins x=some (.type T))(b:Bn x)(ha:QA X (e::es) t)
  (he:starEach (e::es) X.env=(false,eval e X.env)::starEach es X.env:=by rfl) (hpl:(backTo pos (starEach es X.env)).any (·.1)=false:=by rfl):QE X (.Call (.Name x p) (e::es) [] pos) (tCB r t):=⟨Vm hc hg hm hv b ha.h he hpl⟩
theorem gW (n:String)(hg:Gl X x)(hm:X.mg x=none)(hv:bootBuiltins x=some (.type n))(b:Bn x):QE X (.Name x pos) (tC (.ty n)):=⟨Vp n hg hm hv b⟩
theorem iR (ha:QT X a tA):QT X (.UnaryOp .Not a pos) (Jw tA):=⟨SJ ha.h⟩
theorem eV (h:QE X e te)(he:∀whole,isTrue e X.env whole=(do let v <- whole;standAt e.pos;holding [v] (truthy v)):=by intro _;rfl):QT X e (tB te):=⟨Sx h.h he⟩
theorem nT (ha:QT X a tA):QW X (.BoolOp .And [a] pos) tA:=⟨Ow ha.h⟩
theorem jG (ha:QT X a tA):QW X (.BoolOp .Or [a] pos) tA:=⟨Sv ha.h⟩
theorem pD (ha:QT X a tA)(hb:QW X (.BoolOp .And (b::rest) pos) tB'):QW X (.BoolOp .And (a::b::rest) pos) (NK tA tB'):=⟨Sw ha.h hb.h⟩
theorem jH (ha:QT X a tA)(hb:QW X (.BoolOp .Or (b::rest) pos) tB'):QW X (.BoolOp .Or (a::b::rest) pos) (tOr tA tB'):=⟨Vg ha.h hb.h⟩
theorem mR (h:QW X e tA):QT X e tA:=⟨h.h.pt⟩
theorem bF:QB X [] Ai:=⟨O2⟩
theorem aL (h:QS X st ts):QB X [st] ts:=⟨O1 h.h⟩
theorem aD (h:QS X st ts)(h2:QB X sts us):QB X (st::sts) (G5 ts us):=⟨Kp h.h h2.h⟩
theorem aU (he:QE X e te):QS X (.Return (some e) pos) (CZ te):=⟨SN he.h⟩
theorem cg {c:Expr}{a b:List Stmt}{tc:TT}(hc:QT X c tc)(ha:QB X a ts)(hb:QB X b us):QS X (.If c a b pos) (G6 tc ts us):=⟨Vi hc.h ha.h hb.h⟩
theorem uy (he:QE X e te)(hs:swapsWith e none pos.line X.env=pure false:=by rfl):QS X (.Expr e pos) (Jz te):=⟨O4 he.h hs⟩
theorem bR (h:Nm X.N X.env.scope i x)(hN:X.N.Nodup)(he:QE X e te)(hs:swapsWith e (some (.Name x pos')) pos.line X.env=pure false:=by rfl)(hf:X.fn x=true\/X.env.scope.names.lookup x=some .local:=by exact .inl rfl) :
  QS X (.Assign [.Name x pos'] e pos) (tU te (j4 i)):=⟨Vh h hN he.h hs hf⟩
theorem lN (he:QE X e te)(hg:QG X tg g)(hs:swapsWithSole [tg] e pos.line X.env=pure false:=by rfl)(hw:swappedStores [tg] e X.env=pure none:=by rfl)
  (h1:(assignEach [tg] X.env).map (·.2)=[assign tg X.env]:=by rfl):QS X (.Assign [tg] e pos) (tU te g):=⟨S5 he.h hg.h hs hw h1⟩
theorem Kl {i j:Nat}{x y:Str}{a b:Expr}{ta:TA}{px py pt:Pos}{kt k2 pt2}(hc:X.calm=true)(hN:X.N.Nodup)(hi:X.N[i]?=some x)(hj:X.N[j]?=some y)(hij:i≠j)
  (hx:X.env.scope.names.lookup x=some .local) (hy:X.env.scope.names.lookup y=some .local) (ha:QA X [a,b] ta)
  (hw:swappedStores [.Tuple [.Name x px,.Name y py] kt pt] (.Tuple [a,b] k2 pt2) X.env=pure (some [x,y]))
  (hs:swapsWithSole [.Tuple [.Name x px,.Name y py] kt pt] (.Tuple [a,b] k2 pt2) pos.line X.env=pure false:=by rfl) :
  QS X (.Assign [.Tuple [.Name x px,.Name y py] kt pt] (.Tuple [a,b] k2 pt2) pos) (RK i j ta):=⟨SQ hc hN hi hj hij hx hy ha.h hw hs⟩
theorem Kh {c:Expr}{body:List Stmt}{tc:TT}(hp:PassesOwn (model X.prog X.w) X.A X.env X.xe)(hc:QT X c tc)(hb:QB X body ts):QS X (.While c body [] pos) (Js tc ts):=⟨Kq hp hc.h hb.h⟩
theorem mU {body:List Stmt}(hp:PassesOwn (model X.prog X.w) X.A X.env X.xe)(hc:X.calm=true)(hi:QI X tg iter wi)(hg:QG X tg g)(hb:QB X body ts)
  (hs:∀x,foldedSetIterable iter X.env x=pure x:=by intro _;rfl):QS X (.For tg iter body [] pos) (RL wi g ts):=⟨SX hp hc hi.h hg.h hb.h hs⟩
theorem jX (h:Nm X.N X.env.scope i x)(hN:X.N.Nodup)(hf:X.fn x=true\/X.env.scope.names.lookup x=some .local:=by exact .inl rfl):QG X (.Name x pos) (j4 i):=⟨Vj h hN hf⟩
theorem eZ (i:Nat)(hN:X.N.Nodup)(hi:X.N[i]?=some x)(hx:Loc X.env.scope x)(hf:X.fn x=true\/X.env.scope.names.lookup x=some .local:=by first|exact .inl rfl|exact .inr rfl):QG X (.Name x pos) (j4 i):=⟨Fz hN hi hx hf⟩
theorem uD:QGs X [] Uy:=⟨Pb⟩
theorem je (h1:QG X e g)(h2:QGs X es gs)(hs:(assignEach (e::es) X.env).map (·.2)=assign e X.env::(assignEach es X.env).map (·.2):=by rfl):QGs X (e::es) (Ms g gs):=⟨Kv h1.h h2.h hs⟩
theorem yO {n:Nat}(hc:X.calm=true)(h:QGs X es gs)(hn:(assignEach es X.env).length=n:=by rfl)(hst:(assignEach es X.env).findIdx? (·.1)=none:=by rfl):QG X (.Tuple es k pos) (Gk n gs):=⟨Ph hc h.h hn hst⟩
theorem Nh (o:Expr)(c j)(p pos:Pos)(env:Env)(v:Value):assign (.Subscript o (.Constant c j p) pos) env v=(do
   let ov <- holding [v] (eval o env)
   let iv <- holding [v,ov] (eval (.Constant c j p) env)
   standAt pos
   holding [v,ov,iv] (setItem ov iv v)
   release [v,ov,iv] []):=rfl
theorem Ng (o:Expr)(y)(p pos:Pos)(env:Env)(v:Value):assign (.Subscript o (.Name y p) pos) env v=(do
   let ov <- holding [v] (eval o env)
   let iv <- holding [v,ov] (eval (.Name y p) env)
   standAt pos
   holding [v,ov,iv] (setItem ov iv v)
   release [v,ov,iv] []):=rfl
theorem uE {c j}{t:Jj}(ho:QE X o to)(hi:QE X (.Constant c j p) ti)(hs:Jk X t):QG X (.Subscript o (.Constant c j p) pos) (Mq to ti t):=⟨Dq ho.h hi.h hs (fun v=>Nh o c j p pos X.env v)⟩
theorem Fq {y}{t:Jj}(ho:QE X o to)(hi:QE X (.Name y p) ti)(hs:Jk X t):QG X (.Subscript o (.Name y p) pos) (Mq to ti t):=⟨Dq ho.h hi.h hs (fun v=>Ng o y p pos X.env v)⟩
theorem kW (hg:Gl X "range") (hm:X.mg "range" = none) (ha:QA X [a] t) (hs:starEach [a] X.env=[(false,eval a X.env)]:=by rfl):QI X tg (.Call (.Name "range" p) [a] [] pos) (vB t):=⟨Hr hg hm ha.h hs⟩
theorem yP:QC X [] RD:=⟨Oz⟩
theorem jJ (h:QT X c tA):QC X [c] tA:=⟨Ox h.h⟩
theorem iw {NX:List Str}{kX:List (Str×NameKind)}{scope:Scope}{elt:Expr}{ifs:List Expr}{tc:TT}(N:List Str)(mp:List (Option Nat))(hNX:X.N=NX)(hkX:X.env.scope.names=kX)(S:yo NX kX N mp scope)(hc:X.calm=true)
  (hi:QI X tg iter wi) (hg:∀cl C s H fp,QG (cP X N scope cl C s H fp) tg g) (ht:∀cl C s H fp,QC (cP X N scope cl C s H fp) ifs tc) (he:∀cl C s H fp,QE (cP X N scope cl C s H fp) elt te)
  (hs:∀x,foldedSetIterable iter X.env x=pure x:=by intro _;rfl):QE X (.ListComp elt [⟨tg,iter,ifs,0⟩] scope pos) (w6 mp wi g tc te):=
 ⟨Pu N mp hNX hkX S hc hi.h (fun cl C s H fp=>(hg cl C s H fp).h) (fun cl C s H fp=>(ht cl C s H fp).h) (fun cl C s H fp=>(he cl C s H fp).h) hs⟩
end
section
variable {P:Program}{w:World}{K:PySem.W.Frag}{mg:Str->Option Value}{base:Heap}
theorem Fun.okq {x qual:Str}{st:Stmt}{f:Addr}{fd:FuncData}{N ps:List Str}{k:Nat}{sp:Sp}(F:Fun K x qual st f fd)(S:bW N ps (ak st))(len:∀vs H Q E,sp vs H Q E->vs.length=ps.length)
  (hbody:∀(cdv:Value)(A:Around)(outer:List Env)(s:Shared)(H:Hp)(vs:List V)(Q:VK)(E:XK),gm k (A.deeper (envOfC qual (ak st) s.heap.objs.size f cdv))->sp vs H Q E ->
   ∃t,QB (Ci CX0 P w K mg base N qual (ak st) f cdv A outer s H E).nox (bf st) t/\t { nx:=fun _ H'=>Q .non H',rt:=Q } (L2.start N vs) H):dM P w K mg base CX0 (k+1) f fd ps sp:=
 F.ok S len fun cdv A outer s H vs Q E hr hsp=>by
  obtain⟨t,h,q⟩:=hbody cdv A outer s H vs Q E hr hsp;exact⟨t,h.h,q⟩
end
section
variable {X:Cx}
noncomputable def yM (i:Int)(n:Nat):List V:=(List.range n).map fun k=>V.int (i+(k:Nat))
theorem Eu:∀{xs:List V}{us:List Value},xs.length=us.length->(∀(i:Nat) x u,xs[i]?=some x->us[i]?=some u->RelV x u)->Vals xs us
 | [],[],_,_=>.nil
 | [],_::_,h,_=>by cases h
 | _::_,[],h,_=>by cases h
 | x::xs,u::us,h,f=>.cons (f 0 x u rfl rfl) (Eu (by simpa using h) fun i y v h1 h2=>f (i+1) y v h1 h2)
theorem Ug:sizeLine<=2^24:=by decide
noncomputable def adq (a b:Option HO)(H:Hp)(Q:VK):Prop:=match a,b with
 | some (.lst xs),some (.lst zs)=>xs.length+zs.length<=sizeLine/\∀p,H p=none->Q (.ref p) (upd H p (.lst (xs++zs)))
 | _,_=>False
noncomputable def uX:R2:=fun x y H Q=>match x,y with
 | .int i,.int j=>Q (.int (i+j)) H
 | .ref p,.ref q=>adq (H p) (H q) H Q
 | _,_=>False
theorem Ot (i j:Int)(H:Hp)(Q:VK):uX (.int i) (.int j) H Q=Q (.int (i+j)) H:=rfl
theorem Oq (p q:Addr)(H:Hp)(Q:VK):uX (.ref p) (.ref q) H Q=adq (H p) (H q) H Q:=rfl
theorem Nk (xs zs:List V)(H:Hp)(Q:VK):adq (some (.lst xs)) (some (.lst zs)) H Q=(xs.length+zs.length<=sizeLine/\∀p,H p=none->Q (.ref p) (upd H p (.lst (xs++zs)))):=rfl
theorem bN:OpR X (binaryOp .Add) uX:=by
 intro pins s σ H x y v u Q I rx ry h;unfold uX at h;split at h
 ·exact T3 pins s σ H _ _ v u Q I rx ry ⟨_,_,rfl,rfl,h⟩
 ·rename_i p q;unfold adq at h;split at h
  ·rename_i xs zs e1 e2;exact TY pins s σ H _ _ v u Q I rx ry ⟨p,q,xs,zs,rfl,rfl,e1,e2,h.1,h.2⟩
  exact h.elim
 exact h.elim
noncomputable def eqL:List V->List V->Bool
 | [],[]=>true
 | x::xs,y::ys=>eqV x y&&eqL xs ys
 | _,_=>false
noncomputable def Qk (a b:Option HO)(H:Hp)(Q:VK):Prop:=match a,b with
 | some (.lst xs),some (.lst zs)=>xs.all gh=true/\zs.all gh=true/\Q (.bl (!eqL xs zs)) H
 | _,_=>False
noncomputable def Hg:R2:=fun x y H Q=>match x,y with
 | .ref p,.ref q=>Qk (H p) (H q) H Q
 | x,y=>rNe x y H Q
theorem R7 (p q:Addr)(H:Hp)(Q:VK):Hg (.ref p) (.ref q) H Q=Qk (H p) (H q) H Q:=rfl
theorem R8 (i j:Int)(H:Hp)(Q:VK):Hg (.int i) (.int j) H Q=rNe (.int i) (.int j) H Q:=rfl
theorem R9 (i j:Bool)(H:Hp)(Q:VK):Hg (.bl i) (.bl j) H Q=rNe (.bl i) (.bl j) H Q:=rfl
theorem R6 (i j:Str)(H:Hp)(Q:VK):Hg (.str i) (.str j) H Q=rNe (.str i) (.str j) H Q:=rfl
theorem Qj (xs zs:List V)(H:Hp)(Q:VK):Qk (some (.lst xs)) (some (.lst zs)) H Q=(xs.all gh=true/\zs.all gh=true/\Q (.bl (!eqL xs zs)) H):=rfl
theorem Gq:∀(xs zs:List V),xs.length=zs.length->((List.range xs.length).all fun j=>match xs[j]?,zs[j]? with|some a,some b=>eqV a b|_,_=>true)=eqL xs zs
 | [],[],_=>rfl
 | [],_::_,h=>by cases h
 | _::_,[],h=>by cases h
 | x::xs,z::zs,h=>by
  have ih:=Gq xs zs (by simpa using h);rw[length_cons,List.range_succ_eq_map,all_cons,all_map];show(eqV x z&&_)=(eqV x z&&eqL xs zs);rw[<- ih];rfl
theorem Gp:∀(xs zs:List V),xs.length≠zs.length->eqL xs zs=false
 | [],[],h=>absurd rfl h
 | [],_::_,_=>rfl
 | _::_,[],_=>rfl
 | x::xs,z::zs,h=>by
  show(eqV x z&&eqL xs zs)=false;rw[Gp xs zs (by simpa using h),Bool.and_false]
theorem iz (hu:X.A.units<cLine):OpR X (compareOp .NotEq) Hg:=by
 intro pins s σ H x y v u Q I rx ry h;unfold Hg at h;split at h
 ·rename_i p q;unfold Qk at h;split at h
  ·rename_i xs zs e1 e2;obtain⟨f1,f2,q⟩:=h;cases rx;cases ry;obtain⟨its1,r1,pl1,hz1⟩:=I.list (SqL.of e1);obtain⟨its2,r2,pl2,hz2⟩:=I.list (SqL.of e2);have l1:=r1.length;have l2:=r2.length;by_cases hl:xs.length=zs.length
   ·refine SeqAt.RcNeAt.lists (e:=fun j=>match xs[j]?,zs[j]? with|some a,some b=>eqV a b|_,_=>true) pl1.isList pl2.isList (by simp only[size_toArray];omega) hu (fun j h1 h2=>?_) X.prog X.w X.xe (EP X pins σ Q) ?_
    ·have j1:j<xs.length:=by simp only[size_toArray] at h1;omega
     have j2:j<zs.length:=ω;have g1:xs[j]?=some xs[j]:=getElem?_eq_getElem j1;have g2:zs[j]?=some zs[j]:=getElem?_eq_getElem j2;obtain⟨u1,hu1,ru1⟩:=r1.get g1;obtain⟨u2,hu2,ru2⟩:=r2.get g2;have k1:its1.toArray[j]=u1:=by
      have:=List.getElem?_eq_some_iff.mp hu1;obtain⟨_,z⟩:=this;simpa using z
     have k2:its2.toArray[j]=u2:=by
      have:=List.getElem?_eq_some_iff.mp hu2;obtain⟨_,z⟩:=this;simpa using z
     rw[k1,k2,g1,g2];exact Mx ru1 ru2 (all_eq_true.mp f1 _ (getElem_mem j1)) (all_eq_true.mp f2 _ (getElem_mem j2))
    rw[show its1.toArray.size=xs.length by simp only[size_toArray];omega,Gq xs zs hl];exact⟨.bl _,H,I,rfl,q⟩
   rw[Gp xs zs hl] at q;refine SeqAt.RcNeAt.lists_lengths pl1.isList pl2.isList (by simp only[size_toArray,bne_iff_ne,ne_eq];omega) hu X.prog X.w X.xe (EP X pins σ Q) ⟨.bl _,H,I,rfl,q⟩
  exact h.elim
 exact Vr pins s σ H _ _ v u Q I rx ry h
noncomputable def inq (neg:Bool)(o:Option HO)(x:V)(H:Hp)(Q:VK):Prop:=match o with
 | some (.lst xs)=>gh x=true/\xs.all gh=true/\Q (.bl (if neg then !inV x xs else inV x xs)) H
 | some (.tup xs)=>gh x=true/\xs.all gh=true/\Q (.bl (if neg then !inV x xs else inV x xs)) H
 | _=>False
noncomputable def Kd (neg:Bool):R2:=fun x y H Q=>match y with
 | .ref p=>inq neg (H p) x H Q
 | _=>False
theorem Sg (neg:Bool)(x:V)(p:Addr)(H:Hp)(Q:VK):Kd neg x (.ref p) H Q=inq neg (H p) x H Q:=rfl
theorem VD (neg:Bool)(x:V)(xs:List V)(H:Hp)(Q:VK):inq neg (some (.lst xs)) x H Q=(gh x=true/\xs.all gh=true/\Q (.bl (if neg then !inV x xs else inV x xs)) H):=rfl
theorem VB (neg:Bool)(x:V)(xs:List V)(H:Hp)(Q:VK):inq neg (some (.tup xs)) x H Q=(gh x=true/\xs.all gh=true/\Q (.bl (if neg then !inV x xs else inV x xs)) H):=rfl
theorem Mf {neg:Bool}{o:Option HO}{x:V}{H:Hp}{Q:VK}{p:Addr}{K:PySem.W.Frag}(e:H p=o)(h:inq neg o x H Q):rIn K neg x (.ref p) H Q:=by
 unfold inq at h;split at h
 ·rename_i xs;exact⟨p,xs,rfl,.inl (SqL.of e),h.1,h.2.1,h.2.2⟩
 ·rename_i xs;exact⟨p,xs,rfl,.inr (SqT.of e),h.1,h.2.1,h.2.2⟩
 exact h.elim
theorem TQ:OpR X (compareOp .In) (Kd false):=by
 intro pins s σ H x y v u Q I rx ry h;unfold Kd at h;split at h
 ·exact Ht pins s σ H _ _ v u Q I rx ry (Mf rfl h)
 exact h.elim
theorem nW:OpR X (compareOp .NotIn) (Kd true):=by
 intro pins s σ H x y v u Q I rx ry h;unfold Kd at h;split at h
 ·exact yR pins s σ H _ _ v u Q I rx ry (Mf rfl h)
 exact h.elim
end
structure aP (H:Hp)(p:Addr)(B:Int):Prop where
 ex:∃a b c:Int,H p=some (.lst [.int a,.int b,.int c])/\0<=a/\0<=b/\b<2147483629/\0<=c/\c<=B
theorem aP.same {H H':Hp}{p:Addr}{B:Int}(h:aP H p B)(s:Same H H'):aP H' p B:=by
 obtain⟨a,b,c,e,r⟩:=h;exact⟨a,b,c,s _ _ e,r⟩
theorem aP.le {H:Hp}{p:Addr}{B B':Int}(h:aP H p B)(l:B<=B'):aP H p B':=by
 obtain⟨a,b,c,e,r1,r2,r3,r4,r5⟩:=h;exact⟨a,b,c,e,r1,r2,r3,r4,ω⟩
theorem aP.ne {H:Hp}{p q:Addr}{B:Int}(h:aP H p B)(n:H q=none):q≠p:=by
 obtain⟨a,b,c,e,_⟩:=h;exact(aF e n).symm
theorem aP.net {H:Hp}{p q:Addr}{B:Int}{xs:List V}(h:aP H p B)(n:H q=some (.tup xs)):q≠p:=by
 obtain⟨a,b,c,e,_⟩:=h;intro z;rw[z,e] at n;cases n
noncomputable def JL (K:PySem.W.Frag):Sp:=fun vs H Q _=>∃(a:Addr)(ns:List Int)(k:Int),vs=[.ref a,.int k]/\SqL K H a (ns.map V.int)/\0<=k/\∀v:Int,Q (.int v) H
noncomputable def JF (K:PySem.W.Frag):Sp:=fun vs H Q _=>∃(a:Addr)(ns:List Int)(k:Int),vs=[.ref a,.int k]/\SqL K H a (ns.map V.int)/\0<=k/\k<=100/\∀p H',H p=none->Same H H'->aP H' p 0->Q (.ref p) H'
noncomputable def jF (n:Nat):Sp:=fun vs H Q _=>∃(p:Addr)(m B:Int),vs=[.ref p,.int m]/\aP H p B/\B+(n:Int)<=1000100/\0<m/\m<2^70/\1<=n/\(1000000<=m->2<=n) /\
 ∀r H',0<=r->r<m->aV p H H'->aP H' p (B+n)->Q (.int r) H'
theorem S6 (c:Int):∃v:Int,atI [V.int 2147483587,V.int 2147483579,V.int 2147483563,V.int 2147483549,V.int 2147483543,V.int 2147483497,V.int 2147483489] (c%7)=some (.int v)/\0<v:=by
 have h1:0<=c%7:=emod_nonneg _ δ;have h2:c%7<7:=emod_lt_of_pos _ δ;generalize c%7=d at h1 h2;have h3:d=0\/d=1\/d=2\/d=3\/d=4\/d=5\/d=6:=ω;rcases h3 with rfl|rfl|rfl|rfl|rfl|rfl|rfl
 ·exact⟨_,dw (j:=0) rfl,δ⟩
 ·exact⟨_,dw (j:=1) rfl,δ⟩
 ·exact⟨_,dw (j:=2) rfl,δ⟩
 ·exact⟨_,dw (j:=3) rfl,δ⟩
 ·exact⟨_,dw (j:=4) rfl,δ⟩
 ·exact⟨_,dw (j:=5) rfl,δ⟩
 exact⟨_,dw (j:=6) rfl,δ⟩
noncomputable def wl (w s:Int):Int:=0-2^(w-1).toNat*s
inductive It1 where
 | one (a:Int)
 | rng (a b:Int)
 | bits (m v:Nat)
section
variable {mp:List (Option Nat)}{g:TG}{tc:TT}{te:TE}{σ:St}{H:Hp}{Q:VK}{R:It->Hp->Prop}{K:PySem.W.Frag}
theorem zT {a:Addr}{xs:List V}(hR:R=Nq mp g tc te σ Q)(hz:xs.length<=sizeLine)(Pv:Nat->List V->St->Hp->Prop)(h0:Pv 0 [] (qd mp σ) H)(hl:∀i acc τ H,Pv i acc τ H->acc.length<=i)
  (hq:∀i acc τ H,Pv i acc τ H->SqL K H a xs)
  (hs:∀i x acc τ H,xs[i]?=some x->Pv i acc τ H->g x τ H fun τ1 H4=>tc τ1 H4 fun b H5=>if b=true then te τ1 H5 fun v H6=>Pv (i+1) (acc++[v]) τ1 H6 else Pv (i+1) acc τ1 H5)
  (hd:∀acc τ H d,Pv xs.length acc τ H->H d=none->Q (.ref d) (upd H d (.lst acc))):R (Itl K a) H:=by
 refine Q7 hR xs.length hz Pv h0 hl (fun i acc τ H hi p=>⟨xs,xs[i],hq i acc τ H p,getElem?_eq_getElem hi⟩) (fun acc τ H p=>⟨xs,hq _ acc τ H p,le_refl _⟩) (fun i acc τ H x H3 hi p y=>?_) hd;obtain⟨rfl,hx⟩:=y;exact hs i x acc τ _ (hx xs (hq i acc τ _ p)) p
end
noncomputable def jU (l:List Nat):List V:=l.map fun k=>V.int (k:Nat)
theorem Bp (l:List Nat):(jU l).length=l.length:=by simp [jU]
theorem Hz (l:List Nat):(jU l).all gh=true:=by
 rw[all_eq_true];intro x hx;obtain⟨k,_,rfl⟩:=mem_map.mp hx;rfl
theorem Qy (k:Nat)(l:List Nat):inV (.int (k:Nat)) (jU l)=l.contains k:=by
 unfold inV jU;rw[List.any_map]
 induction l with
 | nil=>rfl
 | cons a r ih=>
  rw[any_cons,List.contains_cons,ih];congr 1;show((a:Int) == (k:Int))=(k == a);rw[Bool.eq_iff_iff,beq_iff_eq,beq_iff_eq];omega
theorem QM (g:TG)(gs:TGs)(x:V)(xs:List V)(σ:St)(H:Hp)(Q:St->Hp->Prop):Ms g gs (x::xs) σ H Q=g x σ H fun σ1 H1=>gs xs σ1 H1 Q:=
 propext ⟨fun⟨_,_,e,h⟩=>by cases e;exact h,fun h=>⟨x,xs,rfl,h⟩⟩
theorem Ux (σ:St)(H:Hp)(Q:St->Hp->Prop):Uy [] σ H Q=Q σ H:=propext ⟨fun h=>h.2,fun h=>⟨rfl,h⟩⟩
theorem dI {tc:TT}{ts us:TS}{D:Ends}{σ:St}{H:Hp}(h:∀kt ke,kt=ts D->ke=us D->tc σ H fun b H1=>if b=true then kt σ H1 else ke σ H1):G6 tc ts us D σ H:=h _ _ rfl rfl
theorem N8 {p:Addr}{H H':Hp}(h:aV p H H')(e:H p=none):Same H H':=fun b o hb=>h b o (aF hb e) hb
section
variable {X:Cx}{e o:Expr}{te to:TE}{pos:Pos}
noncomputable def apq (ob:Option HO)(l:Addr)(y:V)(H:Hp)(Q:VK):Prop:=match ob with
 | some (.lst xs)=>xs.length<sizeLine/\Q .non (upd H l (.lst (xs++[y])))
 | _=>False
noncomputable def isq (ob:Option HO):Prop:=match ob with
 | some (.lst _)=>True
 | _=>False
theorem uH (xs:List V):isq (some (.lst xs))=True:=rfl
theorem Rh (xs:List V)(l:Addr)(y:V)(H:Hp)(Q:VK):apq (some (.lst xs)) l y H Q=(xs.length<sizeLine/\Q .non (upd H l (.lst (xs++[y])))):=rfl
noncomputable def UW (x:V)(te:TE)(σ:St)(H1:Hp)(Q:VK):Prop:=match x with
 | .ref l=>isq (H1 l)/\te σ H1 fun y H2=>apq (H2 l) l y H2 Q
 | _=>False
noncomputable def JC (to te:TE):TE:=fun σ H Q=>to σ H fun x H1=>UW x te σ H1 Q
theorem JB (to te:TE)(σ:St)(H:Hp)(Q:VK):JC to te σ H Q=to σ H fun x H1=>UW x te σ H1 Q:=rfl
theorem Nj (l:Addr)(te:TE)(σ:St)(H1:Hp)(Q:VK):UW (.ref l) te σ H1 Q=(isq (H1 l)/\te σ H1 fun y H2=>apq (H2 l) l y H2 Q):=rfl
theorem PK {apos cpos:Pos}(ho:PE X o to)(he:PE X e te)
  (hbase:attributeBase o "append" X.env (eval o X.env)=eval o X.env:=by rfl)
  (hfew:((backTo cpos (starEach [e] X.env)).all (fun x=>!x.1)&&(backToKw cpos (keywordEach [] X.env)).all (fun x=>x.1.isSome)
   && decide ([e].length+([]:List Keyword).length+(if ([]:List Keyword).isEmpty then 0 else 1)<30))=true:=by rfl)
  (hline:(apos.endLine == cpos.line)=true:=by rfl) (hs:starEach [e] X.env=(false,eval e X.env)::starEach [] X.env:=by rfl) (hplain:(backTo cpos (starEach [] X.env)).any (·.1)=false:=by rfl) :
  PE X (.Call (.Attribute o "append" apos) [e] [] cpos) (JC to te):=by
 intro pins s σ H Q I h;refine wpAny_Call_method_late hbase hfew hline rfl (thE (ho pins s σ H _ I h) fun v s1 x H1 I1 r1 q=>?_);cases x with
 | ref l=>
  obtain⟨q1,q2⟩:=q;cases el:H1 l with
  | none=>rw[el] at q1;exact q1.elim
  | some ob=>
   cases ob with
   | lst xs=>
    obtain⟨h1,h2⟩:=yp (T := "list") I1 r1 (.inl ⟨rfl,xs,SqL.of el⟩);refine⟨"list","list.append",PySem.F.plainAttrs_list,PySem.F.slot_list_append,PySem.F.type_list_append,h1,h2,?_⟩;rw[hs];refine Calls.callWith_builtin (by show(false||(backTo cpos (starEach [] X.env)).any (·.1))=false;rw[hplain] <;> rfl) (Calls.evalArgs_plain ?_)
    refine Calls.spliced_cons (thE (he pins s1 σ H1 _ I1 q2) fun u s2 y H2 I2 r2 q3=>Calls.spliced_nil ?_);replace q3:apq (H2 l) l y H2 Q:=q3;cases el2:H2 l with
    | none=>rw[el2] at q3;exact q3.elim
    | some ob2=>
     cases ob2 with
     | lst ys=>
      rw[el2] at q3;exact HS pins s2 σ H2 (.ref l) [y] v [u] Q I2 r1 (.cons r2 .nil) ⟨l,ys,y,rfl,rfl,el2,q3.1,q3.2⟩
     | _=>rw[el2] at q3;exact q3.elim
   | _=>rw[el] at q1;exact q1.elim
 | _=>exact q.elim
theorem Fx {apos cpos:Pos}(ho:QE X o to)(he:QE X e te)
  (hbase:attributeBase o "append" X.env (eval o X.env)=eval o X.env:=by rfl)
  (hfew:((backTo cpos (starEach [e] X.env)).all (fun x=>!x.1)&&(backToKw cpos (keywordEach [] X.env)).all (fun x=>x.1.isSome)
   && decide ([e].length+([]:List Keyword).length+(if ([]:List Keyword).isEmpty then 0 else 1)<30))=true:=by rfl)
  (hline:(apos.endLine == cpos.line)=true:=by rfl) (hs:starEach [e] X.env=(false,eval e X.env)::starEach [] X.env:=by rfl) (hplain:(backTo cpos (starEach [] X.env)).any (·.1)=false:=by rfl) :
  QE X (.Call (.Attribute o "append" apos) [e] [] cpos) (JC to te):=⟨PK ho.h he.h hbase hfew hline hs hplain⟩
noncomputable def slq (ob:Option HO)(lo hi:Option Int)(H:Hp)(Q:VK):Prop:=match ob with
 | some (.lst xs)=>∀p,H p=none->Q (.ref p) (upd H p (.lst (lG xs lo hi)))
 | some (.tup xs)=>¬(HT.sIx xs.length 0 lo=0/\HT.sIx xs.length xs.length hi=xs.length)/\∀p,H p=none->Q (.ref p) (upd H p (.tup (lG xs lo hi)))
 | _=>False
noncomputable def JX:V->Option Int->Option Int->Hp->VK->Prop:=fun x lo hi H Q=>match x with
 | .ref p=>slq (H p) lo hi H Q
 | _=>False
theorem Ay (p:Addr)(lo hi:Option Int)(H:Hp)(Q:VK):JX (.ref p) lo hi H Q=slq (H p) lo hi H Q:=rfl
theorem Fj (xs:List V)(lo hi:Option Int)(H:Hp)(Q:VK):slq (some (.lst xs)) lo hi H Q=∀p,H p=none->Q (.ref p) (upd H p (.lst (lG xs lo hi))):=rfl
theorem NZ (xs:List V)(lo hi:Option Int)(H:Hp)(Q:VK):slq (some (.tup xs)) lo hi H Q=(¬(HT.sIx xs.length 0 lo=0/\HT.sIx xs.length xs.length hi=xs.length)/\∀p,H p=none->Q (.ref p) (upd H p (.tup (lG xs lo hi)))):=rfl
theorem rK:SlR X JX:=by
 intro pins s σ H x v vl vu lo hi sl Q I rx hs pl pu h;unfold JX at h;split at h
 ·rename_i p;unfold slq at h;split at h
  ·rename_i xs e;exact N5 pins s σ H _ v vl vu lo hi sl Q I rx hs pl pu ⟨p,xs,rfl,SqL.of e,h⟩
  ·rename_i xs e;exact RQ pins s σ H _ v vl vu lo hi sl Q I rx hs pl pu ⟨p,xs,rfl,SqT.of e,h.1,h.2⟩
  exact h.elim
 exact h.elim
structure QO (X:Cx)(e:Option Expr)(t:TO):Prop where
 h:PO X e t
theorem cV:QO X none nM:=⟨O7⟩
theorem cH (h:QE X e te):QO X (some e) (uM te):=⟨Fy h.h⟩
theorem cj {r:V->Option Int->Option Int->Hp->VK->Prop}{lo hi:Option Expr}{tl th:TO}{p2:Pos}(hr:SlR X r)(he:QE X e te)(hl:QO X lo tl)(hu:QO X hi th):QE X (.Subscript e (.Slice lo hi none p2) pos) (tSl r te tl th):=⟨Ky hr he.h hl.h hu.h⟩
noncomputable def rpq (ob:Option HO)(k:Int)(H:Hp)(Q:VK):Prop:=match ob with
 | some (.lst xs)=>-(2^63)<=k/\k<2^63/\xs.length*k.toNat<=sizeLine/\∀p,H p=none->Q (.ref p) (upd H p (.lst (List.replicate k.toNat xs).flatten))
 | _=>False
noncomputable def J0:R2:=fun x y H Q=>match x,y with
 | .ref p,.int k=>rpq (H p) k H Q
 | x,y=>rI Jl (fun i j=>.int (i*j)) x y H Q
theorem Od (i j:Int)(H:Hp)(Q:VK):J0 (.int i) (.int j) H Q=rI Jl (fun i j=>.int (i*j)) (.int i) (.int j) H Q:=rfl
theorem iB:OpR X (binaryOp .Mult) J0:=by
 intro pins s σ H x y v u Q I rx ry h;unfold J0 at h;split at h
 ·rename_i p k;unfold rpq at h;split at h
  ·rename_i xs e;exact Tw pins s σ H _ _ v u Q I rx ry ⟨p,k,xs,rfl,rfl,e,h.1,h.2.1,h.2.2.1,h.2.2.2⟩
  exact h.elim
 exact Tz pins s σ H _ _ v u Q I rx ry h
noncomputable def eqo (ob:Option HO)(H:Hp)(Q:VK):Prop:=match ob with
 | some (.lst _)=>Q (.bl false) H
 | some (.tup _)=>Q (.bl false) H
 | _=>False
noncomputable def Ke:R2:=fun x y H Q=>match x,y with
 | .ref p,.str _=>eqo (H p) H Q
 | x,y=>rEq x y H Q
theorem Oj (i j:Int)(H:Hp)(Q:VK):Ke (.int i) (.int j) H Q=rEq (.int i) (.int j) H Q:=rfl
theorem Oi (i j:Str)(H:Hp)(Q:VK):Ke (.str i) (.str j) H Q=rEq (.str i) (.str j) H Q:=rfl
theorem bY (hu:X.A.units<cLine):OpR X (compareOp .Eq) Ke:=by
 intro pins s σ H x y v u Q I rx ry h;unfold Ke at h;split at h
 ·rename_i p z;cases rx;obtain⟨t,rfl⟩:=ry;unfold eqo at h;split at h
  ·rename_i xs e;obtain⟨its,r,pl,hz⟩:=I.list (SqL.of e);exact SeqAt.RcAt.list_str z t pl.isList hu X.prog X.w X.xe (EP X pins σ Q) ⟨.bl false,H,I,rfl,h⟩
  ·rename_i xs e;obtain⟨its,r,pl,hz⟩:=I.tuple (SqT.of e);exact SeqAt.RcAt.tuple_str z t pl hu X.prog X.w X.xe (EP X pins σ Q) ⟨.bl false,H,I,rfl,h⟩
  exact h.elim
 exact Vs pins s σ H _ _ v u Q I rx ry h
theorem Fv {x:Str}{v:V}{u:Value}(hg:Gl X x)(hm:X.mg x=some u)(r:RelV v u)(b:Bn x):QE X (.Name x pos) (tC v):=⟨Pq hg hm r b.hd⟩
end
mutual
inductive aG (ok:Addr->Prop)(H:Hp):V->PyData->Prop
 | non:aG ok H .non .none
 | bl (b:Bool):aG ok H (.bl b) (.bool b)
 | int (i:Int):aG ok H (.int i) (.int i)
 | str (x:Str):aG ok H (.str x) (.str x)
 | lst {p:Addr} {xs:List V} {ds:List PyData}:ok p->H p=some (.lst xs)->xs.length<=1000000->aH ok H xs ds->aG ok H (.ref p) (.list ds)
 | tup {p:Addr} {xs:List V} {ds:List PyData}:ok p->H p=some (.tup xs)->xs.length<=1000000->aH ok H xs ds->aG ok H (.ref p) (.tuple ds)
inductive aH (ok:Addr->Prop)(H:Hp):List V->List PyData->Prop
 | nil:aH ok H [] []
 | cons {x:V} {d:PyData} {xs:List V} {ds:List PyData}:aG ok H x d->aH ok H xs ds->aH ok H (x::xs) (d::ds)
end
mutual
theorem aG.keep {ok ok':Addr->Prop}{H H':Hp}(k:∀a o,ok a->H a=some o->ok' a/\H' a=some o):∀{v:V}{d:PyData},aG ok H v d->aG ok' H' v d
 | _,_,.non=>.non
 | _,_,.bl b=>.bl b
 | _,_,.int i=>.int i
 | _,_,.str x=>.str x
 | _,_,.lst o e z t=>.lst (k _ _ o e).1 (k _ _ o e).2 z (aH.keep k t)
 | _,_,.tup o e z t=>.tup (k _ _ o e).1 (k _ _ o e).2 z (aH.keep k t)
theorem aH.keep {ok ok':Addr->Prop}{H H':Hp}(k:∀a o,ok a->H a=some o->ok' a/\H' a=some o):∀{vs:List V}{ds:List PyData},aH ok H vs ds->aH ok' H' vs ds
 | _,_,.nil=>.nil
 | _,_,.cons t r=>.cons (aG.keep k t) (aH.keep k r)
end
theorem aG.same {ok:Addr->Prop}{H H':Hp}{v:V}{d:PyData}(t:aG ok H v d)(s:Same H H'):aG ok H' v d:=t.keep fun a o h e=>⟨h,s a o e⟩
theorem aH.same {ok:Addr->Prop}{H H':Hp}{v:List V}{d:List PyData}(t:aH ok H v d)(s:Same H H'):aH ok H' v d:=t.keep fun a o h e=>⟨h,s a o e⟩
theorem aG.cU {p:Addr}{H H':Hp}{v:V}{d:PyData}(t:aG (·≠p) H v d)(s:aV p H H'):aG (·≠p) H' v d:=t.keep fun a o h e=>⟨h,s a o h e⟩
theorem aH.cU {p:Addr}{H H':Hp}{v:List V}{d:List PyData}(t:aH (·≠p) H v d)(s:aV p H H'):aH (·≠p) H' v d:=t.keep fun a o h e=>⟨h,s a o h e⟩
theorem aH.length {ok:Addr->Prop}{H:Hp}:∀{vs:List V}{ds:List PyData},aH ok H vs ds->vs.length=ds.length
 | _,_,.nil=>rfl
 | _,_,.cons _ r=>by rw[length_cons,length_cons,r.length]
theorem aH.append {ok:Addr->Prop}{H:Hp}:∀{vs ws:List V}{ds es:List PyData},aH ok H vs ds->aH ok H ws es->aH ok H (vs++ws) (ds++es)
 | _,_,_,_,.nil,t=>t
 | _,_,_,_,.cons h r,t=>.cons h (r.append t)
theorem aH.get {ok:Addr->Prop}{H:Hp}:∀{vs:List V}{ds:List PyData}{i:Nat}{v:V},aH ok H vs ds->vs[i]?=some v->∃d,ds[i]?=some d/\aG ok H v d
 | _,_,0,_,.cons h _,e=>by cases e;exact⟨_,rfl,h⟩
 | _,_,i+1,_,.cons _ r,e=>aH.get r (i:=i) e
theorem aH.take {ok:Addr->Prop}{H:Hp}:∀{vs:List V}{ds:List PyData}(n:Nat),aH ok H vs ds->aH ok H (vs.take n) (ds.take n)
 | _,_,0,_=>.nil
 | _,_,_+1,.nil=>.nil
 | _,_,n+1,.cons h r=>.cons h (r.take n)
theorem aH.drop {ok:Addr->Prop}{H:Hp}:∀{vs:List V}{ds:List PyData}(n:Nat),aH ok H vs ds->aH ok H (vs.drop n) (ds.drop n)
 | _,_,0,h=>h
 | _,_,_+1,.nil=>.nil
 | _,_,n+1,.cons _ r=>r.drop n
theorem aH.cut {ok:Addr->Prop}{H:Hp}{vs:List V}{ds:List PyData}(t:aH ok H vs ds)(lo hi:Option Int):aH ok H (lG vs lo hi) ((ds.drop (HT.sIx ds.length 0 lo)).take (HT.sIx ds.length ds.length hi-HT.sIx ds.length 0 lo)):=by
 unfold lG;rw[t.length];exact(t.drop _).take _
section
variable {X:Cx}{pins:List (Addr×Obj)}{σ:St}{H:Hp}{s:Shared}{ok:Addr->Prop}
mutual
theorem aG.reads (I:Inv X pins σ H s):∀{v:V}{d:PyData}{u:Value},aG ok H v d->RelV v u->∃as,Reads s.heap u d as
 | _,_,_,.non,r=>by cases r;exact⟨_,.none⟩
 | _,_,_,.bl b,r=>by cases r;exact⟨_,.bool b⟩
 | _,_,_,.int i,r=>by obtain⟨t,rfl⟩:=r;exact⟨_,.int i t⟩
 | _,_,_,.str x,r=>by obtain⟨t,rfl⟩:=r;exact⟨_,.str x t⟩
 | _,_,_,.lst o e z t,r=>by
  cases r;obtain⟨its,rv,pl,hz⟩:=I.list (SqL.of e);obtain⟨ob,h1,h2,n,h3⟩:=pl.isList;obtain⟨as,h4⟩:=aH.reads I t rv;exact⟨_,.list h1 h2 h3 (by simpa using h4)⟩
 | _,_,_,.tup o e z t,r=>by
  cases r;obtain⟨its,rv,pl,hz⟩:=I.tuple (SqT.of e);obtain⟨ob,h1,h2,n,h3⟩:=pl;obtain⟨as,h4⟩:=aH.reads I t rv;exact⟨_,.tuple h1 h2 h3 (by simpa using h4)⟩
theorem aH.reads (I:Inv X pins σ H s):∀{vs:List V}{ds:List PyData}{us:List Value},aH ok H vs ds->Vals vs us->∃as,ReadsAll s.heap us ds as
 | _,_,_,.nil,r=>by cases r;exact⟨_,.nil⟩
 | _,_,_,.cons h t,r=>by
  cases r with
  | cons r1 r2=>
   obtain⟨as,h1⟩:=aG.reads I h r1;obtain⟨bs,h2⟩:=aH.reads I t r2;exact⟨_,.cons h1 h2⟩
end
end
mutual
noncomputable def nodes:PyData->Nat
 | .list ds=>1+aJ ds
 | .tuple ds=>1+aJ ds
 | _=>1
noncomputable def aJ:List PyData->Nat
 | []=>0
 | d::ds=>nodes d+aJ ds
end
mutual
noncomputable def smD:PyData->Bool
 | .none=>true
 | .bool _=>true
 | .int i=>decide (i.natAbs<2^50\/i.natAbs=10^20\/i.natAbs<2^55)
 | .str x=>decide ((reprText x).length<=50)
 | .list ds=>JM ds
 | .tuple ds=>JM ds
 | .dict _=>false
noncomputable def JM:List PyData->Bool
 | []=>true
 | d::ds=>smD d&&JM ds
end
theorem Qw {i:Int}(h:i.natAbs<2^70):(Str.ofString (toString i)).length<=71:=by
 rw[PySem.ofString_length];have:=int_text_length_le10 (a:=i) (k:=30) δ ω;omega
section
variable {X:Cx}{tg l:Expr}{tl:TE}
noncomputable def itq (K:PySem.W.Frag)(ob:Option HO)(a:Addr)(H:Hp)(R:It->Hp->Prop):Prop:=match ob with
 | some (.lst _)=>R (Itl K a) H
 | some (.tup _)=>R (Itt K a) H
 | _=>False
noncomputable def itK (K:PySem.W.Frag)(x:V)(H:Hp)(R:It->Hp->Prop):Prop:=match x with
 | .ref a=>itq K (H a) a H R
 | _=>False
noncomputable def Mg (K:PySem.W.Frag)(tl:TE):TI:=fun σ H R=>tl σ H fun x H1=>itK K x H1 R
theorem BJ (K:PySem.W.Frag)(tl:TE)(σ:St)(H:Hp)(R:It->Hp->Prop):Mg K tl σ H R=tl σ H fun x H1=>itK K x H1 R:=rfl
theorem Gi (K:PySem.W.Frag)(a:Addr)(H:Hp)(R:It->Hp->Prop):itK K (.ref a) H R=itq K (H a) a H R:=rfl
theorem Qv (K:PySem.W.Frag)(xs:List V)(a:Addr)(H:Hp)(R:It->Hp->Prop):itq K (some (.lst xs)) a H R=R (Itl K a) H:=rfl
theorem Gh (K:PySem.W.Frag)(xs:List V)(a:Addr)(H:Hp)(R:It->Hp->Prop):itq K (some (.tup xs)) a H R=R (Itt K a) H:=rfl
theorem Pa (hl:PE X l tl):PI X tg l (Mg X.K tl):=by
 intro pins s σ H R I h;refine thn (hl pins s σ H _ I h) fun v s1 ⟨x,H1,I1,r1,q1⟩=>?_;cases x with
 | ref a=>
  replace q1:itq X.K (H1 a) a H1 R:=q1;cases r1;unfold itq at q1;split at q1
  ·rename_i xs e;obtain⟨its,rv,p,hz⟩:=I1.list (SqL.of e);refine wpAny_pyIter_list p.isList ?_;refine⟨s1.heap.objs.size,[s1.heap.objs.size],_,_,H1,rfl,I1.kept (t':=s1.toks) fun b o e=>get?_push_of_some _ e,GP a _,⟨_,get?_push_size _ rfl,rfl,rfl⟩,fun b hb=>?_,q1⟩;have e:b=s1.heap.objs.size:=by simpa using hb
   subst e;exact I1.Io (le_refl _) (I1.hok.fresh (le_refl _))
  ·rename_i xs e;obtain⟨its,rv,p,hz⟩:=I1.tuple (SqT.of e);refine wpAny_pyIter_tuple (show s1.heap.IsTuple a its.toArray from p) ?_;refine⟨s1.heap.objs.size,[s1.heap.objs.size],_,_,H1,rfl,I1.kept (t':=s1.toks) fun b o e=>get?_push_of_some _ e,CT a _,⟨_,get?_push_size _ rfl,rfl,rfl⟩,fun b hb=>?_,q1⟩;have e:b=s1.heap.objs.size:=by simpa using hb
   subst e;exact I1.Io (le_refl _) (I1.hok.fresh (le_refl _))
  exact q1.elim
 | _=>exact q1.elim
theorem eG (hl:QE X l tl):QI X tg l (Mg X.K tl):=⟨Pa hl.h⟩
end
noncomputable def Gv (ok:Addr->Prop)(t:TE)(σ:St)(H0:Hp)(d:PyData):Prop:=∀H,Same H0 H->∀Q:VK,(∀v H',Same H H'->aG ok H' v d->Q v H')->t σ H Q
noncomputable def GvA (ok:Addr->Prop)(t:TA)(σ:St)(H0:Hp)(ds:List PyData):Prop:=∀H,Same H0 H->∀Q:List V->Hp->Prop,(∀vs H',Same H H'->aH ok H' vs ds->Q vs H')->t σ H Q
noncomputable def cY (ok:Addr->Prop)(H0:Hp):Prop:=∀H p,Same H0 H->H p=none->ok p
theorem Lb {H0:Hp}{p:Addr}{o:HO}(h:H0 p=some o):cY (·≠p) H0:=fun H q s hq=>(aF (s _ _ h) hq).symm
theorem cY.same {ok:Addr->Prop}{H0 H1:Hp}(n:cY ok H0)(s:Same H0 H1):cY ok H1:=fun H p s2 h=>n H p (s.trans s2) h
section
variable {ok:Addr->Prop}{σ:St}{H0:Hp}{ta tb:TE}{tr:TA}{d e:PyData}{ds es:List PyData}
theorem pN:Gv ok (tC .non) σ H0 .none:=fun H _ Q q=>q _ _ (Same.refl _) .non
theorem tO {b:Bool}:Gv ok (tC (.bl b)) σ H0 (.bool b):=fun H _ Q q=>q _ _ (Same.refl _) (.bl b)
theorem gQ {i:Int}:Gv ok (tC (.int i)) σ H0 (.int i):=fun H _ Q q=>q _ _ (Same.refl _) (.int i)
theorem sS {x:Str}:Gv ok (tC (.str x)) σ H0 (.str x):=fun H _ Q q=>q _ _ (Same.refl _) (.str x)
theorem cO:GvA ok rE σ H0 []:=fun H _ Q q=>q _ _ (Same.refl _) .nil
theorem aK (h:Gv ok ta σ H0 d)(h2:GvA ok tr σ H0 ds):GvA ok (jl ta tr) σ H0 (d::ds):=fun H s Q q=>
 h H s _ fun v H1 s1 t1=>h2 H1 (s.trans s1) _ fun vs H2 s2 t2=>q _ _ (s1.trans s2) (.cons (t1.same s2) t2)
theorem ni (n:cY ok H0)(h:GvA ok tr σ H0 ds)(hl:ds.length<=1000000):Gv ok (G4 tr) σ H0 (.tuple ds):=fun H s Q q=>
 h H s _ fun vs H1 s1 t1=>⟨aX (by rw[t1.length];exact hl),fun p hp=>q _ _ (s1.trans (aq hp)) (.tup (n H1 p (s.trans s1) hp) aB (by rw[t1.length];exact hl) (t1.same (aq hp)))⟩
theorem iH (n:cY ok H0)(h:GvA ok tr σ H0 ds)(hl:ds.length<=1000000):Gv ok (Aj tr) σ H0 (.list ds):=fun H s Q q=>
 h H s _ fun vs H1 s1 t1=>⟨aX (by rw[t1.length];exact hl),fun p hp=>q _ _ (s1.trans (aq hp)) (.lst (n H1 p (s.trans s1) hp) aB (by rw[t1.length];exact hl) (t1.same (aq hp)))⟩
theorem zq {r:R2}{i j k:Int}(h:Gv ok ta σ H0 (.int i))(h2:Gv ok tb σ H0 (.int j))(hr:∀H Q,Q (.int k) H->r (.int i) (.int j) H Q):Gv ok (tOp r ta tb) σ H0 (.int k):=fun H s Q q=>
 h H s _ fun v H1 s1 t1=>by
  cases t1;exact h2 H1 (s.trans s1) _ fun w H2 s2 t2=>by
   cases t2;exact hr _ _ (q _ _ (s1.trans s2) (.int k))
theorem vG (n:cY ok H0)(h:Gv ok ta σ H0 (.list ds))(h2:Gv ok tb σ H0 (.list es))(hl:ds.length+es.length<=1000000):Gv ok (tOp uX ta tb) σ H0 (.list (ds++es)):=fun H s Q q=>
 h H s _ fun v H1 s1 t1=>by
  cases t1 with
  | lst o1 e1 z1 t1=>
   refine h2 H1 (s.trans s1) _ fun w H2 s2 t2=>?_;cases t2 with
   | lst o2 e2 z2 t2=>
    have l1:=t1.length;have l2:=t2.length;show uX _ _ _ _;rw[Oq,s2 _ _ e1,e2,Nk];refine⟨aX ω,fun p hp=>q _ _ ((s1.trans s2).trans (aq hp)) (.lst (n H2 p ((s.trans s1).trans s2) hp) aB (by rw[length_append];omega) (((t1.same s2).append t2).same (aq hp)))⟩
end
noncomputable def DK:PyData->Bool
 | .int _=>true
 | _=>false
noncomputable def JH:Sp:=fun vs H Q _=>∃v ok d,vs=[v]/\aG ok H v d/\Q (.bl (DK d)) H
section
variable {X:Cx}{NX N:List Str}{kX:List (Str×NameKind)}{mp:List (Option Nat)}{scope:Scope}
set_option maxHeartbeats 8000000 in
theorem O3 {tg iter elt:Expr}{ifs:List Expr}{pos pos' pos2:Pos}{wi:TI}{g:TG}{tc:TT}{te:TE}{i:Nat}{x:Str}(N:List Str)(mp:List (Option Nat))(hn:Nm X.N X.env.scope i x)(hNd:X.N.Nodup)(hNX:X.N=NX)(hkX:X.env.scope.names=kX)(S:yo NX kX N mp scope)(hc:X.calm=true)
  (hi:PI X tg iter wi) (hg:∀cl C s H fp,PG (cP X N scope cl C s H fp) tg g) (ht:∀cl C s H fp,PTs (cP X N scope cl C s H fp) ifs tc) (he:∀cl C s H fp,PE (cP X N scope cl C s H fp) elt te)
  (hf:X.fn x=true\/X.env.scope.names.lookup x=some .local:=by exact .inl rfl)
  (hsw:swapsWithSole [.Name x pos'] (.ListComp elt [⟨tg,iter,ifs,0⟩] scope pos) pos2.line X.env=pure true:=by rfl)
  (h1:(assignEach [.Name x pos'] X.env).map (·.2)=[assign (.Name x pos') X.env]:=by rfl)
  (hs:∀x,foldedSetIterable iter X.env x=pure x:=by intro _;rfl):PS X (.Assign [.Name x pos'] (.ListComp elt [⟨tg,iter,ifs,0⟩] scope pos) pos2) (tU (w6 mp wi g tc te) (j4 i)):=by
 intro pins s σ H Dn I h;rw[exec_Assign_arm];refine wpAny_bind (wpAny_standAt ?_);rw[hsw];refine wpAny_bind (wpAny_pure ?_);rw[if_pos rfl,h1];replace h:w6 mp wi g tc te σ H (fun v H1=>Dn.nx (σ.set i (some v)) H1):=h;obtain⟨cl,hcl,hsub,hhas⟩:=Gx (env:=X.env) (scope:=scope) fun y hy hf=>I.ok.has y.1 (by
  rcases S.fre y hy hf with q|q
  ·exact .inl (show X.env.scope.names.lookup y.1=_ by rw[hkX];exact q)
  exact .inr (show X.env.scope.names.lookup y.1=_ by rw[hkX];exact q))
 generalize hQ:(fun(v:V)(H1:Hp)=>Dn.nx (σ.set i (some v)) H1)=Q at h
 let QQ:Value->Shared->Prop:=fun _ s'=>∃τ H',Inv X pins τ H' s'/\Dn.nx τ H'
 refine wpAny_bind (wpAny_bind (thn (Q:=QQ) (wpAny_comprehension_free (e:=.ListComp elt [⟨tg,iter,ifs,0⟩] scope pos) (use:=some fun v=>assignAll v [assign (.Name x pos') X.env]) rfl hs hcl S.kind S.locs ?_) fun _ s' ⟨τ,H',I',q'⟩=>wpAny_pure (wpAny_pure ⟨τ,H',I',q'⟩)));refine thn (hi pins s σ H _ I h) fun v s1 h1=>thn h1 fun itv s2 h2=>?_;obtain⟨it,fp,tn,J,H2,e,I2,T,st2,f2,W,⟨m0,w0⟩,turn⟩:=h2;subst e;refine wpAny_newObj_type (wpAny_newFunctionEnv S.nocell (by intro y hy;simp at hy) (fun h3 hns hsb=>?_) S.kind);dsimp only at hns hsb |-;have hold:∀b∈fp,b<s2.heap.objs.size:=fun b hb=>by
  obtain⟨o,q,_⟩:=T.obj _ _ st2 b hb;exact lt_size q
 generalize hD:s2.heap.objs.size=D at hns hsb;generalize hH2:s2.heap.push { cls:=.type "list",dict:=none,data:=.seq ([]:List Value).toArray }=P2 at hns hsb |-;have hC:P2.objs.size=D+1:=by rw[<- hH2,size_push,hD]
 generalize hC':P2.objs.size=C at hns hsb |-;rw[hC'] at hC;have old:∀b o,s2.heap.get? b=some o->h3.get? b=some o:=fun b o q=>by
  have hb:=lt_size q;exact hsb.extBut b o (na1 hb hD hC) (get?_push_of_some _ (hH2 ▸ get?_push_of_some _ q))
 have accD:h3.get? D=some { cls:=.type "list",data:=.seq ([]:List Value).toArray }:=
  hsb.extBut _ _ (na2 hC) (get?_push_of_some _ (by rw[<- hH2,<- hD];exact get?_push_size _ rfl))
 have hfr:D∉frs X.stack:=fun z=>by
  rcases mem_cons.mp (I2.rF D z) with q|q
  ·exact na0 I2.lt hD q.symm
  exact I2.T9 (na4 hD) q
 have I0:Inv (cP X N scope cl C s2 H2 fp) [(D,{ cls:=.type "list",data:=.seq ([]:List Value).toArray })] (qd mp σ) H2 { s2 with heap:=h3,toks:=s2.toks+([]:List (Str×Value)).length }:=
  Gw (s':={ s2 with heap:=h3,toks:=s2.toks+([]:List (Str×Value)).length }) hNX hkX S I2 f2 hold (na3 hD hC) hsub hhas rfl rfl ⟨_,hns⟩ old fun p hp=>by
   have ep:=mem_singleton.mp hp;subst ep;exact⟨accD,I2.hok.fresh (na4 hD),na2 hC,hfr,fun v z=>by cases z⟩
 have T0:tn 0 h3:=T.keep _ _ _ st2 fun b _ o q=>old b o q;have loop:∀z:Shared,z={ s2 with heap:=h3,toks:=s2.toks+([]:List (Str×Value)).length } ->
   codeAny (model X.prog X.w) X.A (.compLoop (.ListComp elt [⟨tg,iter,ifs,0⟩] scope pos) 0 (.ref it) (.ref D) (compEnvC scope cl C X.env))
    (compPost (model X.prog X.w) X.A X.xe (some fun v=>assignAll v [assign (.Name x pos') X.env]) QQ (.ref D) C) z:=by
  rintro z rfl;have stat:∀{H':Hp}{pl:List (Addr×Obj)},(∀b∈fp,H' b=none)->(∀p∈pl,p.1=D)->∀b∈fp,rC (cP X N scope cl C s2 H2 fp) pl H' b:=fun hn hp b hb=>by
   have hb2:=hold b hb;refine⟨hn b hb,na1 hb2 hD hC,(Em hkX S I2 f2 hold (na3 hD hC) hsub hhas).exfs b hb,.inl hb,fun x c q=>(f2 b hb).2.2.2.2.1 x c (hsub x c q),fun p hpp=>?_⟩;have hpD:=hp p (by simpa [cP] using hpp);rw[hpD];exact(na0 hb2 hD).symm
  refine xV (env:=compEnvC scope cl C X.env) (fun n z=>∃i acc τ H' its k,Inv (cP X N scope cl C s2 H2 fp) [(D,{ cls:=.type "list",data:=.seq (List.toArray its) k })] τ H' z/\tn i z.heap/\(∀b∈fp,H' b=none)/\Vals acc its/\acc.length<=sizeLine/\W i n acc τ H')
   ?_ m0 ⟨0,[],_,H2,[],0,I0,T0,fun b hb=>(f2 b hb).1,.nil,zero_le _,w0⟩
  rintro n s5 ⟨i,acc,τ,H5,its,k,I5,st5,fr5,va,hz,w5⟩;rcases turn i n acc τ H5 w5 with⟨stop,qn⟩|⟨go,hz2,N9,hN9,step⟩
  ·refine thn (T.done (cP X N scope cl C s2 H2 fp) rfl rfl rfl hc i _ s5 τ H5 _ I5 (stat fr5 (by simp)) st5 stop) fun r s6 ⟨hr,I6⟩=>?_;subst hr;obtain⟨m6,hn6,_⟩:=I6.loc;obtain⟨dD,nD,_,_,_⟩:=I6.pin (D,_) (mem_append_right _ (mem_singleton.mpr rfl));have U:=I6.base;have nC:H5 C=none:=I6.free;have ne:∀b o,s2.heap.get? b=some o->b≠C/\b≠D:=fun b o q=>by
    exact⟨na1 (lt_size q) hD hC,na0 (lt_size q) hD⟩
   have key:∀h',Heap.SameBut C s6.heap h'->Inv X pins σ (upd H5 D (.lst acc)) { s6 with heap:=h' }:=fun h' sb=>by
    have keepC:∀b o,b≠C->s6.heap.get? b=some o->h'.get? b=some o:=fun b o hb q=>(sb.2 b hb).trans q;have U':Un (frs X.stack) fp H2 (upd H5 D (.lst acc)) s2.heap h':=by
     refine⟨fun b o q n1 hb hx=>keepC b o (ne b o q).1 (U.keep b o q n1 hb hx),fun b o q n1 hb hx=>?_,fun b o q n1 hx=>?_,fun b o q hx=>?_,fun b xs q=>?_,fun b o xs q=>?_,fun b ps q=>?_⟩
     ·obtain⟨sl,z⟩:=U.slot b o q n1 hb hx;exact⟨sl,keepC b _ (ne b o q).1 z⟩
     ·rw[aO (ne b o q).2];exact U.free b o q n1 hx
     ·obtain⟨o',z⟩:=U.there b o q hx;exact⟨o',keepC b _ (ne b o q).1 z⟩
     ·have z:=U.tups b xs q;rw[aO (aF z nD)];exact z
     ·have z:=U.frzs b o xs q;rw[aO (aF z nD)];exact z
     obtain⟨more,z⟩:=U.tbls b ps q;exact⟨more,by rw[aO (aF z nD)];exact z⟩
    have hok:HOk X.prog X.w (upd H5 D (.lst acc)) h':=fun b u q=>by
     by_cases hb:b=D
     ·subst hb;rw[aB] at q;cases q;exact⟨hz,its,k,va,keepC _ _ (na2 hC) dD⟩
     rw[aO hb] at q;refine(I6.hok b u q).stay (fun c v hcc z=>keepC c v ?_ z) (fun c z=>by rw[aO (aF z nD)];exact z) fun c xs z=>by rw[aO (aF z nD)];exact z
     rcases hcc with z1|z1
     ·subst z1;exact aF q nC
     exact aF z1 nC
    have I7:Inv X pins σ (upd H5 D (.lst acc)) { s6 with heap:=h' }:=I2.call' (s':={ s6 with heap:=h' }) (ch:=fp) I6.os U' hok I6.bare fun b hb=>by
     obtain⟨_,a2,_,a4,a5,a6⟩:=f2 b hb;exact⟨a4,a2,a5,a6⟩
    exact I7
   have I7:Inv X pins σ (upd H5 D (.lst acc)) s6:=key s6.heap (Heap.SameBut.refl _ _);have lC:X.env.locals≠C:=na1 I2.lt hD hC;have cC:∀y c,X.env.cells.lookup y=some c->c≠C:=fun y c z=>by
    obtain⟨_,o,h1,_⟩:=I2.cell y c z;exact na1 (lt_size h1) hD hC
   show wpAny _ _ (assign (.Name x pos') X.env (.ref D)) _ _ s6;refine wpAny_assign_Name (xg (v:=.ref D) I7 hNd hn.hN hn.hv rfl (fun s7 I8 ⟨a,sa,ha⟩=>?_) hf);have aC:a≠C:=by
    rcases ha with rfl|ha
    ·exact lC
    exact cC _ _ ha
   obtain⟨o6,es6,ep6,g1,g2,g3,g4⟩:=hn6;refine⟨m6,⟨o6,es6,ep6,(sa.2 C (Ne.symm aC)).trans g1,g2,g3,g4⟩,fun h' sb=>?_⟩;have q9:=qn D nD;rw[<- hQ] at q9;refine⟨_,_,I8.turned (it:=C) (t':=s7.toks) (fun b o hb q=>(sb.2 b hb).trans q) ?_ (Ne.symm lC) (.inr (le_trans I2.sz (na3 hD hC))) cC (fun p hp=>?_),q9⟩
   ·rw[aO (Ne.symm (na2 hC))];exact nC
   obtain⟨h1,_⟩:=I2.pin p hp;exact na1 (lt_size h1) hD hC
  refine thn (T.item (cP X N scope cl C s2 H2 fp) rfl rfl rfl hc i _ s5 τ H5 _ I5 (stat fr5 (by simp)) st5 go) fun r s6 ⟨u,hr,h6⟩=>?_;subst hr;refine thn h6 fun _ s7 ⟨x,H7,I7,r7,y7,st7,fr7⟩=>?_;have I7':=I7.pinned (stat fr7 (by simp)) (T.obj _ _ st7);have no:∀{α:Type}{t:Sem α}{Q1 Q2:α->Shared->Prop}{E:Value->Shared->Prop}{z:Shared},wpAny (model X.prog X.w) X.A t Q1 (fun _ _=>False) z->(∀a z,Q1 a z->Q2 a z)->wpAny (model X.prog X.w) X.A t Q2 E z:=
   fun q f=>wpAny_mono q f fun _ _ z=>z.elim
  refine no (hg cl C s2 H2 fp _ s7 τ H7 x u _ I7' r7 (step x H7 y7)) fun _ s8 ⟨τ1,H8,I8,q8⟩=>?_;refine no (ht cl C s2 H2 fp _ s8 τ1 H8 _ I8 q8) fun ok s9 ⟨H9,I9,q9⟩=>?_;have again:∀{H':Hp}{z:Shared}{its':List Value}{k':Nat},Inv (cP X N scope cl C s2 H2 fp) ([(D,{ cls:=.type "list",data:=.seq (List.toArray its') k' })]++j9 fp s7.heap) τ1 H' z ->
    tn (i+1) z.heap/\(∀b∈fp,H' b=none)/\Inv (cP X N scope cl C s2 H2 fp) [(D,{ cls:=.type "list",data:=.seq (List.toArray its') k' })] τ1 H' z:=fun {H' z its' k'} Iz=>by
   have get:∀b∈fp,∀o,s7.heap.get? b=some o->z.heap.get? b=some o/\H' b=none:=fun b hb o q=>by
    obtain⟨a1,a2,_⟩:=Iz.pin (b,o) (mem_append_right _ (mem_append_right _ (lY hb q)));exact⟨a1,a2⟩
   refine⟨T.keep _ _ _ st7 fun b hb o q=>(get b hb o q).1,fun b hb=>?_,Iz.mH⟩;obtain⟨o,q,_⟩:=T.obj _ _ st7 b hb;exact(get b hb o q).2
  cases ok with
  | false=>
   rw[if_neg Bool.false_ne_true] at q9 |-;obtain⟨m',hm,w9⟩:=hN9 _ _ _ q9;obtain⟨a1,a2,a3⟩:=again I9;exact⟨m',hm,i+1,acc,τ1,H9,its,k,a3,a1,a2,va,hz,w9⟩
  | true=>
   rw[if_pos rfl] at q9 |-;refine no (he cl C s2 H2 fp _ s9 τ1 H9 _ I9 q9) fun y s10 ⟨v,H10,I10,rv,q10⟩=>?_;obtain⟨m',hm,w10⟩:=hN9 _ _ _ q10;obtain⟨a1,a2,a3⟩:=again I10;obtain⟨dD,nD,_,_,_⟩:=a3.pin (D,_) (mem_append_right _ (mem_singleton.mpr rfl));have hlen:=va.length;refine call_meets F.slot_list_append ⟨_,dD,rfl⟩ F.entry_list_append (F.args_list_append_2 _ _) (PySem.list_append D its.toArray k y (by rw[size_toArray];omega)) ⟨dD,?_⟩;obtain⟨k',q⟩:∃k',(s10.heap.update D (Obj.mapSeq fun a=>a.push y)).get? D=some { cls:=.type "list",data:=.seq (its++[y]).toArray k' }:=by
    have q:=PySem.IsL.update dD (fun a=>a.push y);rw[show its.toArray.push y=(its++[y]).toArray by simp] at q;exact⟨_,q⟩
   have a4:Inv (cP X N scope cl C s2 H2 fp) (j9 fp s7.heap) τ1 H10 s10:=I10.nU fun p hp=>I10.pin p (mem_append_right _ (mem_append_right _ hp));have a5:Inv (cP X N scope cl C s2 H2 fp) (j9 fp s7.heap) τ1 H10 { s10 with heap:=s10.heap.update D (Obj.mapSeq fun a=>a.push y),toks:=s10.toks }:=
    a4.turned (it:=D) (fun b o hb z=>(get?_update_other _ _ (Ne.symm hb)).trans z) nD (na2 hC) (.inr (na4 hD))
     (fun x c z=>by
      obtain⟨_,o,h1,_⟩:=I2.cell x c (hsub x c z);exact na0 (lt_size h1) hD) fun p hp=>by
      have hb:=(rT (by simpa [cP] using hp)).1;exact na0 (hold _ hb) hD
   obtain⟨b1,b2,b3⟩:=(show tn (i+1) (s10.heap.update D (Obj.mapSeq fun a=>a.push y))/\(∀b∈fp,H10 b=none)/\True from
    ⟨T.keep _ _ _ a1 fun b hb o z=>(get?_update_other _ _ (na0 (hold b hb) hD).symm).trans z,a2,trivial⟩)
   refine⟨m',hm,i+1,acc++[v],τ1,H10,its++[y],k',a5.nU fun p hp=>?_,b1,b2,va.append (.cons rv .nil),by rw[length_append,length_singleton];omega,w10⟩;have ep:=mem_singleton.mp hp;subst ep;exact⟨q,nD,na2 hC,hfr,fun v z=>by cases z⟩
 have e1:{ newEnv scope C X.env.globals cl X.env.qual none .none (some X.env) X.env.builtins with scope:=relabel scope X.env }=compEnvC scope cl C X.env:=rfl;exact codeAny_compStart_list (loop _ rfl) (T.self _ 0 _ _ _ T0 (loop _ rfl))
theorem ux {tg iter elt:Expr}{ifs:List Expr}{pos pos' pos2:Pos}{wi:TI}{g:TG}{tc:TT}{te:TE}{i:Nat}{x:Str}(N:List Str)(mp:List (Option Nat))(hn:Nm X.N X.env.scope i x)(hNd:X.N.Nodup)(hNX:X.N=NX)(hkX:X.env.scope.names=kX)(S:yo NX kX N mp scope)(hc:X.calm=true)
  (hi:QI X tg iter wi) (hg:∀cl C s H fp,QG (cP X N scope cl C s H fp) tg g) (ht:∀cl C s H fp,QC (cP X N scope cl C s H fp) ifs tc) (he:∀cl C s H fp,QE (cP X N scope cl C s H fp) elt te)
  (hf:X.fn x=true\/X.env.scope.names.lookup x=some .local:=by exact .inl rfl)
  (hsw:swapsWithSole [.Name x pos'] (.ListComp elt [⟨tg,iter,ifs,0⟩] scope pos) pos2.line X.env=pure true:=by rfl)
  (h1:(assignEach [.Name x pos'] X.env).map (·.2)=[assign (.Name x pos') X.env]:=by rfl)
  (hs:∀x,foldedSetIterable iter X.env x=pure x:=by intro _;rfl):QS X (.Assign [.Name x pos'] (.ListComp elt [⟨tg,iter,ifs,0⟩] scope pos) pos2) (tU (w6 mp wi g tc te) (j4 i)):=
 ⟨O3 N mp hn hNd hNX hkX S hc hi.h (fun cl C s H fp=>(hg cl C s H fp).h) (fun cl C s H fp=>(ht cl C s H fp).h) (fun cl C s H fp=>(he cl C s H fp).h) hf hsw h1 hs⟩
end
section
variable {mp:List (Option Nat)}{g:TG}{te:TE}{σ:St}{H:Hp}{Q:VK}{R:It->Hp->Prop}{K:PySem.W.Frag}{a:Addr}{xs:List V}{ds:List PyData}{ok:Addr->Prop}
theorem take_snoc {α:Type}{l:List α}{i:Nat}{x:α}(h:l[i]?=some x):l.take (i+1)=l.take i++[x]:=by
 rw[List.take_add_one,h];rfl
end
noncomputable def dj (d:PyData)(z:Str):Bool:=match d with
 | .str x=>decide (x=z)
 | _=>false
theorem lE {ok:Addr->Prop}{H:Hp}{x:V}{d:PyData}{z:Str}{Q:VK}(t:aG ok H x d)(q:Q (.bl (dj d z)) H):Ke x (.str z) H Q:=by
 cases t with
 | non=>exact⟨rfl,q⟩
 | bl b=>exact⟨rfl,q⟩
 | int i=>exact⟨rfl,q⟩
 | str y=>exact⟨rfl,by rw[show decide (V.str y=V.str z)=decide (y=z) by simp];exact q⟩
 | lst o e z t=>show eqo _ _ _;rw[e];exact q
 | tup o e z t=>show eqo _ _ _;rw[e];exact q
theorem Mu {p c:Addr}{H Hk:Hp}{B:Int}(s:aV p H Hk)(t:aP Hk p B)(h:Hk c=none):c≠p/\H c=none:=by
 have n:=t.ne h;refine⟨n,?_⟩;cases e:H c with
 | none=>rfl
 | some o=>rw[s _ _ n e] at h;cases h
theorem kO {p c:Addr}{H H':Hp}{o:HO}(s:aV p H H')(h:H c=none):aV p H (upd H' c o):=fun b u n e=>by
 rw[aO (aF e h)];exact s b u n e
theorem aP.upd {H:Hp}{p c:Addr}{B:Int}{o:HO}(t:aP H p B)(n:c≠p):aP (upd H c o) p B:=by
 obtain⟨a,b,c',e,r⟩:=t;exact⟨a,b,c',by rw[aO (Ne.symm n)];exact e,r⟩
section
variable {ok:Addr->Prop}{σ:St}{H0 H:Hp}{ta tb te:TE}{tr:TA}{d e:PyData}{ds es:List PyData}{D:Ends}{i:Nat}
noncomputable def cutD (ds:List PyData)(lo hi:Option Int):List PyData:=(ds.drop (HT.sIx ds.length 0 lo)).take (HT.sIx ds.length ds.length hi-HT.sIx ds.length 0 lo)
theorem MK {lo hi:Option Int}{x:PyData}(h:x∈cutD ds lo hi):x∈ds:=List.mem_of_mem_drop (List.mem_of_mem_take h)
theorem qY (ds:List PyData)(lo hi:Option Int):(cutD ds lo hi).length<=ds.length:=by
 unfold cutD;rw[length_take,length_drop];omega
theorem jP {tl th:TO}{lo hi:Option Int}(n:cY ok H0)(h:Gv ok te σ H0 (.list ds))(hl:∀(H:Hp)(Q:Option Int->Hp->Prop),Q lo H->tl σ H Q)(hh:∀(H:Hp)(Q:Option Int->Hp->Prop),Q hi H->th σ H Q):Gv ok (tSl JX te tl th) σ H0 (.list (cutD ds lo hi)):=fun H s Q q=>
 h H s _ fun v H1 s1 t1=>by
  cases t1 with
  | lst o1 e1 z1 t1=>
   refine hl H1 _ (hh H1 _ ?_);rw[Ay,e1,Fj];intro p hp;refine q _ _ (s1.trans (aq hp)) (.lst (n H1 p (s.trans s1) hp) aB (le_trans (nA _ _ _) z1) ?_);exact(t1.cut lo hi).same (aq hp)
theorem Ni (h:Gv ok te σ H d)(q:∀v H',Same H H'->aG ok H' v d->D.nx (σ.set i (some v)) H'):tU te (j4 i) D σ H:=h H (Same.refl _) _ fun v H' s t=>q v H' s t
end
theorem gm.Rj {k:Nat}{A:Around}(r:gm k A):A.units+200<cLine:=by have:=r.un;omega
theorem aH.set {ok:Addr->Prop}{H:Hp}{x:V}{d:PyData}(t:aG ok H x d):∀{xs:List V}{ds:List PyData}(j:Nat),aH ok H xs ds->aH ok H (xs.set j x) (ds.set j d)
 | _,_,_,.nil=>.nil
 | _,_,0,.cons _ r=>.cons t r
 | _,_,j+1,.cons h r=>.cons h (aH.set t j r)
theorem aH.last {ok:Addr->Prop}{H:Hp}{xs:List V}{ds:List PyData}{d:PyData}(t:aH ok H xs (ds++[d])):∃x,atI xs (-1)=some x/\aG ok H x d:=by
 have hl:=t.length;rw[length_append,length_singleton] at hl;have h1:ds.length<xs.length:=ω;obtain⟨e,he,te⟩:=t.get (i:=ds.length) (v:=xs[ds.length]) (getElem?_eq_getElem h1);rw[getElem?_append_right (le_refl _),sub_self] at he;cases he;refine⟨_,?_,te⟩;unfold atI ixN;rw[if_neg δ,if_pos ω];show xs[_]?=_;rw[show(-1+(xs.length:Int)).toNat=ds.length by omega];exact getElem?_eq_getElem h1
theorem QF {ok:Addr->Prop}{σ:St}{H0:Hp}{te:TE}{ds:List PyData}{d:PyData}(h:Gv ok te σ H0 (.list (ds++[d]))):Gv ok (tOp uW te (tUn (rU fun i=>V.int (-i)) (tC (V.int 1)))) σ H0 d:=fun H s Q q=>
 h H s _ fun v H1 s1 t1=>by
  cases t1 with
  | lst o1 e1 z1 t1=>
   obtain⟨x,hx,tx⟩:=t1.last;refine⟨1,rfl,?_⟩;show uW _ _ _ _;rw[Az,e1,Qt];exact⟨x,hx,q _ _ s1 tx⟩
theorem sJ {α:Type}(l:List α)(h:0<l.length):∃a b,l=a++[b]:=by
 induction l with
 | nil=>cases h
 | cons x r ih=>
  cases r with
  | nil=>exact⟨[],x,rfl⟩
  | cons y r=>
   obtain⟨a,b,e⟩:=ih (by simp);exact⟨x::a,b,by rw[e];rfl⟩
theorem ou {n:Nat}{i:Int}(h0:0<=i)(h:i<n):ixN n i=some i.toNat:=by
 unfold ixN;rw[if_pos h0,if_pos h]
theorem aP.newOk {H:Hp}{p:Addr}{B:Int}(t:aP H p B):cY (·≠p) H:=by
 obtain⟨a,b,c,e,_⟩:=t;exact Lb e
theorem Ir (t:Addr) (items:Array Value):Meets (Builtin.«enumerate.__new__» { pos:=[Value.type "enumerate",Value.ref t] }) fun _ R s=>
  s.heap.IsTuple t items/\R (.ok (.ret (.ref (s.heap.objs.size+1)))) { s with heap:=(s.heap.push { cls:=.type "tuple_iterator",data:=.fields #[.ref t,.int 0 0] }).push { cls:=.type "enumerate",data:=.fields #[.none,.bool false,.ref s.heap.objs.size,rawInt 0,.none,.none] } }:=by
 refine Meets.of_wp fun prog w A R s h=>?_;obtain⟨ht,hR⟩:=h;unfold Builtin.«enumerate.__new__» Builtin.SmallTypes.newClass;refine wpAny_bind (wpAny_bind (wpAny_pure (wpAny_ite_false rfl (wpAny_bind (wpAny_of_eq sub_enumerate (wpAny_ite_false rfl (wpAny_pure (wpAny_ite_true rfl (wpAny_bind ?_)))))))));unfold Builtin.SmallTypes.calledThroughType;refine wpAny_bind (wpAny_stack_any fun st=>wpAny_pure ?_);have fin:wpAny (model prog w) A.in1 (do
   let it <- pyIter (Value.ref t)
   let r <- Builtin.SmallTypes.newRecord (Value.type "enumerate") (Builtin.SmallTypes.ownedTupleFields++[it,rawInt 0,Value.none,Value.none])
   ret r) (fun fin s'=>∃v,fin=Fin.done (Flow.ret v)/\R (Except.ok (Flow.ret v)) s') (fun e s'=>R (Except.error e) s') s:=by
  refine wpAny_bind (wpAny_pyIter_tuple ht ?_);show wpAny _ _ (newObj (.type "enumerate") (.fields #[.none,.bool false,.ref s.heap.objs.size,rawInt 0,.none,.none]) >>= fun r=>ret r) _ _ _;refine wpAny_bind (wpAny_newObj_type ?_);refine wpAny_pure ⟨_,rfl,?_⟩;have e:(s.heap.push { cls:=Value.type "tuple_iterator",data:=Data.fields #[Value.ref t,Value.int 0 0] }).objs.size=s.heap.objs.size+1:=size_push ..;rw[e];exact hR
 dsimp only;split
 ·split
  ·exact wpAny_bind (wpAny_pure fin)
  exact wpAny_bind (wpAny_pure fin)
 split
 ·exact wpAny_bind (wpAny_pure fin)
 exact wpAny_bind (wpAny_pure fin)
theorem qw {prog:Program}{w:World}{A:Around}{E:Value->Shared->Prop}{s:Shared}{it t:Addr}{i:Nat}{items:Array Value}{x:Value}{Q:Value->Shared->Prop}(hit:s.heap.IsTupleIter it t i)(ht:s.heap.IsTuple t items)(hx:items[i]?=some x)
  (hQ:∀h',h'.IsTupleIter it t (i+1)->Heap.SameBut it s.heap h'->Q x { s with heap:=h' }):wpAny (model prog w) A (Builtin.SmallTypes.nextOf (Value.ref it)) Q E s:=by
 obtain⟨o,ho,hc,hd⟩:=id hit;obtain⟨ol,hol,hcl,nl,hdl⟩:=ht;unfold Builtin.SmallTypes.nextOf;refine wpAny_bind (wpAny_callSpecial?_slot hit.typeIs F.slot_tuple_iterator_next (wpAny_call_entry F.slot_tuple_iterator_next hit.typeIs F.entry_tuple_iterator_next ?_ (F.args_tuple_iterator_next_1 _)));refine wpAny_bind (wpAny_pure (wpAny_bind (wpAny_field ho hd (i:=0) rfl ?_)));refine wpAny_ite_false rfl (wpAny_bind (wpAny_field ho hd (i:=1) rfl ?_));refine wpAny_bind (wpAny_seqItems hol hdl ?_);show wpAny _ _ (match items[(i:Int).toNat]? with
  | some x=>(do setField (.ref it) 1 (rawInt ((i:Int)+1));ret x)
  | none=>_) _ _ _
 rw[toNat_natCast,hx];refine wpAny_bind (wpAny_setField ho hd (lt_succ_self 1) (wpAny_pure ⟨x,rfl,wpAny_pure (hQ _ ?_ ?_)⟩))
 ·refine⟨_,Heap.get?_update_self _ ho (Obj.isFreed_of_fields (Obj.data_mapFields hd _)),(Obj.cls_mapFields o _).trans hc,?_⟩;rw[Obj.data_mapFields hd];rfl
 exact Heap.SameBut.update s.heap it _
theorem rY {prog:Program}{w:World}{A:Around}{E:Value->Shared->Prop}{s:Shared}{it t:Addr}{i:Nat}{items:Array Value}{Q:Value->Shared->Prop}(hh:A.handled=none)(hit:s.heap.IsTupleIter it t i)(ht:s.heap.IsTuple t items)(hx:items[i]?=none)
  (hE:∀h' e,Heap.ExtBut it s.heap h'->(∃o,h'.get? e=some o/\o.cls=Value.type "StopIteration")->E (.ref e) { s with heap:=h' }):wpAny (model prog w) A (Builtin.SmallTypes.nextOf (Value.ref it)) Q E s:=by
 obtain⟨o,ho,hc,hd⟩:=id hit;obtain⟨ol,hol,hcl,nl,hdl⟩:=ht;unfold Builtin.SmallTypes.nextOf;refine wpAny_bind (wpAny_callSpecial?_slot hit.typeIs F.slot_tuple_iterator_next (wpAny_call_entry F.slot_tuple_iterator_next hit.typeIs F.entry_tuple_iterator_next ?_ (F.args_tuple_iterator_next_1 _)));refine wpAny_bind (wpAny_pure (wpAny_bind (wpAny_field ho hd (i:=0) rfl ?_)));refine wpAny_ite_false rfl (wpAny_bind (wpAny_field ho hd (i:=1) rfl ?_));refine wpAny_bind (wpAny_seqItems hol hdl ?_);show wpAny _ _ (match items[(i:Int).toNat]? with
  | some x=>_
  | none=>(do rule (toString "tuple_iterator.__next__" ++ toString ".end");setField (.ref it) 0 .none;Builtin.SmallTypes.stopIteration)) _ _ _
 rw[toNat_natCast,hx];refine wpAny_bind (wpAny_rule (wpAny_bind (wpAny_setField ho hd (Nat.zero_lt_succ 1) ?_)));unfold Builtin.SmallTypes.stopIteration newExc;refine wpAny_bind (wpAny_bind (wpAny_newObj_type ?_));refine wpAny_bind (wpAny_of_eq (a:=.none) rfl ?_);refine wpAny_newObj_type ?_;refine wpAny_raiseNew_none hh (hE _ _ ?_ ?_)
 ·exact fun b ob hb e=>get?_push_of_some _ (get?_push_of_some _ ((get?_update_other _ _ (Ne.symm hb)).trans e))
 exact⟨_,get?_push_size _ rfl,rfl⟩
theorem tQ {prog:Program}{w:World}{A:Around}(hh:A.handled=none)(it t:Addr)(hne:t≠it)(items:Array Value):Draws prog w A it [it,t] items.size (fun i v=>items[i]?=some v) fun i h=>h.IsTupleIter it t i/\h.IsTuple t items where
 live:=fun _ _ st=>by
  obtain⟨⟨o,ho,_⟩,_⟩:=st;exact⟨o,ho⟩
 frame:=fun _ _ _ st hk=>by
  obtain⟨h1,⟨o,e,r⟩⟩:=st;exact⟨h1.at fun o e=>hk it (by simp) o e,o,hk t (by simp) o e,r⟩
 item:=fun i s Q E hi st hQ=>by
  have e:items[i]?=some items[i]:=by simp [hi]
  refine qw st.1 st.2 e fun h' h1 sb=>hQ _ _ s.toks e ⟨h1,?_⟩ sb;obtain⟨o,g,r⟩:=st.2;exact⟨o,(sb.2 t hne).trans g,r⟩
 done:=fun s Q E st hE=>rY hh st.1 st.2 (by simp) hE
noncomputable def Iet (K:PySem.W.Frag)(a:Addr):It:=
 ⟨fun i H=>∃xs x,SqT K H a xs/\xs[i]?=some x,
  fun i H v H'=>∃p x,v=.ref p/\H p=none/\H'=upd H p (.tup [.int (i:Nat),x])/\∀xs,SqT K H a xs->xs[i]?=some x,
  fun i H=>∃xs,SqT K H a xs/\xs.length=i⟩
theorem CW {P:Program}{w:World}{K:PySem.W.Frag}{es:List Expr}{kk:Nat}{tpos:Pos}{e it l:Addr}(hne:e≠it) :
  Turn P w K (.Tuple es kk tpos) (Iet K l) [e,it] e (fun i h=>(∃old,IsEnum h e it ((i:Nat):Int) old)/\h.IsTupleIter it l i) where
 mem:=by simp
 obj:=fun i h st b hb=>by
  obtain⟨⟨old,he⟩,⟨o1,e1,c1,d1⟩⟩:=st;simp only[mem_cons,not_mem_nil,or_false] at hb;rcases hb with rfl|rfl
  ·exact⟨_,he,fun v q=>by cases q⟩
  exact⟨o1,e1,fun v q=>by rw[d1] at q;cases q⟩
 keep:=fun i h h' st k=>by
  obtain⟨⟨old,he⟩,h1⟩:=st;exact⟨⟨old,k e (by simp) _ he⟩,h1.at fun o q=>k it (by simp) o q⟩
 item:=by
  intro X hP hw hK hc i pins s σ H E I hf st hg;subst hP hw hK;obtain⟨xs,x,q1,hx⟩:=hg;obtain⟨its1,rv1,p1,hz1⟩:=I.tuple q1;obtain⟨u1,hu1,ru1⟩:=rv1.get hx;obtain⟨⟨old,he⟩,h1⟩:=st;have hel:e≠l:=fun z=>by
   obtain⟨ol,g1,g2,_⟩:=p1;rw[<- z,he] at g1;cases g1;injection g2 with g2;exact absurd g2 δ
  have hil:l≠it:=fun z=>by
   obtain⟨ol,g1,g2,_⟩:=p1;obtain⟨oi,g3,g4,_⟩:=h1;rw[z,g3] at g1;cases g1;rw[g4] at g2;injection g2 with g2;exact absurd g2 δ
  have hsz1:i<its1.toArray.size:=by
   obtain⟨z,_⟩:=List.getElem?_eq_some_iff.mp hu1;simpa using z
  refine wpAny_pyNext_enum_itemD (tQ (A:=X.A.in1) (I.ok.hd hc) it l hil its1.toArray) he ⟨h1,p1⟩ hsz1 hne (by simp [hne,hel]) fun x1 h' tk hP a1 a2 a3 a4 hk=>?_;have ex:x1=u1:=by
   have hP':its1[i]?=some x1:=by simpa using hP
   rw[hu1] at hP';exact(Option.some.inj hP').symm
  subst ex;obtain⟨a2,_⟩:=a2;have new:dh X.prog X.w (upd H s.heap.objs.size (.tup [.int (i:Nat),x])) h' s.heap.objs.size (.tup [.int (i:Nat),x]):=⟨by show 2<=sizeLine;decide,[.int (i:Nat) tk,x1],.cons ⟨_,rfl⟩ (.cons ru1 .nil),_,a3,rfl,_,rfl⟩;have I1:Inv X pins σ (upd H s.heap.objs.size (.tup [.int (i:Nat),x])) { s with heap:=h',toks:=tk+1 }:=I.Rk (ch:=[e,it]) hf
   (fun b o hb q=>hk b o (fun z=>hb (by simp [z])) (fun z=>hb (by simp [z])) q) (le_refl _) new
  have hsz:∀b,b∈[e,it]->b≠s.heap.objs.size:=fun b hb=>by
   have lt:∃o,s.heap.get? b=some o:=by
    simp only[mem_cons,not_mem_nil,or_false] at hb;rcases hb with rfl|rfl
    ·exact⟨_,he⟩
    obtain⟨o,q,_⟩:=h1;exact⟨o,q⟩
   obtain⟨o,q⟩:=lt;exact ne_of_lt (lt_size q)
  refine⟨_,rfl,wpAny_letOwnedTupleGo_enum (s:={ s with heap:=h',toks:=tk+1 }) a1 fun h'' z2 sb=>?_⟩;have fz:=hf e (by simp);have I2:Inv X pins σ (upd H s.heap.objs.size (.tup [.int (i:Nat),x])) { s with heap:=h'',toks:=tk+1 }:=Inv.turned (s:={ s with heap:=h',toks:=tk+1 }) (it:=e) I1 (fun b o hb q=>(sb.2 b hb).trans q) (by rw[aO (hsz e (by simp))];exact fz.1) fz.2.1 fz.2.2.2.1 fz.2.2.2.2.1 fz.2.2.2.2.2;refine⟨.ref s.heap.objs.size,_,I2,rfl,⟨_,x,rfl,I.fresh,rfl,fun xs' q=>by rw[I.wZ q q1];exact hx⟩,
   ⟨⟨_,by simpa using z2⟩,a2.extBut sb.extBut hne.symm⟩,fun b hb=>by rw[aO (hsz b hb)];exact(hf b hb).1⟩
 done:=by
  intro X hP hw hK hc i pins s σ H E I hf st hg;subst hP hw hK;obtain⟨xs,q1,hx⟩:=hg;obtain⟨its1,rv1,p1,hz1⟩:=I.tuple q1;obtain⟨⟨old,he⟩,h1⟩:=st;have hil:l≠it:=fun z=>by
   obtain⟨ol,g1,g2,_⟩:=p1;obtain⟨oi,g3,g4,_⟩:=h1;rw[z,g3] at g1;cases g1;rw[g4] at g2;injection g2 with g2;exact absurd g2 δ
  have hl1:=rv1.length;have hsi:its1.toArray.size=i:=by rw[size_toArray];omega
  refine wpAny_pyNext_enum_endD (tQ (A:=X.A.in1) (I.ok.hd hc) it l hil its1.toArray) he (by rw[hsi];exact⟨h1,p1⟩) fun h' hk=>⟨rfl,?_⟩;exact I.Rm (t':=s.toks) (ch:=[e,it]) hf (fun b o hb q=>hk b o (fun z=>hb (by simp [z])) q)
 self:=fun _ _ _ _ _ st h=>by
  obtain⟨⟨old,he⟩,_⟩:=st;exact wpAny_pyIter_enum he h
noncomputable def ieq (K:PySem.W.Frag)(ob:Option HO)(a:Addr)(H:Hp)(R:It->Hp->Prop):Prop:=match ob with
 | some (.lst _)=>R (Ite K a) H
 | some (.tup _)=>R (Iet K a) H
 | _=>False
noncomputable def ieK (K:PySem.W.Frag)(vs:List V)(H:Hp)(R:It->Hp->Prop):Prop:=match vs with
 | [.ref a]=>ieq K (H a) a H R
 | _=>False
noncomputable def DP (K:PySem.W.Frag)(ta:TA):TI:=fun σ H R=>ta σ H fun vs H1=>ieK K vs H1 R
theorem sO (K:PySem.W.Frag)(ta:TA)(σ:St)(H:Hp)(R:It->Hp->Prop):DP K ta σ H R=ta σ H fun vs H1=>ieK K vs H1 R:=rfl
theorem zp (K:PySem.W.Frag)(a:Addr)(H:Hp)(R:It->Hp->Prop):ieK K [.ref a] H R=ieq K (H a) a H R:=rfl
theorem Qz (K:PySem.W.Frag)(xs:List V)(a:Addr)(H:Hp)(R:It->Hp->Prop):ieq K (some (.lst xs)) a H R=R (Ite K a) H:=rfl
theorem Gj (K:PySem.W.Frag)(xs:List V)(a:Addr)(H:Hp)(R:It->Hp->Prop):ieq K (some (.tup xs)) a H R=R (Iet K a) H:=rfl
section
variable {X:Cx}
theorem Ku {es:List Expr}{kk:Nat}{tpos:Pos}{a:Expr}{ta:TA}{p pos:Pos}(hg:Gl X "enumerate") (hm:X.mg "enumerate" = none) (ha:PA X [a] ta) (hs:starEach [a] X.env=[(false,eval a X.env)]:=by rfl) :
  PI X (.Tuple es kk tpos) (.Call (.Name "enumerate" p) [a] [] pos) (DP X.K ta):=by
 intro pins s σ H R I h;refine Call_ (pK I hg hm PyProof.Rows.Boot.«enumerate» (PyProof.Rows.callWith_type1 (thA (ha pos pins s σ H _ I h) fun us s1 vs H1 I1 r1 q1=>?_) hs rfl));replace q1:ieK X.K vs H1 R:=q1;unfold ieK at q1;split at q1
 ·rename_i l1;cases r1 with
  | cons r rr=>
   cases rr;cases r;unfold ieq at q1;split at q1
   ·rename_i xs e;obtain⟨its1,rv1,p1,hz1⟩:=I1.list (SqL.of e);refine call_enumerate_list p1.isList fun h' b1 b2 b3 hk=>?_;refine wpAny_pyIter_enum (s:={ s1 with heap:=h' }) b1 ?_;have I2:Inv X pins σ H1 { s1 with heap:=h' }:=I1.kept (t':=s1.toks) hk;refine⟨_,_,_,_,H1,rfl,I2,GQ (ne_of_gt (lt_succ_self _)),⟨⟨_,b1⟩,b2⟩,fun b hb=>?_,q1⟩;have hle:s1.heap.objs.size<=b:=by
     simp only[mem_cons,not_mem_nil,or_false] at hb;rcases hb with rfl|rfl <;> simp
    exact I1.Io hle (I1.hok.fresh hle)
   ·rename_i xs e;obtain⟨its1,rv1,p1,hz1⟩:=I1.tuple (SqT.of e);refine callType_new F.called_enumerate δ (F.typeCall_enumerate_1 _) (F.newCall_enumerate_1 _) (fun obj=>F.args_object_init_2 obj _) F.entry_enumerate_new (Ir l1 its1.toArray) ⟨p1,?_⟩;have hz:(s1.heap.push { cls:=Value.type "tuple_iterator",data:=Data.fields #[Value.ref l1,Value.int 0 0] }).objs.size=s1.heap.objs.size+1:=size_push ..;have b1:((s1.heap.push { cls:=Value.type "tuple_iterator",data:=Data.fields #[Value.ref l1,Value.int 0 0] }).push { cls:=Value.type "enumerate",data:=Data.fields #[Value.none,Value.bool false,Value.ref s1.heap.objs.size,rawInt 0,Value.none,Value.none] }).get? (s1.heap.objs.size+1)=some { cls:=Value.type "enumerate",data:=Data.fields #[Value.none,Value.bool false,Value.ref s1.heap.objs.size,rawInt 0,Value.none,Value.none] }:=by
     rw[<- hz];exact get?_push_size _ rfl
    have b2:((s1.heap.push { cls:=Value.type "tuple_iterator",data:=Data.fields #[Value.ref l1,Value.int 0 0] }).push { cls:=Value.type "enumerate",data:=Data.fields #[Value.none,Value.bool false,Value.ref s1.heap.objs.size,rawInt 0,Value.none,Value.none] }).IsTupleIter s1.heap.objs.size l1 0:=
     ⟨_,get?_push_of_some _ (get?_push_size _ rfl),rfl,rfl⟩
    have hk:∀b o,s1.heap.get? b=some o->((s1.heap.push { cls:=Value.type "tuple_iterator",data:=Data.fields #[Value.ref l1,Value.int 0 0] }).push { cls:=Value.type "enumerate",data:=Data.fields #[Value.none,Value.bool false,Value.ref s1.heap.objs.size,rawInt 0,Value.none,Value.none] }).get? b=some o:=fun b o z=>get?_push_of_some _ (get?_push_of_some _ z);refine⟨⟨_,b1,rfl⟩,?_⟩;generalize (s1.heap.push { cls:=Value.type "tuple_iterator",data:=Data.fields #[Value.ref l1,Value.int 0 0] }).push { cls:=Value.type "enumerate",data:=Data.fields #[Value.none,Value.bool false,Value.ref s1.heap.objs.size,rawInt 0,Value.none,Value.none] }=h' at b1 b2 hk;refine wpAny_pyIter_enum (s:={ s1 with heap:=h' }) b1 ?_;have I2:Inv X pins σ H1 { s1 with heap:=h' }:=I1.kept (t':=s1.toks) hk;refine⟨_,_,_,_,H1,rfl,I2,CW (ne_of_gt (lt_succ_self _)),⟨⟨_,b1⟩,b2⟩,fun b hb=>?_,q1⟩;have hle:s1.heap.objs.size<=b:=by
     simp only[mem_cons,not_mem_nil,or_false] at hb;rcases hb with rfl|rfl <;> simp
    exact I1.Io hle (I1.hok.fresh hle)
   exact q1.elim
 exact q1.elim
theorem Bb {es:List Expr}{kk:Nat}{tpos:Pos}{a:Expr}{ta:TA}{p pos:Pos}(hg:Gl X "enumerate") (hm:X.mg "enumerate" = none) (ha:QA X [a] ta) (hs:starEach [a] X.env=[(false,eval a X.env)]:=by rfl) :
  QI X (.Tuple es kk tpos) (.Call (.Name "enumerate" p) [a] [] pos) (DP X.K ta):=⟨Ku hg hm ha.h hs⟩
end
theorem zP {J:It}{g:TG}{tb:TS}{D:Ends}{σ:St}{H:Hp}{R:It->Hp->Prop}(hR:R=(fun J H1=>∃W:Nat->Nat->St->Hp->Prop,(∃m,W 0 m σ H1)/\∀i m σ H,W i m σ H ->
  (J.stop i H/\D.nx σ H)\/(J.go i H/\∃N:St->Hp->Prop,(∀σ' H',N σ' H'->∃m',m'<m/\W (i+1) m' σ' H')/\∀x H',J.yld i H x H'->g x σ H' fun σ2 H2=>tb { D with nx:=N,ct:=N,bk:=D.nx } σ2 H2)))
  (n:Nat) (Pv:Nat->St->Hp->Prop) (h0:Pv 0 σ H) (hgo:∀i σ H,i<n->Pv i σ H->J.go i H) (hst:∀σ H,Pv n σ H->J.stop n H)
  (hs:∀i σ H x H3,i<n->Pv i σ H->J.yld i H x H3->g x σ H3 fun σ2 H2=>tb { D with nx:=Pv (i+1),ct:=Pv (i+1),bk:=D.nx } σ2 H2) (hd:∀σ H,Pv n σ H->D.nx σ H):R J H:=by
 subst hR;refine⟨fun i m σ H2=>m=n-i/\i<=n/\Pv i σ H2,⟨_,rfl,zero_le _,h0⟩,?_⟩;rintro i m σ H2 ⟨rfl,hi,p⟩;by_cases hlt:i<n
 ·exact .inr ⟨hgo i σ H2 hlt p,Pv (i+1),fun σ' H' q=>⟨_,ω,rfl,hlt,q⟩,fun x H3 y=>hs i σ H2 x H3 hlt p y⟩
 have e:i=n:=ω;subst e;exact .inl ⟨hst σ H2 p,hd σ H2 p⟩
section
variable {X:Cx}{e o:Expr}{te to:TE}{pos:Pos}
noncomputable def exq (ob oc:Option HO)(l:Addr)(H:Hp)(Q:VK):Prop:=match ob,oc with
 | some (.lst xs),some (.lst zs)=>xs.length+zs.length<=sizeLine/\Q .non (upd H l (.lst (xs++zs)))
 | _,_=>False
noncomputable def Mv (l:Addr)(y:V)(H:Hp)(Q:VK):Prop:=match y with
 | .ref b=>exq (H l) (H b) l H Q
 | _=>False
noncomputable def exK (x:V)(te:TE)(σ:St)(H1:Hp)(Q:VK):Prop:=match x with
 | .ref l=>isq (H1 l)/\te σ H1 fun y H2=>Mv l y H2 Q
 | _=>False
noncomputable def Jy (to te:TE):TE:=fun σ H Q=>to σ H fun x H1=>exK x te σ H1 Q
theorem uN (to te:TE)(σ:St)(H:Hp)(Q:VK):Jy to te σ H Q=to σ H fun x H1=>exK x te σ H1 Q:=rfl
theorem zQ (l:Addr)(te:TE)(σ:St)(H1:Hp)(Q:VK):exK (.ref l) te σ H1 Q=(isq (H1 l)/\te σ H1 fun y H2=>Mv l y H2 Q):=rfl
theorem vW (l b:Addr)(H:Hp)(Q:VK):Mv l (.ref b) H Q=exq (H l) (H b) l H Q:=rfl
theorem Ej (xs zs:List V)(l:Addr)(H:Hp)(Q:VK):exq (some (.lst xs)) (some (.lst zs)) l H Q=(xs.length+zs.length<=sizeLine/\Q .non (upd H l (.lst (xs++zs)))):=rfl
theorem Pr {apos cpos:Pos}(ho:PE X o to)(he:PE X e te)
  (hbase:attributeBase o "extend" X.env (eval o X.env)=eval o X.env:=by rfl)
  (hfew:((backTo cpos (starEach [e] X.env)).all (fun x=>!x.1)&&(backToKw cpos (keywordEach [] X.env)).all (fun x=>x.1.isSome)
   && decide ([e].length+([]:List Keyword).length+(if ([]:List Keyword).isEmpty then 0 else 1)<30))=true:=by rfl)
  (hline:(apos.endLine == cpos.line)=true:=by rfl) (hs:starEach [e] X.env=(false,eval e X.env)::starEach [] X.env:=by rfl) (hplain:(backTo cpos (starEach [] X.env)).any (·.1)=false:=by rfl) :
  PE X (.Call (.Attribute o "extend" apos) [e] [] cpos) (Jy to te):=by
 intro pins s σ H Q I h;refine wpAny_Call_method_late hbase hfew hline rfl (thE (ho pins s σ H _ I h) fun v s1 x H1 I1 r1 q=>?_);cases x with
 | ref l=>
  obtain⟨q1,q2⟩:=q;cases el:H1 l with
  | none=>rw[el] at q1;exact q1.elim
  | some ob=>
   cases ob with
   | lst xs=>
    obtain⟨h1,h2⟩:=yp (T := "list") I1 r1 (.inl ⟨rfl,xs,SqL.of el⟩);refine⟨"list","list.extend",PySem.F.plainAttrs_list,PySem.F.slot_list_extend,PySem.F.type_list_extend,h1,h2,?_⟩;rw[hs];refine Calls.callWith_builtin (by show(false||(backTo cpos (starEach [] X.env)).any (·.1))=false;rw[hplain] <;> rfl) (Calls.evalArgs_plain ?_)
    refine Calls.spliced_cons (thE (he pins s1 σ H1 _ I1 q2) fun u s2 y H2 I2 r2 q3=>Calls.spliced_nil ?_);replace q3:Mv l y H2 Q:=q3;unfold Mv at q3;split at q3
    ·rename_i b;unfold exq at q3;split at q3
     ·rename_i ys zs e1 e2;exact HN pins s2 σ H2 (.ref l) [.ref b] v [u] Q I2 r1 (.cons r2 .nil) ⟨l,b,ys,zs,rfl,rfl,e1,e2,q3.1,q3.2⟩
     exact q3.elim
    exact q3.elim
   | _=>rw[el] at q1;exact q1.elim
 | _=>exact q.elim
theorem Fw {apos cpos:Pos}(ho:QE X o to)(he:QE X e te)
  (hbase:attributeBase o "extend" X.env (eval o X.env)=eval o X.env:=by rfl)
  (hfew:((backTo cpos (starEach [e] X.env)).all (fun x=>!x.1)&&(backToKw cpos (keywordEach [] X.env)).all (fun x=>x.1.isSome)
   && decide ([e].length+([]:List Keyword).length+(if ([]:List Keyword).isEmpty then 0 else 1)<30))=true:=by rfl)
  (hline:(apos.endLine == cpos.line)=true:=by rfl) (hs:starEach [e] X.env=(false,eval e X.env)::starEach [] X.env:=by rfl) (hplain:(backTo cpos (starEach [] X.env)).any (·.1)=false:=by rfl) :
  QE X (.Call (.Attribute o "extend" apos) [e] [] cpos) (Jy to te):=⟨Pr ho.h he.h hbase hfew hline hs hplain⟩
theorem Bg:∀(l:List Value),(List.range l.length).filterMap (fun k=>l[k]?)=l
 | []=>rfl
 | x::l=>by
  rw[length_cons,List.range_succ_eq_map,filterMap_cons];show x::((List.range l.length).map Nat.succ).filterMap _=_;rw[filterMap_map];congr 1;exact Bg l
theorem Ca {α β:Type}{f g:α->Option β}:∀{l:List α},(∀x∈l,f x=g x)->l.filterMap f=l.filterMap g
 | [],_=>rfl
 | x::l,h=>by
  rw[filterMap_cons,filterMap_cons,h x mem_cons_self,Ca fun y hy=>h y (mem_cons_of_mem _ hy)]
theorem v7 (its:List Value):slicePick its.toArray none none (some (-1))=its.reverse.toArray:=by
 unfold slicePick sliceBounds sliceRange;simp only[Option.getD_some,size_toArray,show ¬((-1:Int)>0) by decide,if_false];congr 1;have key:(if ((its.length:Int)-1) > -1 then ((its.length:Int)-1 - -1 - -1-1)/(- -1) else 0).toNat=its.length:=by
  rw[show(- -1:Int)=1 from rfl,Int.ediv_one];split <;> omega
 rw[key,filterMap_map];rw[<- Bg its.reverse,length_reverse];refine Ca fun k hk=>?_;have hk':=mem_range.mp hk;show its.toArray[((its.length:Int)-1 + -1*(k:Int)).toNat]?=its.reverse[k]?;rw[List.getElem?_reverse hk',show((its.length:Int)-1 + -1*(k:Int)).toNat=its.length-1-k by omega];simp
noncomputable def rvq (ob:Option HO)(H:Hp)(Q:VK):Prop:=match ob with
 | some (.lst xs)=>∀p,H p=none->Q (.ref p) (upd H p (.lst xs.reverse))
 | _=>False
noncomputable def rvK (x:V)(H:Hp)(Q:VK):Prop:=match x with
 | .ref p=>rvq (H p) H Q
 | _=>False
noncomputable def RJ (te:TE):TE:=fun σ H Q=>te σ H fun x H1=>rvK x H1 Q
theorem Ob (p:Addr)(H:Hp)(Q:VK):rvK (.ref p) H Q=rvq (H p) H Q:=rfl
theorem Oa (xs:List V)(H:Hp)(Q:VK):rvq (some (.lst xs)) H Q=∀p,H p=none->Q (.ref p) (upd H p (.lst xs.reverse)):=rfl
theorem Td {p2 p3 p4:Pos}{j}(he:PE X e te)(hlt:∀o r,letTemporaryGo e o r=pure ():=by intro _ _;rfl):PE X (.Subscript e (.Slice none none (some (.UnaryOp .USub (.Constant (.int 1) j p3) p4)) p2) pos) (RJ te):=by
 intro pins s σ H Q I h;refine wpAny_Subscript_Slice_step (T := "list") slot_list_getitem.lookup (thE (he pins s σ H _ I h) fun v s1 x H1 I1 r1 q1=>?_) hlt;replace q1:rvK x H1 Q:=q1;unfold rvK at q1;split at q1
 ·rename_i p;unfold rvq at q1;split at q1
  ·rename_i xs e1;cases r1;refine wpAny_Slice ?_;rw[evalPart_none];refine wpAny_pure ?_;refine wpAny_pure ?_;refine thn (Fy (Rq rD KC) pins s1 σ H1 (fun o H'=>o=some (-1)/\H'=H1) I1 ⟨_,rfl,_,rfl,rfl,rfl⟩) fun vs s3 ⟨o3,H3,I3,pu,e3,e4⟩=>?_;subst e3;subst e4;have I4:Inv X pins σ H3 { s3 with heap:=s3.heap.push { cls:=.type "slice",data:=.fields #[.none,.none,vs] } }:=I3.kept (t':=s3.toks) fun b ob q=>get?_push_of_some _ q;obtain⟨its,r,ht,hz⟩:=I4.list (SqL.of e1);have hlen:=r.length;refine⟨ht.isList.typeIs,?_⟩;refine wpAny_getItem_list_slice ht.isList (Heap.IsSliceOf.new ..) .none .none pu δ ?_ (by rw[size_toArray] <;> omega)
   rw[v7];refine⟨.ref _,_,I4.laid (t':=s3.toks) (o:=.lst xs.reverse) (fun b ob q=>get?_push_of_some _ q) (le_refl _) ?_,rfl,q1 _ (I4.hok.fresh (le_refl _))⟩;exact⟨by rw[length_reverse];exact hz,_,0,r.reverse,get?_push_size _ rfl⟩
  exact q1.elim
 exact q1.elim
theorem Sh {p2 p3 p4:Pos}{j}(he:QE X e te)(hlt:∀o r,letTemporaryGo e o r=pure ():=by intro _ _;rfl):QE X (.Subscript e (.Slice none none (some (.UnaryOp .USub (.Constant (.int 1) j p3) p4)) p2) pos) (RJ te):=⟨Td he.h hlt⟩
noncomputable def Wc:R2:=fun x y H Q=>∃p q xs ys,x=.ref p/\y=.ref q/\H p=some (.tup xs)/\H q=some (.tup ys)/\xs.all gh=true/\ys=[]/\Q (.bl xs.isEmpty) H
theorem TX (hu:X.A.units<cLine):OpR X (compareOp .Eq) Wc:=by
 intro pins s σ H x y v u Q I rx ry h;obtain⟨p,q,xs,ys,rfl,rfl,e1,e2,f1,rfl,qq⟩:=h;cases rx;cases ry;obtain⟨its1,r1,pl1,hz1⟩:=I.tuple (SqT.of e1);obtain⟨its2,r2,pl2,hz2⟩:=I.tuple (SqT.of e2);cases r2;refine SeqAt.RcAt.tuples (e:=fun _=>true) pl1 pl2 hu (fun j h1 h2=>absurd h2 (Nat.not_lt_zero _)) X.prog X.w X.xe (EP X pins σ Q) ?_;have hl:=r1.length;refine⟨.bl xs.isEmpty,H,I,?_,qq⟩;show Value.bool _=Value.bool _;congr 1;rw[size_toArray,size_toArray];cases xs with
 | nil=>
  cases r1;rfl
 | cons a b=>
  cases r1;rfl
theorem Nf (o a b:Expr)(p pos:Pos)(env:Env)(v:Value):assign (.Subscript o (.Subscript a b p) pos) env v=(do
   let ov <- holding [v] (eval o env)
   let iv <- holding [v,ov] (eval (.Subscript a b p) env)
   standAt pos
   holding [v,ov,iv] (setItem ov iv v)
   release [v,ov,iv] []):=rfl
theorem Ou {a b:Expr}{ti:TE}{p:Pos}{t:Jj}(ho:QE X o to)(hi:QE X (.Subscript a b p) ti)(hs:Jk X t):QG X (.Subscript o (.Subscript a b p) pos) (Mq to ti t):=⟨Dq ho.h hi.h hs (fun v=>Nf o a b p pos X.env v)⟩
end
mutual
noncomputable def szD (a:Nat):PyData->Prop
 | .none=>True
 | .bool _=>True
 | .int i=>i.natAbs<=10^20*2^a
 | .str x=>x.length<=30+a/\∀c∈x.cps.toList,c<16^8
 | .list ds=>ds.length<=210*5^a/\kI a ds
 | .tuple ds=>ds.length<=210*5^a/\kI a ds
 | .dict _=>False
noncomputable def kI (a:Nat):List PyData->Prop
 | []=>True
 | d::ds=>szD a d/\kI a ds
end
theorem eO {a:Nat}:∀{ds:List PyData},kI a ds ↔ ∀d∈ds,szD a d
 | []=>⟨fun _ d h=>(nomatch h),fun _=>trivial⟩
 | x::ds=>by
  show szD a x/\kI a ds↔_;rw[eO (ds:=ds)];constructor
  ·intro⟨h1,h2⟩ d hd;rcases mem_cons.mp hd with rfl|z
   ·exact h1
   exact h2 d z
  intro h;exact⟨h x mem_cons_self,fun d hd=>h d (mem_cons_of_mem _ hd)⟩
theorem yQ (a:Nat):210*5^a<=210*5^(a+1):=by rw[Nat.pow_succ];omega
mutual
theorem pC {a:Nat}:∀{d:PyData},szD a d->szD (a+1) d
 | .none,_=>trivial
 | .bool _,_=>trivial
 | .int i,h=>by
  have h':i.natAbs<=10^20*2^a:=h;show i.natAbs<=10^20*2^(a+1);rw[Nat.pow_succ];omega
 | .str x,h=>⟨by have:=h.1;omega,h.2⟩
 | .list ds,h=>⟨le_trans h.1 (yQ a),uP h.2⟩
 | .tuple ds,h=>⟨le_trans h.1 (yQ a),uP h.2⟩
 | .dict _,h=>h.elim
theorem uP {a:Nat}:∀{ds:List PyData},kI a ds->kI (a+1) ds
 | [],_=>trivial
 | d::ds,h=>⟨pC h.1,uP h.2⟩
end
mutual
theorem uR:∀(d:PyData),szD 2 d->d.shown.length+2<=400*nodes d
 | .none,_=>by decide
 | .bool b,_=>by cases b <;> decide
 | .int i,h=>by
  have h':i.natAbs<=10^20*2^2:=h;have:=Qw (i:=i) ω;show(Str.ofString (toString i)).length+2<=400*1;omega
 | .str x,h=>by
  have h1:=StrLaws.reprText_len x h.2;have h2:=h.1;show(reprText x).length+2<=400*1;omega
 | .list ds,h=>by
  have h1:=j7 ds h.2;have h2:=listText_len_le (PyData.shownAll ds);rw[PyData.shown.eq_5,nodes];omega
 | .tuple ds,h=>by
  have h1:=j7 ds h.2;have h2:=tupleText_len_le (PyData.shownAll ds);rw[PyData.shown.eq_6,nodes];omega
 | .dict kvs,h=>h.elim
theorem j7:∀(ds:List PyData),kI 2 ds->((PyData.shownAll ds).map fun x=>x.length).sum+2*(PyData.shownAll ds).length<=400*aJ ds
 | [],_=>by simp [PyData.shownAll,aJ]
 | d::ds,h=>by
  have h1:=uR d h.1;have h2:=j7 ds h.2;rw[PyData.shownAll.eq_2,aJ,map_cons,sum_cons,length_cons];omega
end
mutual
theorem Ey:∀(d:PyData),szD 2 d->d.showable=true/\d.hasDict=false
 | .none,_=>⟨rfl,rfl⟩
 | .bool b,_=>⟨rfl,rfl⟩
 | .int i,h=>by
  refine⟨?_,rfl⟩;have h':i.natAbs<=10^20*2^2:=h;show decide (i.natAbs.log2<1920)=true;refine decide_eq_true ?_;by_cases z:i.natAbs=0
  ·rw[z];decide
  have:=(log2_lt (k:=70) z).mpr ω;omega
 | .str x,_=>⟨rfl,rfl⟩
 | .list ds,h=>by
  obtain⟨h1,h2⟩:=pB ds h.2;exact⟨h1,h2⟩
 | .tuple ds,h=>by
  obtain⟨h1,h2⟩:=pB ds h.2;exact⟨h1,h2⟩
 | .dict kvs,h=>h.elim
theorem pB:∀(ds:List PyData),kI 2 ds->PyData.showableAll ds=true/\PyData.hasDictAll ds=false
 | [],_=>⟨rfl,rfl⟩
 | d::ds,h=>by
  obtain⟨h1,h2⟩:=Ey d h.1;obtain⟨h3,h4⟩:=pB ds h.2;refine⟨?_,?_⟩
  ·rw[PyData.showableAll.eq_2,h1,h3];rfl
  rw[PyData.hasDictAll.eq_2,h2,h4];rfl
end
structure Shw (d:PyData):Prop where
 sh:d.showable=true
 nd:d.hasDict=false
 dp:d.depth<=100
 ln:d.shown.length<=sizeLine
theorem RV {d:PyData}(h:szD 2 d)(hn:nodes d<=40000)(hd:d.depth<=100):Shw d:=by
 obtain⟨h1,h2⟩:=Ey d h;have h3:=uR d h;have h4:16000000<=sizeLine:=by decide
 exact⟨h1,h2,hd,ω⟩
noncomputable def RZ:List V->Hp->VK->Prop:=fun xs H Q=>∃v ok d,xs=[v]/\aG ok H v d/\Shw d/\Q (.str d.shown) H
theorem vY {X:Cx}(hg:X.A.guards=some []) (hu:X.A.units+200<cLine):dJ X (.builtin "repr") RZ:=by
 intro pins s σ H xs us Q I r h;obtain⟨v,ok,d,rfl,t,⟨sh,hd,hdp,hl⟩,q⟩:=h;obtain⟨u,rfl,rv⟩:=vals1 r;have nodict:∀as:List Addr,d.hasDict=true->¬sysModules∈as:=fun as z=>by rw[hd] at z;cases z
 cases t with
 | non=>cases rv;exact P.repr_of_none ⟨.str _,H,I.tok _,⟨_,rfl⟩,q⟩
 | bl b=>cases rv;exact P.repr_of_bool ⟨.str _,H,I.tok _,⟨_,rfl⟩,q⟩
 | int i=>
  obtain⟨t,rfl⟩:=rv;exact P.repr_of_int (of_decide_eq_true sh) ⟨.str _,H,I.tok _,⟨_,rfl⟩,q⟩
 | str x=>
  obtain⟨t,rfl⟩:=rv;exact P.repr_of_str ⟨.str _,H,I.tok _,⟨_,rfl⟩,q⟩ hl
 | lst o e z t=>
  obtain⟨as,rd⟩:=aG.reads I (aG.lst o e z t) rv;cases rv;exact repr_of_reads' rd sh (nodict as) hg ω (fun _ _ z=>z) (fun h' u tk k=>⟨.str _,H,I.kept k,⟨_,rfl⟩,q⟩) hl
 | tup o e z t=>
  obtain⟨as,rd⟩:=aG.reads I (aG.tup o e z t) rv;cases rv;exact repr_of_reads' rd sh (nodict as) hg ω (fun _ _ z=>z) (fun h' u tk k=>⟨.str _,H,I.kept k,⟨_,rfl⟩,q⟩) hl
noncomputable def okS (a:Nat)(x:Str):Prop:=x.length<=30+a/\∀c∈x.cps.toList,c<16^8
theorem fj (s:String)(a:Nat)(h:s.length<=30+a):okS a (Str.ofString s):=by
 refine⟨by rw[PySem.ofString_length];exact h,?_⟩;rw[PySem.Str.ofString_eq_toList];intro c hc;obtain⟨ch,_,rfl⟩:=mem_map.mp (by simpa using hc);have:=ch.valid;have h2:ch.toNat<1114112:=by
  rcases ch.valid with z|⟨_,z⟩
  ·have:ch.val.toNat<55296:=z;show ch.val.toNat<_;omega
  exact z
 omega
noncomputable def valid:PyData->List Nat->Prop
 | _,[]=>True
 | .list ds,i::r=>∃d,ds[i]?=some d/\valid d r
 | .tuple ds,i::r=>∃d,ds[i]?=some d/\valid d r
 | _,_::_=>False
structure tK (a:Nat)(d d':PyData):Prop where
 sz:szD (a+1) d'
 nd:nodes d'<=4*nodes d+20
 dp:d'.depth<=d.depth+2
theorem kZ (d:PyData):1<=nodes d:=by cases d <;> simp [nodes]
theorem bD:∀(a b:List PyData),aJ (a++b)=aJ a+aJ b
 | [],b=>by simp [aJ]
 | x::a,b=>by rw[cons_append,aJ,aJ,bD a b];omega
theorem iC {x:PyData}:∀{ds:List PyData},x∈ds->nodes x<=aJ ds
 | y::ds,h=>by
  rw[aJ];rcases mem_cons.mp h with rfl|z
  ·omega
  have:=iC z;omega
theorem gF (n:Nat):∀(ds:List PyData),aJ (ds.take n)<=aJ ds:=by
 intro ds;have h:ds=ds.take n++ds.drop n:=(List.take_append_drop n ds).symm;have:=bD (ds.take n) (ds.drop n);rw[<- h] at this;omega
theorem wD (n:Nat):∀(ds:List PyData),aJ (ds.drop n)<=aJ ds:=by
 intro ds;have h:ds=ds.take n++ds.drop n:=(List.take_append_drop n ds).symm;have:=bD (ds.take n) (ds.drop n);rw[<- h] at this;omega
theorem jm (ds:List PyData)(lo hi:Option Int):aJ (cutD ds lo hi)<=aJ ds:=le_trans (gF _ _) (wD _ _)
theorem lg:∀(ds:List PyData),aJ ds.reverse=aJ ds
 | []=>rfl
 | x::ds=>by rw[reverse_cons,bD,lg ds,aJ,aJ,aJ];omega
theorem bJ {x:PyData}:∀{ds:List PyData},x∈ds->x.depth<=PyData.depthAll ds
 | y::ds,h=>by
  rw[PyData.depthAll.eq_2];rcases mem_cons.mp h with rfl|z
  ·omega
  have:=bJ z;omega
theorem cX {k:Nat}:∀{ds:List PyData},(∀d∈ds,d.depth<=k)->PyData.depthAll ds<=k
 | [],_=>zero_le _
 | x::ds,h=>by
  rw[PyData.depthAll.eq_2];have h1:=h x mem_cons_self;have h2:=cX fun d hd=>h d (mem_cons_of_mem _ hd);omega
theorem yU {ds:List PyData}{i:Nat}{d d':PyData}(h:ds[i]?=some d):aJ (ds.set i d')+nodes d=aJ ds+nodes d':=by
 induction ds generalizing i with
 | nil=>cases h
 | cons x ds ih=>
  cases i with
  | zero=>cases h;rw[set_cons_zero,aJ,aJ];omega
  | succ i=>rw[set_cons_succ,aJ,aJ];have:=ih (i:=i) h;omega
theorem aH.reverse {ok:Addr->Prop}{H:Hp}:∀{vs:List V}{ds:List PyData},aH ok H vs ds->aH ok H vs.reverse ds.reverse
 | _,_,.nil=>.nil
 | _,_,.cons h r=>by
  rw[reverse_cons,reverse_cons];exact r.reverse.append (.cons h .nil)
noncomputable def ctq (a b:Option HO)(pa:Addr)(H:Hp)(Q:VK):Prop:=match a,b with
 | some (.tup xs),some (.tup ys)=>xs≠[]/\xs.length+ys.length<=sizeLine/\(ys=[]->Q (.ref pa) H)/\(ys≠[]->∀p,H p=none->Q (.ref p) (upd H p (.tup (xs++ys))))
 | _,_=>False
noncomputable def Ba:R2:=fun x y H Q=>match x,y with
 | .ref p,.ref q=>ctq (H p) (H q) p H Q
 | _,_=>False
theorem yN (p q:Addr)(H:Hp)(Q:VK):Ba (.ref p) (.ref q) H Q=ctq (H p) (H q) p H Q:=rfl
theorem El (xs ys:List V)(pa:Addr)(H:Hp)(Q:VK):ctq (some (.tup xs)) (some (.tup ys)) pa H Q=(xs≠[]/\xs.length+ys.length<=sizeLine/\(ys=[]->Q (.ref pa) H)/\(ys≠[]->∀p,H p=none->Q (.ref p) (upd H p (.tup (xs++ys))))):=rfl
theorem FJ {X:Cx}:OpR X (binaryOp .Add) Ba:=by
 intro pins s σ H x y v u Q I rx ry h;unfold Ba at h;split at h
 ·rename_i p q;unfold ctq at h;split at h
  ·rename_i xs ys e1 e2;exact PN pins s σ H _ _ v u Q I rx ry ⟨p,q,xs,ys,rfl,rfl,SqT.of e1,SqT.of e2,h.1,h.2.1,h.2.2.1,h.2.2.2⟩
  exact h.elim
 exact h.elim
inductive bK (H:Hp):List V->List (List Nat)->Prop
 | nil:bK H [] []
 | cons {t:Addr} {p:List Nat} {vs:List V} {ps:List (List Nat)}:H t=some (.tup (jU p))->bK H vs ps->bK H (.ref t::vs) (p::ps)
theorem bK.keep {H H':Hp}(k:∀a xs,H a=some (.tup xs)->H' a=some (.tup xs)):∀{vs:List V}{ps:List (List Nat)},bK H vs ps->bK H' vs ps
 | _,_,.nil=>.nil
 | _,_,.cons h r=>.cons (k _ _ h) (r.keep k)
theorem bK.same {H H':Hp}{vs:List V}{ps:List (List Nat)}(h:bK H vs ps)(s:Same H H'):bK H' vs ps:=h.keep fun a xs e=>s _ _ e
theorem bK.GK {H:Hp}{vs:List V}{ps:List (List Nat)}{l:Addr}{xs ys:List V}(h:bK H vs ps)(e:H l=some (.lst xs)):bK (upd H l (.lst ys)) vs ps:=h.keep fun a zs z=>by
 rw[aO (fun w=>by rw[w,e] at z;cases z)];exact z
theorem bK.append {H:Hp}:∀{vs ws:List V}{ps qs:List (List Nat)},bK H vs ps->bK H ws qs->bK H (vs++ws) (ps++qs)
 | _,_,_,_,.nil,t=>t
 | _,_,_,_,.cons h r,t=>.cons h (r.append t)
theorem bK.length {H:Hp}:∀{vs:List V}{ps:List (List Nat)},bK H vs ps->vs.length=ps.length
 | _,_,.nil=>rfl
 | _,_,.cons _ r=>by rw[length_cons,length_cons,r.length]
theorem bK.get {H:Hp}:∀{vs:List V}{ps:List (List Nat)}{i:Nat}{v:V},bK H vs ps->vs[i]?=some v->∃t p,v=.ref t/\ps[i]?=some p/\H t=some (.tup (jU p))
 | _,_,0,_,.cons h _,e=>by cases e;exact⟨_,_,rfl,rfl,h⟩
 | _,_,i+1,_,.cons _ r,e=>bK.get r (i:=i) e
theorem yx {n:Nat}(h:n<=100000):n<=sizeLine:=le_trans h δ
theorem cQ {ds:List PyData}{i:Nat}{d:PyData}(h:ds[i]?=some d):aJ (ds.take (i+1))=aJ (ds.take i)+nodes d:=by
 rw[take_snoc h,bD,aJ,aJ];omega
theorem nJ {ds:List PyData}{i:Nat}{d:PyData}{p:List Nat}(h:ds[i]?=some d)(v:valid d p):valid (.list ds) (i::p)/\valid (.tuple ds) (i::p):=⟨⟨d,h,v⟩,⟨d,h,v⟩⟩
theorem jz {H H':Hp}{l:Addr}{o:HO}(s:Same H H')(h:H l=none):Same H (upd H' l o):=fun b u e=>by
 rw[aO (aF e h)];exact s b u e
theorem kj:∀(p:List Nat)(d:PyData),valid d p->p.length<=d.depth
 | [],d,_=>zero_le _
 | i::r,.list ds,h=>by
  obtain⟨d,h1,h2⟩:=h;have:=kj r d h2;have:=bJ (mem_of_getElem? h1);rw[PyData.depth.eq_1,length_cons];omega
 | i::r,.tuple ds,h=>by
  obtain⟨d,h1,h2⟩:=h;have:=kj r d h2;have:=bJ (mem_of_getElem? h1);rw[PyData.depth.eq_2,length_cons];omega
 | _::_,.none,h=>h.elim
 | _::_,.bool _,h=>h.elim
 | _::_,.int _,h=>h.elim
 | _::_,.str _,h=>h.elim
 | _::_,.dict _,h=>h.elim
theorem LR {ok:Addr->Prop}{te tb:TE}{σ:St}{H:Hp}{Q:VK}{ds:List PyData}(d:PyData)(he:d=.list ds)(h:Gv ok te σ H d)(q:∀p xs H',Same H H'->H' p=some (.lst xs)->ok p->aH ok H' xs ds->tb σ H' fun y H2=>uW (.ref p) y H2 Q):tOp uW te tb σ H Q:=by
 subst he;refine h H (Same.refl _) _ fun v H' s t=>?_;cases t with
 | lst o e z ts=>exact q _ _ _ s e o ts
theorem aH.at {ok:Addr->Prop}{H:Hp}{xs:List V}{ds:List PyData}(t:aH ok H xs ds){i:Int}(h0:0<=i)(h:i<ds.length):∃x d,atI xs i=some x/\d∈ds/\aG ok H x d:=by
 have hl:=t.length;have h1:i.toNat<xs.length:=ω;obtain⟨d,hd,td⟩:=t.get (getElem?_eq_getElem h1);refine⟨_,d,?_,mem_of_getElem? hd,td⟩;unfold atI;rw[ou h0 ω];exact getElem?_eq_getElem h1
structure tu (d:PyData):Prop where
 sz:szD 0 d
 nd:nodes d<=4
 dp:d.depth<=1
theorem yr {a:Nat}{d:PyData}(h:szD 0 d):szD a d:=by
 induction a with
 | zero=>exact h
 | succ a ih=>exact pC ih
theorem nY:tu .none:=⟨trivial,δ,δ⟩
theorem rW {b:Bool}:tu (.bool b):=⟨trivial,by show 1<=4;decide,by show 0<=1;decide⟩
theorem jY {i:Int}(h:i.natAbs<=10^20):tu (.int i):=⟨by show i.natAbs<=10^20*2^0;omega,by show 1<=4;decide,by show 0<=1;decide⟩
theorem uG (s:String)(h:s.length<=30):tu (.str (Str.ofString s)):=⟨fj s 0 h,by show 1<=4;decide,by show 0<=1;decide⟩
theorem nZ:tu (.list [])/\tu (.tuple []):=⟨⟨⟨δ,trivial⟩,δ,δ⟩,⟨⟨δ,trivial⟩,δ,δ⟩⟩
theorem tu.zZ {a:Nat}{d d':PyData}(h:tu d'):tK a d d':=⟨yr h.sz,by have:=h.nd;omega,by have:=h.dp;omega⟩
theorem Rf {a:Nat}{d:PyData}{ds ds':List PyData}(hn0:nodes d=1+aJ ds)(hd0:d.depth=PyData.depthAll ds+1)(hs:∀x∈ds',szD (a+1) x)(hl:ds'.length<=210*5^(a+1))(hn:aJ ds'<=4*aJ ds+10)(hd:∀x∈ds',x.depth<=PyData.depthAll ds+2) :
  tK a d (.list ds')/\tK a d (.tuple ds'):=by
 have h1:=cX hd;refine⟨⟨⟨hl,eO.mpr hs⟩,?_,?_⟩,⟨⟨hl,eO.mpr hs⟩,?_,?_⟩⟩
 ·show 1+aJ ds'<=_;omega
 ·rw[PyData.depth.eq_1];omega
 ·show 1+aJ ds'<=_;omega
 rw[PyData.depth.eq_2];omega
noncomputable def Ut:PyData->Bool
 | .list _=>true
 | .tuple _=>true
 | _=>false
theorem cY.cU {ok:Addr->Prop}{p:Addr}{H H1:Hp}{B:Int}(n:cY ok H)(s:aV p H H1)(t:aP H1 p B):cY ok H1:=fun H' q s' hq=>by
 refine n H q (Same.refl _) ?_;cases e:H q with
 | none=>rfl
 | some o=>
  have qp:q≠p:=(t.same s').ne hq;rw[s' _ _ (s q o qp e)] at hq;cases hq
theorem aG.lJ {ok:Addr->Prop}{p:Addr}{H H':Hp}{v:V}{d:PyData}(t:aG ok H v d)(hk:∀a,ok a->a≠p)(s:aV p H H'):aG ok H' v d:=t.keep fun a o h e=>⟨h,s a o (hk a h) e⟩
theorem aH.lJ {ok:Addr->Prop}{p:Addr}{H H':Hp}{v:List V}{d:List PyData}(t:aH ok H v d)(hk:∀a,ok a->a≠p)(s:aV p H H'):aH ok H' v d:=t.keep fun a o h e=>⟨h,s a o (hk a h) e⟩
theorem cY.new {ok:Addr->Prop}{H:Hp}(n:cY ok H){q:Addr}(h:H q=none):ok q:=n H q (Same.refl _) h
noncomputable def qg (sq:Bool):Sp:=fun vs H Q _=>∃(p:Addr)(B:Int)(v:V)(d:PyData)(a:Nat)(ok:Addr->Prop),vs=[.ref p,v]/\aP H p B/\0<=B/\B<=900000/\cY ok H/\(∀a,ok a->a≠p)/\aG ok H v d/\szD a d/\a<=1/\(sq=true->Ut d=true) /\
 ∀v' d' H',aV p H H'->aP H' p (B+10)->aG ok H' v' d'->tK a d d'->Q v' H'
theorem Kr {a:Nat}(h:a<=1):210*5^a<=1050/\4*(210*5^a)+1<=210*5^(a+1)/\210<=210*5^a:=by
 have:a=0\/a=1:=by omega
 rcases this with rfl|rfl <;> decide
structure Sm3 (a:Nat)(d:PyData):Prop where
 sz:szD (a+1) d
 nd:nodes d<=20
 dp:d.depth<=2
theorem Sm3.zZ {a:Nat}{d d':PyData}(h:Sm3 a d'):tK a d d':=⟨h.sz,by have:=h.nd;omega,by have:=h.dp;omega⟩
theorem tu.sm3 {a:Nat}{d:PyData}(h:tu d):Sm3 a d:=⟨yr h.sz,by have:=h.nd;omega,by have:=h.dp;omega⟩
theorem Dm {a:Nat}:∀d∈([]:List PyData),Sm3 a d:=fun d h=>(nomatch h)
theorem b8 {a:Nat}{x:PyData}{xs:List PyData}(h:Sm3 a x)(h2:∀d∈xs,Sm3 a d):∀d∈x::xs,Sm3 a d:=fun d hd=>by
 rcases mem_cons.mp hd with rfl|z
 ·exact h
 exact h2 d z
theorem yt {a:Nat}{i:Int}(h:i.natAbs<=10^20*2^(a+1)):Sm3 a (.int i):=⟨h,by show 1<=20;decide,by show 0<=2;decide⟩
theorem rH {a:Nat}{x:Str}(h:okS (a+1) x):Sm3 a (.str x):=⟨h,by show 1<=20;decide,by show 0<=2;decide⟩
theorem NT {a:Nat}{i:Int}(h:i.natAbs<=10^20*2^(a+1)):Sm3 a (.list [.int i])/\Sm3 a (.tuple [.int i]):=by
 have p:1<=210*5^(a+1):=by have:=Nat.pow_pos (n:=a+1) (show 0<5 by decide);omega
 exact⟨⟨⟨p,h,trivial⟩,by show 2<=20;decide,by show max 0 0+1<=2;decide⟩,⟨⟨p,h,trivial⟩,by show 2<=20;decide,by show max 0 0+1<=2;decide⟩⟩
theorem S7 {a:Nat}(h:a<=1):10^20*2^a<=2*10^20/\2*(10^20*2^a)=10^20*2^(a+1)/\10^20<=10^20*2^a:=by
 have:a=0\/a=1:=by omega
 rcases this with rfl|rfl <;> decide
theorem M8 {a:Nat}{d:PyData}{ds ds':List PyData}(hn0:nodes d=1+aJ ds)(hd0:d.depth=PyData.depthAll ds+1)(hs:∀x∈ds',szD (a+1) x)(hl:ds'.length<=210*5^(a+1))(hn:aJ ds'<=4*aJ ds+23)(hd:∀x∈ds',x.depth<=PyData.depthAll ds+2) :
  tK a d (.list ds')/\tK a d (.tuple ds'):=by
 have h1:=cX hd;refine⟨⟨⟨hl,eO.mpr hs⟩,?_,?_⟩,⟨⟨hl,eO.mpr hs⟩,?_,?_⟩⟩
 ·show 1+aJ ds'<=_;omega
 ·rw[PyData.depth.eq_1];omega
 ·show 1+aJ ds'<=_;omega
 rw[PyData.depth.eq_2];omega
theorem Cz {a:Nat}{d:PyData}{ds:List PyData}{i:Nat}{c c':PyData}(hn0:nodes d=1+aJ ds)(hd0:d.depth=PyData.depthAll ds+1)(hl:ds.length<=210*5^a)(hs:∀x∈ds,szD a x)(hc:ds[i]?=some c)(b:tK a c c') :
  tK a d (.list (ds.set i c'))/\tK a d (.tuple (ds.set i c')):=by
 have hm:=mem_of_getElem? hc;have h1:=yU (d':=c') hc;have h2:=iC hm;have h3:=b.nd;refine M8 hn0 hd0 (fun x hx=>?_) (by rw[length_set];exact le_trans hl (yQ a)) ω (fun x hx=>?_)
 ·rcases List.mem_or_eq_of_mem_set hx with z|rfl
  ·exact pC (hs x z)
  exact b.sz
 rcases List.mem_or_eq_of_mem_set hx with z|rfl
 ·have:=bJ z;omega
 have:=b.dp;have:=bJ hm;omega
theorem Cj (x:V)(xs:List V):lG (x::xs) (some 1) none=xs:=by
 unfold lG;have e1:HT.sIx (x::xs).length 0 (some 1)=1:=by
  rw[length_cons];simp [HT.sIx]
 have e2:HT.sIx (x::xs).length (x::xs).length none=(x::xs).length:=by simp [HT.sIx]
 rw[e1,e2];simp
theorem MJ (x:V)(xs:List V):¬(HT.sIx (x::xs).length 0 (some 1)=0/\HT.sIx (x::xs).length (x::xs).length none=(x::xs).length):=by
 have e1:HT.sIx (x::xs).length 0 (some 1)=1:=by
  rw[length_cons];simp [HT.sIx]
 rw[e1];exact fun h=>absurd h.1 δ
theorem bK.GX {H H':Hp}{p:Addr}{B:Int}{vs:List V}{ps:List (List Nat)}(h:bK H vs ps)(t:aP H p B)(s:aV p H H'):bK H' vs ps:=h.keep fun a xs e=>s _ _ (t.net e) e
theorem bK.nt {H:Hp}{p l:Addr}{B:Int}{vs:List V}{ps:List (List Nat)}(h:bK H vs ps)(t:aP H p B)(e:H l=some (.lst vs))(n:1<=ps.length):l≠p:=fun z=>by
 obtain⟨a,b,c,e2,_⟩:=t;rw[z,e2] at e;cases e;cases h
theorem Qo {α:Type}(xs:List α)(h:1<=xs.length):∃(i:Nat)(x:α),xs[i]?=some x/\atI xs (-1)=some x:=by
 have h1:xs.length-1<xs.length:=ω;refine⟨xs.length-1,xs[xs.length-1],getElem?_eq_getElem h1,?_⟩;unfold atI ixN;rw[if_neg δ,if_pos ω];show xs[_]?=_;rw[show(-1+(xs.length:Int)).toNat=xs.length-1 by omega];exact getElem?_eq_getElem h1
section
variable {X:Cx}{a:Expr}{ta:TE}
noncomputable def trq (ob:Option HO)(H:Hp)(Q:Bool->Hp->Prop):Prop:=match ob with
 | some (.lst xs)=>Q (!xs.isEmpty) H
 | some (.tup xs)=>Q (!xs.isEmpty) H
 | _=>False
noncomputable def GR (x:V)(H:Hp)(Q:Bool->Hp->Prop):Prop:=match x with
 | .ref p=>trq (H p) H Q
 | .bl b=>Q b H
 | .int i=>Q (i != 0) H
 | .non=>Q false H
 | _=>False
noncomputable def RG (te:TE):TT:=fun σ H Q=>te σ H fun x H1=>GR x H1 Q
theorem Nz (te:TE)(σ:St)(H:Hp)(Q:Bool->Hp->Prop):RG te σ H Q=te σ H fun x H1=>GR x H1 Q:=rfl
theorem Jp (p:Addr)(H:Hp)(Q:Bool->Hp->Prop):GR (.ref p) H Q=trq (H p) H Q:=rfl
theorem Jr (i:Int)(H:Hp)(Q:Bool->Hp->Prop):GR (.int i) H Q=Q (i != 0) H:=rfl
theorem Nv (b:Bool)(H:Hp)(Q:Bool->Hp->Prop):GR (.bl b) H Q=Q b H:=rfl
theorem Jq (H:Hp)(Q:Bool->Hp->Prop):GR .non H Q=Q false H:=rfl
theorem Ny (xs:List V)(H:Hp)(Q:Bool->Hp->Prop):trq (some (.lst xs)) H Q=Q (!xs.isEmpty) H:=rfl
theorem Nx (xs:List V)(H:Hp)(Q:Bool->Hp->Prop):trq (some (.tup xs)) H Q=Q (!xs.isEmpty) H:=rfl
theorem Sy (ha:PE X a ta)(he:∀whole,isTrue a X.env whole=(do let v <- whole;standAt a.pos;holding [v] (truthy v))):PT X a (RG ta):=by
 intro pins s σ H Q I h;refine isTrue_plain (thE (ha pins s σ H _ I h) fun v s1 x H1 I1 r1 q1=>Rz pins s1 σ H1 x v Q I1 r1 ?_) (he _);cases x with
 | ref p=>
  replace q1:trq (H1 p) H1 Q:=q1;unfold trq at q1;split at q1
  ·rename_i xs e;exact⟨_,.inl ⟨xs,SqL.of e,rfl⟩,q1⟩
  ·rename_i xs e;exact⟨_,.inr (.inl ⟨xs,SqT.of e,rfl⟩),q1⟩
  exact q1.elim
 | bl b=>exact⟨_,rfl,q1⟩
 | int i=>exact⟨_,rfl,q1⟩
 | non=>exact⟨_,rfl,q1⟩
 | _=>exact(show False from q1).elim
theorem Kf (h:QE X a ta)(he:∀whole,isTrue a X.env whole=(do let v <- whole;standAt a.pos;holding [v] (truthy v)):=by intro _;rfl):QT X a (RG ta):=⟨Sy h.h he⟩
noncomputable def R0:R2:=fun x y H Q=>∃p q xs,x=.ref p/\y=.ref q/\H p=some (.lst xs)/\H q=some (.lst [])/\Q (.bl (!xs.isEmpty)) H
theorem KR (hu:X.A.units<cLine):OpR X (compareOp .NotEq) R0:=by
 intro pins s σ H x y v u Q I rx ry h;obtain⟨p,q,xs,rfl,rfl,e1,e2,qq⟩:=h;cases rx;cases ry;obtain⟨its1,r1,pl1,hz1⟩:=I.list (SqL.of e1);obtain⟨its2,r2,pl2,hz2⟩:=I.list (SqL.of e2);cases r2;cases xs with
 | nil=>
  cases r1;exact SeqAt.RcNeAt.lists (e:=fun _=>true) pl1.isList pl2.isList rfl hu (fun j h1 h2=>absurd h2 (Nat.not_lt_zero _)) X.prog X.w X.xe (EP X pins σ Q) ⟨.bl false,H,I,rfl,qq⟩
 | cons a b=>
  cases r1;exact SeqAt.RcNeAt.lists_lengths pl1.isList pl2.isList (by simp) hu X.prog X.w X.xe (EP X pins σ Q) ⟨.bl true,H,I,rfl,qq⟩
end
noncomputable def stD (s:Int×Int×Int):PyData:=.tuple [.int s.1,.int s.2.1,.int s.2.2]
theorem aG.st {ok:Addr->Prop}{H:Hp}{x:V}{s:Int×Int×Int}(t:aG ok H x (stD s)):∃a,x=.ref a/\ok a/\H a=some (.tup [.int s.1,.int s.2.1,.int s.2.2]):=by
 cases t with
 | tup o e z ts=>
  rename_i p xs;refine⟨p,rfl,o,?_⟩;cases ts with
  | cons t1 ts=>
   cases t1;cases ts with
   | cons t2 ts=>
    cases t2;cases ts with
    | cons t3 ts=>
     cases t3;cases ts;exact e
theorem aH.st {ok:Addr->Prop}{H:Hp}{xs:List V}{ss:List (Int×Int×Int)}{i:Nat}{x:V}(t:aH ok H xs (ss.map stD))(h:xs[i]?=some x):∃a s,x=.ref a/\ok a/\ss[i]?=some s/\H a=some (.tup [.int s.1,.int s.2.1,.int s.2.2]):=by
 obtain⟨d,hd,td⟩:=t.get h;rw[getElem?_map] at hd;cases hs:ss[i]? with
 | none=>rw[hs] at hd;cases hd
 | some s=>
  rw[hs] at hd;cases hd;obtain⟨a,h1,h2,h3⟩:=td.st;exact⟨a,s,h1,h2,rfl,h3⟩
theorem uY {is:List Int}{r:Int}(h0:0<=r)(h:r<is.length):∃i,i∈is/\atI (is.map V.int) r=some (.int i):=by
 have h1:r.toNat<is.length:=ω;refine⟨is[r.toNat],getElem_mem h1,?_⟩;unfold atI;rw[ou h0 (by rw[length_map];omega)];show(is.map V.int)[r.toNat]?=_;rw[getElem?_map,getElem?_eq_getElem h1];rfl
structure wX (ss:List (Int×Int×Int)):Prop where
 lh:∀(i:Nat) s,ss[i]?=some s->s.1<=s.2.1/\0<=s.2.2/\s.2.2<=9
 nx:∀(i:Nat) s t,ss[i]?=some s->ss[i+1]?=some t->t.1=s.2.1+1
 bd:∀(i:Nat) s,ss[i]?=some s->-(10^12)<=s.1/\s.2.1<=10^9+(10^12+10)*(i+1)
theorem wX.nil:wX []:=⟨fun i s h=>(by cases h),fun i s t h=>(by cases h),fun i s h=>(by cases h)⟩
theorem wX.snoc {ss:List (Int×Int×Int)}(h:wX ss){lo hi b:Int}(h1:lo<=hi)(h2:0<=b/\b<=9)(h3:-(10^12)<=lo/\hi<=10^9+(10^12+10)*(ss.length+1))(h4:∀s,ss[ss.length-1]?=some s->lo=s.2.1+1):wX (ss++[(lo,hi,b)]):=by
 have get:∀(i:Nat) s,(ss++[(lo,hi,b)])[i]?=some s->(i<ss.length/\ss[i]?=some s)\/(i=ss.length/\s=(lo,hi,b)):=fun i s e=>by
  rcases lt_or_ge i ss.length with z|z
  ·rw[List.getElem?_append_left z] at e;exact .inl ⟨z,e⟩
  rw[getElem?_append_right z] at e;cases hk:i-ss.length with
  | zero=>rw[hk] at e;cases e;exact .inr ⟨ω,rfl⟩
  | succ k=>rw[hk] at e;cases e
 refine⟨fun i s e=>?_,fun i s t e1 e2=>?_,fun i s e=>?_⟩
 ·rcases get i s e with⟨z,e⟩|⟨z,rfl⟩
  ·exact h.lh i s e
  exact⟨h1,h2.1,h2.2⟩
 ·rcases get i s e1 with⟨z,e1⟩|⟨z,rfl⟩
  ·rcases get (i+1) t e2 with⟨z2,e2⟩|⟨z2,rfl⟩
   ·exact h.nx i s t e1 e2
   exact h4 s (by rw[show ss.length-1=i by omega];exact e1)
  rcases get (i+1) t e2 with⟨z2,e2⟩|⟨z2,rfl⟩ <;> omega
 rcases get i s e with⟨z,e⟩|⟨z,rfl⟩
 ·exact h.bd i s e
 rw[z];exact h3
structure M1 (X:Cx)(o:Expr)(m:Str)(apos:Pos)(e:Expr)(cpos:Pos):Prop where
 base:attributeBase o m X.env (eval o X.env)=eval o X.env
 few:((backTo cpos (starEach [e] X.env)).all (fun x=>!x.1)&&(backToKw cpos (keywordEach [] X.env)).all (fun x=>x.1.isSome)
  && decide (([e]:List Expr).length+([]:List Keyword).length+(if ([]:List Keyword).isEmpty then 0 else 1)<30))=true
 line:(apos.endLine == cpos.line)=true
 trees:backTo cpos (starEach [e] X.env)=[(false,eval e X.env)]
theorem gm.un1 {k:Nat}{A:Around}(r:gm k A):A.in1.units<cLine:=by
 have:=r.un;show A.units+1<cLine;omega
section
variable {X:Cx}{pos:Pos}
noncomputable def Wa:R2:=fun x y H Q=>∃(p:Addr)(ws:List Str)(d:PyData)(ok:Addr->Prop),y=.ref p/\H p=some (.tup (ws.map V.str))/\aG ok H x d/\Q (.bl (ws.any (dj d))) H
theorem TF (hu:X.A.in1.units<cLine):OpR X (compareOp .In) Wa:=by
 intro pins s σ H x y v u Q I rx ry h;obtain⟨p,ws,d,ok,rfl,e,t,q⟩:=h;cases ry;obtain⟨its,r,pl,hz⟩:=I.tuple (SqT.of e);have key:∀u∈its,∃y t,u=Value.str y t:=fun u hu=>by
  obtain⟨j,hj,ej⟩:=mem_iff_getElem.mp hu;have hl:=r.length;have hx:(ws.map V.str)[j]?=some (ws.map V.str)[j]:=getElem?_eq_getElem ω;obtain⟨u',hu',ru⟩:=r.get hx;rw[getElem?_eq_getElem hj,ej] at hu';cases hu';rw[List.getElem_map] at ru;obtain⟨t,e⟩:=ru;exact⟨_,t,e⟩
 let g:Value->Bool:=fun u=>match u with | .str y _=>dj d y|_=>false
 refine SeqAt.in_tupleAt g pl (fun w hw=>?_) ⟨.bl _,H,I,rfl,?_⟩
 ·obtain⟨y,t',rfl⟩:=key w (by simpa using hw);cases t with
  | non=>cases rx;exact SeqAt.EqAt.str_none y t'
  | bl b=>cases rx;exact SeqAt.EqAt.str_bool y t' b
  | int i=>obtain⟨t2,rfl⟩:=rx;exact SeqAt.EqAt.str_int y t' i t2
  | str z=>
   obtain⟨t2,rfl⟩:=rx;have h2:=SeqAt.EqAt.str_str (A:=X.A.in1) (s:=s) y t' z t2;have e3:(y == z)=dj (.str z) y:=by
    show(y == z)=decide (z=y);rw[Bool.beq_eq_decide_eq];exact decide_eq_decide.mpr ⟨Eq.symm,Eq.symm⟩
   rw[e3] at h2;exact h2
  | lst o e1 z1 ts=>
   cases rx;obtain⟨its1,r1,pl1,hz1⟩:=I.list (SqL.of e1);exact SeqAt.EqAt.str_list y t' pl1.isList hu
  | tup o e1 z1 ts=>
   cases rx;obtain⟨its1,r1,pl1,hz1⟩:=I.tuple (SqT.of e1);exact SeqAt.EqAt.str_tuple y t' pl1 hu
 have:∀(ws:List Str)(its:List Value),Vals (ws.map V.str) its->its.any g=ws.any (dj d):=by
  intro ws
  induction ws with
  | nil=>intro its r;cases r;rfl
  | cons a ws ih=>
   intro its r;cases r with
   | cons r1 r2=>
    obtain⟨t1,rfl⟩:=r1;rw[any_cons,any_cons,ih _ r2]
 rw[show its.toArray.any g=its.any g by simp,this ws its r];exact q
end
noncomputable def Wb:R2:=fun x y H Q=>∃p q xs,x=.ref p/\y=.ref q/\H p=some (.tup xs)/\H q=some (.tup [])/\Q (.bl xs.isEmpty) H
theorem TV {X:Cx}(hu:X.A.units<cLine):OpR X (compareOp .Eq) Wb:=by
 intro pins s σ H x y v u Q I rx ry h;obtain⟨p,q,xs,rfl,rfl,e1,e2,qq⟩:=h;cases rx;cases ry;obtain⟨its1,r1,pl1,hz1⟩:=I.tuple (SqT.of e1);obtain⟨its2,r2,pl2,hz2⟩:=I.tuple (SqT.of e2);cases r2;refine SeqAt.RcAt.tuples (e:=fun _=>true) pl1 pl2 hu (fun j h1 h2=>absurd h2 (Nat.not_lt_zero _)) X.prog X.w X.xe (EP X pins σ Q) ?_;have hl:=r1.length;refine⟨.bl xs.isEmpty,H,I,?_,qq⟩;show Value.bool _=Value.bool _;congr 1;rw[size_toArray,size_toArray];cases xs with
 | nil=>
  cases r1;rfl
 | cons a b=>
  cases r1;rfl
theorem jD {d:PyData}{z:Str}(h:dj d z=true):d=.str z:=by
 cases d with
 | str w=>
  have:w=z:=of_decide_eq_true (show decide (w=z)=true from h);rw[this]
 | _=>exact absurd h Bool.false_ne_true
theorem Bl:(("is" : Str) = "below")=False:=eq_false ψ
theorem Dt:(("is" : Str) = "mask")=False:=eq_false ψ
theorem uc:(("within" : Str) = "below")=False:=eq_false ψ
theorem u0:(("within" : Str) = "mask")=False:=eq_false ψ
theorem wC:(("mask" : Str) = "below")=False:=eq_false ψ
theorem wB:(("pick" : Str) = "below")=False:=eq_false ψ
theorem yS:(("pick" : Str) = "mask")=False:=eq_false ψ
theorem u5:(("table" : Str) = "below")=False:=eq_false ψ
theorem wA:(("table" : Str) = "mask")=False:=eq_false ψ
noncomputable def rdW:=And.intro @Bl (And.intro @Dt (And.intro @uc (And.intro @u0 (And.intro @wC (And.intro @wB (And.intro @yS (And.intro @u5 @wA)))))))
theorem kE {H:Hp}{l p:Addr}{o:HO}(h:upd H l o p=none):H p=none/\p≠l:=by
 have hp:p≠l:=fun z=>by rw[z,aB] at h;cases h
 rw[aO hp] at h;exact⟨h,hp⟩
theorem Same.none {H H':Hp}(s:Same H H'){p:Addr}(h:H' p=none):H p=none:=by
 cases e:H p with
 | none=>rfl
 | some o=>rw[s _ _ e] at h;cases h
mutual
noncomputable def szB:PyData->Bool
 | .none=>true
 | .bool _=>true
 | .int i=>decide (i.natAbs<=10^20)
 | .str x=>decide (x.length<=30)&&x.cps.toList.all fun c=>decide (c<16^8)
 | .list ds=>decide (ds.length<=210)&&RM ds
 | .tuple ds=>decide (ds.length<=210)&&RM ds
 | .dict _=>false
noncomputable def RM:List PyData->Bool
 | []=>true
 | d::ds=>szB d&&RM ds
end
theorem VG {K:PySem.W.Frag}{a:Addr}{xs:List V}{g:TG}{tb:TS}{D:Ends}{σ:St}{H:Hp}{R:It->Hp->Prop}(hR:R=(fun J H1=>∃W:Nat->Nat->St->Hp->Prop,(∃m,W 0 m σ H1)/\∀i m σ H,W i m σ H ->
  (J.stop i H/\D.nx σ H)\/(J.go i H/\∃N:St->Hp->Prop,(∀σ' H',N σ' H'->∃m',m'<m/\W (i+1) m' σ' H')/\∀x H',J.yld i H x H'->g x σ H' fun σ2 H2=>tb { D with nx:=N,ct:=N,bk:=D.nx } σ2 H2)))
  (Pv:Nat->St->Hp->Prop) (h0:Pv 0 σ H) (hl:∀i σ H,Pv i σ H->H a=some (.tup xs))
  (hs:∀i x σ H,xs[i]?=some x->Pv i σ H->g x σ H fun σ2 H2=>tb { D with nx:=Pv (i+1),ct:=Pv (i+1),bk:=D.nx } σ2 H2) (hd:∀σ H,Pv xs.length σ H->D.nx σ H):R (Itt K a) H:=by
 refine zP hR xs.length Pv h0 (fun i σ H hi p=>?_) (fun σ H p=>?_) (fun i σ H x H3 hi p y=>?_) hd
 ·exact⟨xs,_,SqT.of (hl i σ H p),getElem?_eq_getElem hi⟩
 ·exact⟨xs,SqT.of (hl _ σ H p),le_refl _⟩
 obtain⟨rfl,hx⟩:=y;exact hs i x σ _ (hx _ (SqT.of (hl i σ _ p))) p
inductive RowC where
 | one (n t:Int)
 | rng (a b t:Int)
 | low (n t:Int)
 | msk (lo wd bits t:Int)
 | tab (lo:Int) (gs:List Int)
 | pik (l:Int)
noncomputable def scV:PyData->Option V
 | .int i=>some (.int i)
 | .str z=>some (.str z)
 | _=>none
theorem aG.sc {ok:Addr->Prop}{H:Hp}{x v:V}{d:PyData}(t:aG ok H x d)(h:scV d=some v):x=v:=by
 cases t with
 | int i=>exact Option.some.inj h
 | str z=>exact Option.some.inj h
 | _=>cases h
theorem aH.sc {ok:Addr->Prop}{H:Hp}:∀{xs vs:List V}{ds:List PyData},aH ok H xs ds->ds.map scV=vs.map some->xs=vs
 | _,[],_,.nil,_=>rfl
 | _,v::vs,_,.nil,h=>by cases h
 | _,[],_,.cons _ _,h=>by cases h
 | _,v::vs,_,.cons t ts,h=>by
  rw[map_cons,map_cons] at h;injection h with h1 h2;rw[t.sc h1,ts.sc h2]
theorem aH.uncons {ok:Addr->Prop}{H:Hp}{xs:List V}{d:PyData}{ds:List PyData}(t:aH ok H xs (d::ds)):∃x r,xs=x::r/\aG ok H x d/\aH ok H r ds:=by
 cases t with
 | cons h r=>exact⟨_,_,rfl,h,r⟩
theorem aG.tupOf {ok:Addr->Prop}{H:Hp}{x:V}{ds:List PyData}(t:aG ok H x (.tuple ds)):∃p xs,x=.ref p/\H p=some (.tup xs)/\aH ok H xs ds:=by
 cases t with
 | tup o e z ts=>exact⟨_,_,rfl,e,ts⟩
theorem HY (pre:List Int)(j:Int):atI ((pre++[j]).map V.int) (-1)=some (V.int j):=by
 unfold atI ixN;rw[if_neg δ,if_pos (by rw[length_map,length_append,length_singleton];omega)];show((pre++[j]).map V.int)[_]?=_;rw[show(-1+(((pre++[j]).map V.int).length:Int)).toNat=pre.length by rw[length_map,length_append,length_singleton];omega,getElem?_map,getElem?_append_right (le_refl _),sub_self];rfl
section
variable {X:Cx}{e o:Expr}{te to:TE}{pos:Pos}
noncomputable def ppq (ob:Option HO)(l:Addr)(H:Hp)(Q:VK):Prop:=match ob with
 | some (.lst xs)=>∃y,xs[xs.length-1]?=some y/\Q y (upd H l (.lst xs.dropLast))
 | _=>False
noncomputable def ppK (x:V)(H:Hp)(Q:VK):Prop:=match x with
 | .ref l=>ppq (H l) l H Q
 | _=>False
noncomputable def Ju (to:TE):TE:=fun σ H Q=>to σ H fun x H1=>ppK x H1 Q
theorem Jt (to:TE)(σ:St)(H:Hp)(Q:VK):Ju to σ H Q=to σ H fun x H1=>ppK x H1 Q:=rfl
theorem O6 (l:Addr)(H:Hp)(Q:VK):ppK (.ref l) H Q=ppq (H l) l H Q:=rfl
theorem O5 (xs:List V)(l:Addr)(H:Hp)(Q:VK):ppq (some (.lst xs)) l H Q=∃y,xs[xs.length-1]?=some y/\Q y (upd H l (.lst xs.dropLast)):=rfl
theorem Pj {apos cpos:Pos}(ho:PE X o to) (hbase:attributeBase o "pop" X.env (eval o X.env)=eval o X.env:=by rfl) (hline:(apos.endLine == cpos.line)=true:=by rfl) :
  PE X (.Call (.Attribute o "pop" apos) [] [] cpos) (Ju to):=by
 intro pins s σ H Q I h;refine wpAny_Call_method0_late hbase hline (thE (ho pins s σ H _ I h) fun v s1 x H1 I1 r1 q=>?_);cases x with
 | ref l=>
  replace q:ppq (H1 l) l H1 Q:=q;cases el:H1 l with
  | none=>rw[el] at q;exact q.elim
  | some ob=>
   cases ob with
   | lst xs=>
    rw[el] at q;obtain⟨y,hy,q⟩:=q;obtain⟨h1,h2⟩:=yp (T := "list") I1 r1 (.inl ⟨rfl,xs,SqL.of el⟩);exact⟨"list","list.pop",PySem.F.plainAttrs_list,PySem.F.slot_list_pop,PySem.F.type_list_pop,h1,h2,Calls.callWith_builtin rfl (PySem.evalArgs_none (Uc pins s1 σ H1 (.ref l) [] v [] Q I1 r1 .nil ⟨l,xs,y,rfl,rfl,el,hy,q⟩))⟩
   | _=>rw[el] at q;exact q.elim
 | _=>exact q.elim
theorem Ov {apos cpos:Pos}(ho:QE X o to) (hbase:attributeBase o "pop" X.env (eval o X.env)=eval o X.env:=by rfl) (hline:(apos.endLine == cpos.line)=true:=by rfl) :
  QE X (.Call (.Attribute o "pop" apos) [] [] cpos) (Ju to):=⟨Pj ho.h hbase hline⟩
noncomputable def ints1 (H:Hp)(p:Addr)(is:List Int):Prop:=H p=some (.lst (is.map V.int))\/H p=some (.tup (is.map V.int))
theorem iQ {is:List Int}{its:List Value}(r:Vals (is.map V.int) its)(i:Nat)(v:Value)(h:its.toArray[i]?=some v):∃t,v=Value.int (is.getD i 0) t:=by
 have hl:=r.length;rw[length_map] at hl;have hi:i<its.length:=by
  rcases lt_or_ge i its.length with z|z
  ·exact z
  rw[List.getElem?_toArray,List.getElem?_eq_none z] at h;cases h
 have hx:(is.map V.int)[i]?=some (V.int (is.getD i 0)):=by
  rw[getElem?_map,getElem?_eq_getElem ω,getD_eq_getElem?_getD,getElem?_eq_getElem ω];rfl
 obtain⟨u,hu,ru⟩:=r.get hx;rw[List.getElem?_toArray,hu] at h;cases h;exact ru
theorem IV (hc:X.calm=true):dJ X (.builtin "min") (fun xs H Q=>∃p is,xs=[.ref p]/\ints1 H p is/\is≠[]/\∀M,M∈is->(∀a∈is,M<=a)->Q (.int M) H):=by
 intro pins s σ H xs us Q I r h;obtain⟨p,is,rfl,hp,hne,q⟩:=h;obtain⟨u,rfl,rv⟩:=vals1 r;cases rv;have hpos:0<is.length:=length_pos_iff.mpr hne;have fin:∀{its:List Value}(rvs:Vals (is.map V.int) its) (v:Value) (h':Heap) (tk:Nat),its.toArray[argBest (fun i j=>decide (is.getD i 0<is.getD j 0)) (its.toArray.size-1)]?=some v->Inv X pins σ H { s with heap:=h',toks:=tk }->EP X pins σ Q v { s with heap:=h',toks:=tk }:=fun {its} rvs v h' tk hv I3=>by
  have hl:=rvs.length;rw[length_map] at hl;obtain⟨t,rfl⟩:=iQ rvs _ v hv;have hb:=argBest_lt (fun i=>is.getD i 0) (its.toArray.size-1);rw[size_toArray] at hb |-;refine⟨.int _,H,I3,⟨_,rfl⟩,q _ ?_ ?_⟩
  ·rw[getD_eq_getElem?_getD,getElem?_eq_getElem ω];exact getElem_mem _
  intro a ha;obtain⟨j,hj,e⟩:=mem_iff_getElem.mp ha;have:=hb.2 j ω;rw[show is.getD j 0=a by rw[getD_eq_getElem?_getD,getElem?_eq_getElem hj];exact e] at this;exact this
 have kept:∀{ob:Obj}{h':Heap}{tk:Nat},(∀(b:Addr)(o:Obj),¬b∈[s.heap.objs.size]->(s.heap.push ob).get? b=some o->h'.get? b=some o)->Inv X pins σ H { s with heap:=h',toks:=tk }:=fun {ob h' tk} hk=>
  I.kept (t':=tk) fun b o e=>hk b o (fun z=>ne_of_lt (lt_size e) (mem_singleton.mp z)) (get?_push_of_some _ e)
 rcases hp with hp|hp
 ·obtain⟨its,rvs,pl,hz⟩:=I.list (SqL.of hp);have hl:=rvs.length;rw[length_map] at hl;have pl':s.heap.IsList p its.toArray:=pl.isList;have hlt:p<s.heap.objs.size:=by obtain⟨_,e,_⟩:=pl';exact lt_size e
  refine call_min_walk (wpAny_pyIter_list pl' ?_);refine⟨s.heap.objs.size,_,_,_,_,_,_,rfl,Walks.list (A:=X.A.in1) (I.ok.hd hc) s.heap.objs.size p (ne_of_lt hlt) its.toArray,?_,fun b hb=>?_,?_,CmpOf.ints_lt (fun i=>is.getD i 0) fun i v hv=>iQ rvs i v hv,fun v h' tk hv hk=>fin rvs v h' tk hv (kept hk)⟩
  ·obtain⟨ob,e,r⟩:=pl';exact⟨⟨_,get?_push_size _ rfl,rfl,rfl⟩,ob,get?_push_of_some _ e,r⟩
  ·rw[size_push];simp only[mem_cons,not_mem_nil,or_false] at hb;rcases hb with rfl|rfl
   ·exact lt_succ_self _
   exact lt_succ_of_lt hlt
  rw[size_toArray];omega
 obtain⟨its,rvs,pl,hz⟩:=I.tuple (SqT.of hp);have hl:=rvs.length;rw[length_map] at hl;have pl':s.heap.IsTuple p its.toArray:=pl;have hlt:p<s.heap.objs.size:=by obtain⟨_,e,_⟩:=pl';exact lt_size e
 refine call_min_walk (wpAny_pyIter_tuple pl' ?_);refine⟨s.heap.objs.size,_,_,_,_,_,_,rfl,Walks.tuple (A:=X.A.in1) (I.ok.hd hc) s.heap.objs.size p (ne_of_lt hlt) its.toArray,?_,fun b hb=>?_,?_,CmpOf.ints_lt (fun i=>is.getD i 0) fun i v hv=>iQ rvs i v hv,fun v h' tk hv hk=>fin rvs v h' tk hv (kept hk)⟩
 ·obtain⟨ob,e,r⟩:=pl';exact⟨⟨_,get?_push_size _ rfl,rfl,rfl⟩,ob,get?_push_of_some _ e,r⟩
 ·rw[size_push];simp only[mem_cons,not_mem_nil,or_false] at hb;rcases hb with rfl|rfl
  ·exact lt_succ_self _
  exact lt_succ_of_lt hlt
 rw[size_toArray];omega
theorem Jb (hc:X.calm=true):dJ X (.builtin "max") (fun xs H Q=>∃p is,xs=[.ref p]/\ints1 H p is/\is≠[]/\∀M,M∈is->(∀a∈is,a<=M)->Q (.int M) H):=by
 intro pins s σ H xs us Q I r h;obtain⟨p,is,rfl,hp,hne,q⟩:=h;obtain⟨u,rfl,rv⟩:=vals1 r;cases rv;have hpos:0<is.length:=length_pos_iff.mpr hne;have fin:∀{its:List Value}(rvs:Vals (is.map V.int) its) (v:Value) (h':Heap) (tk:Nat),its.toArray[argBest (fun i j=>decide (is.getD i 0>is.getD j 0)) (its.toArray.size-1)]?=some v->Inv X pins σ H { s with heap:=h',toks:=tk }->EP X pins σ Q v { s with heap:=h',toks:=tk }:=fun {its} rvs v h' tk hv I3=>by
  have hl:=rvs.length;rw[length_map] at hl;obtain⟨t,rfl⟩:=iQ rvs _ v hv;have hb:=argBest_gt (fun i=>is.getD i 0) (its.toArray.size-1);rw[size_toArray] at hb |-;refine⟨.int _,H,I3,⟨_,rfl⟩,q _ ?_ ?_⟩
  ·rw[getD_eq_getElem?_getD,getElem?_eq_getElem ω];exact getElem_mem _
  intro a ha;obtain⟨j,hj,e⟩:=mem_iff_getElem.mp ha;have:=hb.2 j ω;rw[show is.getD j 0=a by rw[getD_eq_getElem?_getD,getElem?_eq_getElem hj];exact e] at this;exact this
 have kept:∀{ob:Obj}{h':Heap}{tk:Nat},(∀(b:Addr)(o:Obj),¬b∈[s.heap.objs.size]->(s.heap.push ob).get? b=some o->h'.get? b=some o)->Inv X pins σ H { s with heap:=h',toks:=tk }:=fun {ob h' tk} hk=>
  I.kept (t':=tk) fun b o e=>hk b o (fun z=>ne_of_lt (lt_size e) (mem_singleton.mp z)) (get?_push_of_some _ e)
 rcases hp with hp|hp
 ·obtain⟨its,rvs,pl,hz⟩:=I.list (SqL.of hp);have hl:=rvs.length;rw[length_map] at hl;have pl':s.heap.IsList p its.toArray:=pl.isList;have hlt:p<s.heap.objs.size:=by obtain⟨_,e,_⟩:=pl';exact lt_size e
  refine call_max_walk (wpAny_pyIter_list pl' ?_);refine⟨s.heap.objs.size,_,_,_,_,_,_,rfl,Walks.list (A:=X.A.in1) (I.ok.hd hc) s.heap.objs.size p (ne_of_lt hlt) its.toArray,?_,fun b hb=>?_,?_,CmpOf.ints_gt (fun i=>is.getD i 0) fun i v hv=>iQ rvs i v hv,fun v h' tk hv hk=>fin rvs v h' tk hv (kept hk)⟩
  ·obtain⟨ob,e,r⟩:=pl';exact⟨⟨_,get?_push_size _ rfl,rfl,rfl⟩,ob,get?_push_of_some _ e,r⟩
  ·rw[size_push];simp only[mem_cons,not_mem_nil,or_false] at hb;rcases hb with rfl|rfl
   ·exact lt_succ_self _
   exact lt_succ_of_lt hlt
  rw[size_toArray];omega
 obtain⟨its,rvs,pl,hz⟩:=I.tuple (SqT.of hp);have hl:=rvs.length;rw[length_map] at hl;have pl':s.heap.IsTuple p its.toArray:=pl;have hlt:p<s.heap.objs.size:=by obtain⟨_,e,_⟩:=pl';exact lt_size e
 refine call_max_walk (wpAny_pyIter_tuple pl' ?_);refine⟨s.heap.objs.size,_,_,_,_,_,_,rfl,Walks.tuple (A:=X.A.in1) (I.ok.hd hc) s.heap.objs.size p (ne_of_lt hlt) its.toArray,?_,fun b hb=>?_,?_,CmpOf.ints_gt (fun i=>is.getD i 0) fun i v hv=>iQ rvs i v hv,fun v h' tk hv hk=>fin rvs v h' tk hv (kept hk)⟩
 ·obtain⟨ob,e,r⟩:=pl';exact⟨⟨_,get?_push_size _ rfl,rfl,rfl⟩,ob,get?_push_of_some _ e,r⟩
 ·rw[size_push];simp only[mem_cons,not_mem_nil,or_false] at hb;rcases hb with rfl|rfl
  ·exact lt_succ_self _
  exact lt_succ_of_lt hlt
 rw[size_toArray];omega
noncomputable def Dc (ta:TA):TE:=fun σ H Q=>ta σ H fun vs H1=>∃j:Int,vs=[.int j]/\(-(2^62)<=j/\j<2^62)/\(j-0).toNat<=sizeLine/\∀p,H1 p=none->Q (.ref p) (upd H1 p (.lst (yM 0 (j-0).toNat)))
theorem Kz {a:Expr}{ta:TA}{p p2 pos pos2:Pos}(hc:X.calm=true) (hgl:Gl X "list") (hml:X.mg "list" = none) (hg:Gl X "range") (hm:X.mg "range" = none) (ha:PA X [a] ta)
  (hs:starEach [a] X.env=[(false,eval a X.env)]:=by rfl)
  (he:starEach [.Call (.Name "range" p2) [a] [] pos2] X.env=[(false,eval (.Call (.Name "range" p2) [a] [] pos2) X.env)]:=by rfl) :
  PE X (.Call (.Name "list" p) [.Call (.Name "range" p2) [a] [] pos2] [] pos) (Dc ta):=by
 intro pins s σ H Q I h;refine wpAny_Call_Name_kw (pK I hgl hml boot_list ?_ δ δ);refine PyProof.Rows.callWith_type1 ?_ he rfl;rw[he];show wpAny _ _ (spliced ((false,eval (.Call (.Name "range" p2) [a] [] pos2) X.env)::[])) _ _ s;refine Calls.spliced_cons ?_;refine Call_ (pK I hg hm boot_range (PyProof.Rows.callWith_type1 (thA (ha pos2 pins s σ H _ I h) fun us s1 vs H1 I1 r1 q1=>?_) hs rfl));obtain⟨j,e,⟨q3,q4⟩,hz,q⟩:=q1;have q1:(-(2^62):Int)<=0:=by decide
 have q2:(0:Int)<2^62:=by decide
 subst e;cases r1 with
 | cons r' rr=>
  cases rr;obtain⟨t',rfl⟩:=r';refine call_range_1 (Calls.spliced_nil ?_);refine call_list_range (n:=(j-0).toNat) (I1.ok.hd hc) (IsRange.new ..) (small_one q1 q2 q3 q4) (by rw[rangeSize_one];split <;> omega) (le_trans hz Ug) fun h' tk acc' c' kp e it=>?_
  have I2:Inv X pins σ H1 { s1 with heap:=s1.heap.push { cls:=.type "range",data:=.fields #[.int 0 s1.toks,.int j t',.int 1 (s1.toks+1)] },toks:=s1.toks+1+1 }:=I1.kept fun b o e=>get?_push_of_some _ e;have hf:H1 (s1.heap.push { cls:=.type "range",data:=.fields #[.int 0 s1.toks,.int j t',.int 1 (s1.toks+1)] }).objs.size=none:=I2.hok.fresh (le_refl _);refine⟨.ref _,_,I2.laid (t':=tk) kp (le_refl _) (show dh X.prog X.w _ h' _ (.lst (yM 0 (j-0).toNat)) from⟨?_,acc'.toList,c',?_,by simpa using e⟩),rfl,q _ hf⟩
  ·simpa [yM] using hz
  obtain⟨it1,it2⟩:=it;refine Eu (by simp [yM,it1]) fun k x u h1 h2=>?_;have h2':acc'[k]?=some u:=by simpa using h2
  obtain⟨t9,rfl⟩:=it2 k u h2';unfold yM at h1;rw[getElem?_map] at h1;have hk:k<(j-0).toNat:=by
   rcases lt_or_ge k (j-0).toNat with z|z
   ·exact z
   rw[List.getElem?_eq_none (by simpa using z)] at h1;cases h1
  rw[List.getElem?_range hk] at h1;cases h1;exact⟨t9,by rw[Int.mul_one]⟩
theorem Bd {a:Expr}{ta:TA}{p p2 pos pos2:Pos}(hc:X.calm=true) (hgl:Gl X "list") (hml:X.mg "list" = none) (hg:Gl X "range") (hm:X.mg "range" = none) (ha:QA X [a] ta)
  (hs:starEach [a] X.env=[(false,eval a X.env)]:=by rfl)
  (he:starEach [.Call (.Name "range" p2) [a] [] pos2] X.env=[(false,eval (.Call (.Name "range" p2) [a] [] pos2) X.env)]:=by rfl) :
  QE X (.Call (.Name "list" p) [.Call (.Name "range" p2) [a] [] pos2] [] pos) (Dc ta):=⟨Kz hc hgl hml hg hm ha.h hs he⟩
theorem CP {ws:List Str}{its:List Value}(r:Vals (ws.map V.str) its){i:Nat}{v:Value}(h:its[i]?=some v):∃w t,ws[i]?=some w/\v=Value.str w t:=by
 have hl:=r.length;rw[length_map] at hl;have hi:=(List.getElem?_eq_some_iff.mp h).1;have hx:(ws.map V.str)[i]?=some (V.str ws[i]):=by rw[getElem?_map,getElem?_eq_getElem ω];rfl
 obtain⟨u,hu,ru⟩:=r.get hx;rw[hu] at h;cases h;obtain⟨t,rfl⟩:=ru;exact⟨ws[i],t,getElem?_eq_getElem ω,rfl⟩
end
inductive Pl where
 | pick (l:Int)
 | one (k:Nat) (r:Pl)
 | wit (k:Nat) (r:Pl)
 | low (k:Nat) (a b:Pl)
 | msk (l:Int) (r:Pl)
 | tab
noncomputable def plD:Pl->PyData
 | .pick l=>.tuple [.str "pick",.int l]
 | .one k r=>.tuple [.str "is",.int (k:Int),plD r]
 | .wit k r=>.tuple [.str "within",.int (k:Int),plD r]
 | .low k a b=>.tuple [.str "below",.int (k:Int),plD a,plD b]
 | .msk l r=>.tuple [.str "mask",.int l,plD r]
 | .tab=>.tuple [.str "table"]
noncomputable def mX:Pl->Nat
 | .pick _=>0
 | .one _ r=>mX r+1
 | .wit _ r=>mX r+1
 | .low _ a b=>max (mX a) (mX b)+1
 | .msk _ r=>mX r+1
 | .tab=>0
noncomputable def j8:Pl->Nat
 | .pick _=>1
 | .one _ r=>j8 r+1
 | .wit _ r=>j8 r+1
 | .low _ a b=>j8 a+j8 b+1
 | .msk _ r=>j8 r+1
 | .tab=>1
noncomputable abbrev Sts:=List (Int×Int×Int)
noncomputable def bU (ss:Sts)(k:Nat):Int×Int×Int:=ss.getD k (0,0,0)
structure Lf (ss:Sts)(left:List Nat):Prop where
 ne:left≠[]
 lt:∀k∈left,k<ss.length
 up:left.Pairwise (· < ·)
noncomputable def kids (ss:Sts):Pl->List Nat->List (List Nat×Pl)
 | .pick _,_=>[]
 | .tab,_=>[]
 | .one k r,left=>[(left.filter (·≠k),r)]
 | .wit k r,left=>[(left.filter (·≠k),r)]
 | .low k a b,left=>[(left.filter (· < k),a),(left.filter (k<=·),b)]
 | .msk l r,left=>[(left.filter fun k=>(bU ss k).2.2≠l,r)]
noncomputable def lA (left:List Nat):PyData:=.list (left.map fun(k:Nat)=>.int (k:Int))
noncomputable def iJ (ss:Sts)(left:List Nat):Int:=(bU ss (left.getLast?.getD 0)).2.1-(bU ss (left.head?.getD 0)).1+1
noncomputable def mK:Sp:=fun vs H Q _=>∃(s l:V)(ok:Addr->Prop)(ss:Sts)(left:List Nat),vs=[s,l]/\aG ok H s (.list (ss.map stD))/\aG ok H l (lA left)/\Lf ss left/\Q (.int (iJ ss left)) H
theorem qX {k:Nat}:∀{left:List Nat},left.Pairwise (· < ·)->left.drop (left.filter (· < k)).length=left.filter (k<=·)
 | [],_=>rfl
 | a::left,h=>by
  rw[pairwise_cons] at h;by_cases ha:a<k
  ·rw[filter_cons_of_pos (by simpa using ha),filter_cons_of_neg (by simpa using ha),length_cons,List.drop_succ_cons];exact qX h.2
  have h1:left.filter (· < k)=[]:=List.filter_eq_nil_iff.mpr fun b hb=>by have:=h.1 b hb;simp;omega
  have h2:left.filter (k<=·)=left:=List.filter_eq_self.mpr fun b hb=>by have:=h.1 b hb;simp;omega
  rw[filter_cons_of_neg (by simpa using ha),h1,filter_cons_of_pos (by simp;omega),h2];rfl
theorem Ql {ok:Addr->Prop}{H:Hp}(left:List Nat):aH ok H (left.map fun(k:Nat)=>V.int (k:Int)) (left.map fun(k:Nat)=>PyData.int (k:Int)):=by
 induction left with
 | nil=>exact .nil
 | cons a l ih=>exact .cons (.int _) ih
theorem aH.nats {ok:Addr->Prop}{H:Hp}:∀{xs:List V}{left:List Nat},aH ok H xs (left.map fun(k:Nat)=>PyData.int (k:Int))->xs=left.map fun(k:Nat)=>V.int (k:Int)
 | _,[],.nil=>rfl
 | _,a::l,.cons h r=>by
  cases h;rw[r.nats];rfl
theorem aG.left {ok:Addr->Prop}{H:Hp}{x:V}{left:List Nat}(t:aG ok H x (lA left)):∃a,x=.ref a/\ok a/\H a=some (.lst (left.map fun(k:Nat)=>V.int (k:Int)))/\left.length<=1000000:=by
 cases t with
 | lst o e z ts=>
  rw[ts.nats] at e z;rw[length_map] at z;exact⟨_,rfl,o,e,z⟩
theorem RN {ss:Sts}{k:Nat}(h:k<ss.length):ss[k]?=some (bU ss k):=by
 unfold bU;rw[getD_eq_getElem?_getD,getElem?_eq_getElem h];rfl
theorem aH.stN {ok:Addr->Prop}{H:Hp}{xs:List V}{ss:Sts}(t:aH ok H xs (ss.map stD)){k:Nat}(h:k<ss.length):∃a,atI xs (k:Int)=some (.ref a)/\H a=some (.tup [.int (bU ss k).1,.int (bU ss k).2.1,.int (bU ss k).2.2]):=by
 have hl:=t.length;rw[length_map] at hl;have hx:xs[k]?=some xs[k]:=getElem?_eq_getElem ω;obtain⟨a,s,h1,_,h2,h3⟩:=t.st hx;rw[RN h] at h2;cases h2;refine⟨a,?_,h3⟩;rw[<- h1];exact dw hx
noncomputable def nv (left:List Nat):List V:=left.map fun(k:Nat)=>V.int (k:Int)
theorem fO (left:List Nat):(nv left).length=left.length:=by unfold nv;rw[length_map]
theorem K9 {left:List Nat}{i:Nat}{x:V}(h:(nv left)[i]?=some x):∃k,left[i]?=some k/\x=.int (k:Int):=by
 unfold nv at h;rw[getElem?_map] at h;cases e:left[i]? with
 | none=>rw[e] at h;cases h
 | some k=>rw[e] at h;cases h;exact⟨k,rfl,rfl⟩
theorem FQ {left:List Nat}(h:left≠[]):∃k,left.getLast?=some k/\k∈left/\atI (nv left) (-1)=some (.int (k:Int)):=by
 obtain⟨a,b,rfl⟩:=sJ left (length_pos_iff.mpr h);refine⟨b,by simp,by simp,?_⟩;have:=HY (a.map fun(k:Nat)=>(k:Int)) (b:Int);unfold nv;rw[show((a++[b]).map fun(k:Nat)=>V.int (k:Int))=((a.map fun(k:Nat)=>(k:Int))++[(b:Int)]).map V.int by simp];exact this
theorem FT {left:List Nat}(h:left≠[]):∃k,left.head?=some k/\k∈left/\atI (nv left) 0=some (.int (k:Int)):=by
 cases left with
 | nil=>exact absurd rfl h
 | cons a l=>exact⟨a,rfl,mem_cons_self,dw (j:=0) (show(nv (a::l))[0]?=_ from rfl)⟩
theorem xU {left:List Nat}{P:Nat->Bool}{i k:Nat}(h:left[i]?=some k):(left.take (i+1)).filter P=(left.take i).filter P++(if P k=true then [k] else []):=by
 rw[take_snoc h,List.filter_append];cases hp:P k with
 | true=>rw[filter_cons_of_pos hp];rfl
 | false=>rw[filter_cons_of_neg (by rw[hp];decide)];rfl
theorem T8 (a b:List Nat):nv (a++b)=nv a++nv b:=by unfold nv;rw[map_append]
theorem b7 {ok:Addr->Prop}{H:Hp}{a:Addr}{left:List Nat}(h:ok a)(e:H a=some (.lst (nv left)))(hl:left.length<=1000000):aG ok H (.ref a) (lA left):=.lst h e (by rw[fO];exact hl) (Ql left)
theorem dB {K:PySem.W.Frag}{mp:List (Option Nat)}{g:TG}{tc:TT}{te:TE}{σ:St}{H:Hp}{Q:VK}{R:It->Hp->Prop}{a:Addr}{left:List Nat}(P:Nat->Bool)(okT:St->Prop)(hR:R=Nq mp g tc te σ Q)(e:H a=some (.lst (nv left)))(hz:left.length<=1000000)(h0:okT (qd mp σ))
  (hs:∀(i k:Nat) τ (acc:List V) (Pn:List V->St->Hp->Prop),left[i]?=some k->okT τ->(P k=true->∀τ1,okT τ1->Pn (acc++[V.int (k:Int)]) τ1 H)->(P k=false->∀τ1,okT τ1->Pn acc τ1 H)->g (.int (k:Int)) τ H fun τ1 H4=>tc τ1 H4 fun b H5=>if b=true then te τ1 H5 fun v H6=>Pn (acc++[v]) τ1 H6 else Pn acc τ1 H5)
  (hd:∀d,H d=none->Q (.ref d) (upd H d (.lst (nv (left.filter P))))):R (Itl K a) H:=by
 refine zT hR (xs:=nv left) (aX (by rw[fO];exact hz)) (fun i acc τ H'=>H'=H/\acc=nv ((left.take i).filter P)/\okT τ) ⟨rfl,rfl,h0⟩ ?_ ?_ ?_ ?_
 ·rintro i acc τ H' ⟨_,rfl,_⟩;rw[fO];exact le_trans (length_filter_le _ _) (List.length_take_le _ _)
 ·rintro i acc τ H' ⟨rfl,_,_⟩;exact SqL.of e
 ·rintro i x acc τ H' hx ⟨rfl,rfl,ht⟩;obtain⟨k,hk,rfl⟩:=K9 hx;refine hs i k τ _ (fun acc τ H1=>H1=H'/\acc=nv ((left.take (i+1)).filter P)/\okT τ) hk ht (fun hp τ1 h1=>⟨rfl,?_,h1⟩) (fun hp τ1 h1=>⟨rfl,?_,h1⟩)
  ·rw[xU hk,T8,if_pos hp];rfl
  rw[xU hk,if_neg (by rw[hp];decide),append_nil]
 rintro acc τ H' d ⟨rfl,rfl,_⟩ hdn;rw[take_of_length_le (by rw[fO];exact le_refl _)];exact hd d hdn
theorem Ck (xs:List V)(n:Nat)(h:n<=xs.length):lG xs (some (n:Int)) none=xs.drop n:=by
 unfold lG;have e1:HT.sIx xs.length 0 (some (n:Int))=n:=by
  simp only[HT.sIx];split
  ·omega
  omega
 have e2:HT.sIx xs.length xs.length none=xs.length:=by simp [HT.sIx]
 rw[e1,e2];exact take_of_length_le (by rw[length_drop];exact le_refl _)
theorem Iv {left:List Nat}{k:Nat}(h:left.Pairwise (· < ·)):lG (nv left) (some ((left.filter (· < k)).length:Int)) none=nv (left.filter (k<=·)):=by
 rw[Ck _ _ (by rw[fO];exact length_filter_le _ _),<- qX h];unfold nv;rw[map_drop]
theorem aH.dropLast {ok:Addr->Prop}{H:Hp}{xs:List V}{ds:List PyData}{d:PyData}(t:aH ok H xs (ds++[d])):aH ok H xs.dropLast ds/\∃y,xs[xs.length-1]?=some y/\aG ok H y d:=by
 have hl:=t.length;rw[length_append,length_singleton] at hl;constructor
 ·have:=t.take ds.length;rw[List.take_left,show xs.take ds.length=xs.dropLast by rw[List.dropLast_eq_take,hl,Nat.add_sub_cancel]] at this;exact this
 have hx:xs[xs.length-1]?=some xs[xs.length-1]:=getElem?_eq_getElem ω;obtain⟨d',hd,td⟩:=t.get hx;rw[hl,Nat.add_sub_cancel,getElem?_append_right (le_refl _),sub_self] at hd;cases hd;exact⟨_,hx,td⟩
noncomputable def JK:Sp:=fun vs H Q _=>∃(p:Addr)(B:Int),vs=[.ref p]/\aP H p B/\0<=B/\B<=900000 /\
 ∀(m:Int) H',aV p H H'->aP H' p (B+4)->1<=m->m<=59->Q (.int m) H'
theorem oH {K:PySem.W.Frag}{mp:List (Option Nat)}{g:TG}{tc:TT}{te:TE}{σ:St}{H:Hp}{Q:VK}{R:It->Hp->Prop}{a:Addr}{left:List Nat}(fI:Nat->Int)(okT:St->Prop)(hR:R=Nq mp g tc te σ Q)(e:H a=some (.lst (nv left)))(hz:left.length<=1000000)(h0:okT (qd mp σ))
  (hs:∀(i k:Nat) τ (acc:List V) (Pn:List V->St->Hp->Prop),left[i]?=some k->okT τ->(∀τ1,okT τ1->Pn (acc++[V.int (fI k)]) τ1 H)->g (.int (k:Int)) τ H fun τ1 H4=>tc τ1 H4 fun b H5=>if b=true then te τ1 H5 fun v H6=>Pn (acc++[v]) τ1 H6 else Pn acc τ1 H5)
  (hd:∀d,H d=none->Q (.ref d) (upd H d (.lst ((left.map fI).map V.int)))):R (Itl K a) H:=by
 refine zT hR (xs:=nv left) (aX (by rw[fO];exact hz)) (fun i acc τ H'=>H'=H/\acc=((left.take i).map fI).map V.int/\okT τ) ⟨rfl,rfl,h0⟩ ?_ ?_ ?_ ?_
 ·rintro i acc τ H' ⟨_,rfl,_⟩;rw[length_map,length_map];exact List.length_take_le _ _
 ·rintro i acc τ H' ⟨rfl,_,_⟩;exact SqL.of e
 ·rintro i x acc τ H' hx ⟨rfl,rfl,ht⟩;obtain⟨k,hk,rfl⟩:=K9 hx;refine hs i k τ _ (fun acc τ H1=>H1=H'/\acc=((left.take (i+1)).map fI).map V.int/\okT τ) hk ht (fun τ1 h1=>⟨rfl,?_,h1⟩);rw[take_snoc hk,map_append,map_append];rfl
 rintro acc τ H' d ⟨rfl,rfl,_⟩ hdn;rw[take_of_length_le (by rw[fO];exact le_refl _)];exact hd d hdn
theorem Lf.QV {ss:Sts}{left:List Nat}(lf:Lf ss left){P:Nat->Bool}(h:left.filter P≠[]):Lf ss (left.filter P):=
 ⟨h,fun k hk=>lf.lt k (mem_filter.mp hk).1,lf.up.filter _⟩
theorem Gn {left:List Nat}{P:Nat->Bool}{k:Nat}(h:k∈left)(hp:P k=false):(left.filter P).length<left.length:=
 List.length_filter_lt_length_iff_exists.mpr ⟨k,h,by rw[hp];decide⟩
theorem Cd (k:Nat):∀left:List Nat,(left.filter (· < k)).length+(left.filter (k<=·)).length=left.length
 | []=>rfl
 | a::left=>by
  have ih:=Cd k left;by_cases h:a<k
  ·rw[filter_cons_of_pos (by simpa using h),filter_cons_of_neg (by simpa using h),length_cons,length_cons];omega
  rw[filter_cons_of_neg (by simpa using h),filter_cons_of_pos (by simpa using h),length_cons,length_cons];omega
theorem lZ {α:Type}{a:α}{l:List α}(h:a∈l):l≠[]:=fun z=>by rw[z] at h;cases h
theorem Lf.rest {ss:Sts}{left:List Nat}(lf:Lf ss left)(h2:2<=left.length)(k:Nat):Lf ss (left.filter (·≠k)):=by
 refine lf.QV ?_
 match left,h2,lf with
 | a::b::l,_,lf=>
  have hab:a<b:=(pairwise_cons.mp lf.up).1 b mem_cons_self;by_cases c:a=k
  ·exact lZ (mem_filter.mpr ⟨mem_cons_of_mem _ mem_cons_self,by simp;omega⟩:b∈_)
  exact lZ (mem_filter.mpr ⟨mem_cons_self,by simpa using c⟩:a∈_)
theorem Lf.cuts {ss:Sts}{left:List Nat}(lf:Lf ss left){i k:Nat}(h:left[i+1]?=some k):k∈left/\Lf ss (left.filter (· < k))/\Lf ss (left.filter (k<=·)):=by
 have hm:=mem_of_getElem? h;refine⟨hm,lf.QV ?_,lf.QV (lZ (mem_filter.mpr ⟨hm,by simp⟩:k∈_))⟩
 match left,h,lf with
 | a::l,h,lf=>
  rw[getElem?_cons_succ] at h;have hak:a<k:=(pairwise_cons.mp lf.up).1 k (mem_of_getElem? h);exact lZ (mem_filter.mpr ⟨mem_cons_self,by simpa using hak⟩:a∈_)
theorem Rr {left:List Nat}{r:Int}(h0:0<=r)(h1:r<(left.length:Int)):∃k,left[r.toNat]?=some k/\k∈left/\atI (nv left) r=some (.int (k:Int)):=by
 obtain⟨i,rfl⟩:=eq_ofNat_of_zero_le h0;have hi:i<left.length:=ω;refine⟨left[i],by rw[toNat_natCast];exact getElem?_eq_getElem hi,getElem_mem hi,dw ?_⟩;unfold nv;rw[getElem?_map,getElem?_eq_getElem hi];rfl
theorem jZ (l:List Nat):(nv l).all gh=true:=by
 unfold nv;rw[all_map,all_eq_true];intro x _;rfl
theorem T7 {l:List Nat}(h:l≠[]):eqL (nv l) []=false:=by
 cases l with
 | nil=>exact absurd rfl h
 | cons a l=>rfl
theorem Oc (n:Nat):yM 0 n=nv (List.range n):=by
 unfold yM nv;apply List.map_congr_left;intro x _;simp
section
variable {X:Cx}{e o:Expr}{te to:TE}{pos:Pos}
noncomputable def Wo (xs:List V)(y:V)(n:Nat):Prop:=(∃(is:List Int)(i:Int),xs=is.map V.int/\y=.int i/\n=is.count i)\/(∃(ws:List Str)(w:Str),xs=ws.map V.str/\y=.str w/\n=ws.count w)
noncomputable def Ew (K:PySem.W.Frag)(to te:TE):TE:=fun σ H Q=>to σ H fun x H1=>∃(p:Addr),x=.ref p/\(∃xs,SqL K H1 p xs)/\te σ H1 fun y H2=>∃(xs:List V)(n:Nat),SqL K H2 p xs/\Wo xs y n/\Q (.int (n:Nat)) H2
theorem CQ {ws:List Int}{its:List Value}(r:Vals (ws.map V.int) its){i:Nat}{v:Value}(h:its[i]?=some v):∃w t,ws[i]?=some w/\v=Value.int w t:=by
 have hl:=r.length;rw[length_map] at hl;have hi:=(List.getElem?_eq_some_iff.mp h).1;have hx:(ws.map V.int)[i]?=some (V.int ws[i]):=by rw[getElem?_map,getElem?_eq_getElem ω];rfl
 obtain⟨u,hu,ru⟩:=r.get hx;rw[hu] at h;cases h;obtain⟨t,rfl⟩:=ru;exact⟨ws[i],t,getElem?_eq_getElem ω,rfl⟩
noncomputable def isI (w:Int):Value->Bool
 | .int z _=>z == w
 | _=>false
noncomputable def isS (w:Str):Value->Bool
 | .str z _=>z == w
 | _=>false
theorem cnt_ints (w:Int):∀{is:List Int}{its:List Value},Vals (is.map V.int) its->its.countP (isI w)=is.count w
 | [],_,.nil=>rfl
 | i::is,_,.cons r rs=>by
  obtain⟨t,rfl⟩:=r;rw[List.countP_cons,List.count_cons,cnt_ints w rs];rfl
theorem cnt_strs (w:Str):∀{is:List Str}{its:List Value},Vals (is.map V.str) its->its.countP (isS w)=is.count w
 | [],_,.nil=>rfl
 | i::is,_,.cons r rs=>by
  obtain⟨t,rfl⟩:=r;rw[List.countP_cons,List.count_cons,cnt_strs w rs];rfl
theorem Py {apos cpos:Pos}(hu:X.A.in1.units<cLine)(ho:PE X o to)(he:PE X e te)
  (hbase:attributeBase o "count" X.env (eval o X.env)=eval o X.env:=by rfl)
  (hfew:((backTo cpos (starEach [e] X.env)).all (fun x=>!x.1)&&(backToKw cpos (keywordEach [] X.env)).all (fun x=>x.1.isSome)
   && decide ([e].length+([]:List Keyword).length+(if ([]:List Keyword).isEmpty then 0 else 1)<30))=true:=by rfl)
  (hline:(apos.endLine == cpos.line)=true:=by rfl) (hs:starEach [e] X.env=(false,eval e X.env)::starEach [] X.env:=by rfl) (hplain:(backTo cpos (starEach [] X.env)).any (·.1)=false:=by rfl) :
  PE X (.Call (.Attribute o "count" apos) [e] [] cpos) (Ew X.K to te):=by
 intro pins s σ H Q I h;refine wpAny_Call_method_late hbase hfew hline rfl (thE (ho pins s σ H _ I h) fun v s1 x H1 I1 r1 q=>?_);obtain⟨p,rfl,⟨xs0,hq⟩,q⟩:=q;obtain⟨h1,h2⟩:=yp (T := "list") I1 r1 (.inl ⟨rfl,_,hq⟩);refine⟨"list","list.count",PySem.F.plainAttrs_list,PySem.F.slot_list_count,PySem.F.type_list_count,h1,h2,?_⟩;rw[hs];refine Calls.callWith_builtin (by show(false||(backTo cpos (starEach [] X.env)).any (·.1))=false;rw[hplain] <;> rfl) (Calls.evalArgs_plain ?_)
 refine Calls.spliced_cons (thn (he pins s1 σ H1 _ I1 q) fun u s2 ⟨y,H2,I2,r2,xs,n,hq2,hc,q3⟩=>Calls.spliced_nil ?_);cases r1;obtain⟨its,rv,pl,hz⟩:=I2.list hq2;obtain⟨ob,nn,eo,ec,ed,es⟩:=pl;cases ob with
 | mk cls dict data slots=>
  cases ec;cases es;rcases hc with⟨is,i,rfl,rfl,rfl⟩|⟨ws,w,rfl,rfl,rfl⟩
  ·obtain⟨t,rfl⟩:=r2;refine call_meets F.slot_list_count ⟨_,eo,rfl⟩ F.entry_list_count (F.args_list_count_2 _ _) (SeqAt.list_countAt p its.toArray nn _ _ _ (isI i)) ⟨eo,fun y hy=>?_,?_⟩
   ·have hy':y∈its:=by simpa using hy
    obtain⟨m,hm,em⟩:=mem_iff_getElem.mp hy';obtain⟨w',t',h1,h2⟩:=CQ rv (getElem?_eq_getElem hm);rw[em] at h2;rw[h2];exact SeqAt.EqAt.int_int w' t' i t
   rw[show its.toArray.toList=its from rfl,cnt_ints i rv];exact⟨.int (is.count i:Nat),H2,I2.tok _,⟨_,rfl⟩,q3⟩
  obtain⟨t,rfl⟩:=r2;refine call_meets F.slot_list_count ⟨_,eo,rfl⟩ F.entry_list_count (F.args_list_count_2 _ _) (SeqAt.list_countAt p its.toArray nn _ _ _ (isS w)) ⟨eo,fun y hy=>?_,?_⟩
  ·have hy':y∈its:=by simpa using hy
   obtain⟨m,hm,em⟩:=mem_iff_getElem.mp hy';obtain⟨w',t',h1,h2⟩:=CP rv (getElem?_eq_getElem hm);rw[em] at h2;rw[h2];exact SeqAt.EqAt.str_str w' t' w t
  rw[show its.toArray.toList=its from rfl,cnt_strs w rv];exact⟨.int (ws.count w:Nat),H2,I2.tok _,⟨_,rfl⟩,q3⟩
theorem uF (K:PySem.W.Frag){apos cpos:Pos}(hu:X.A.in1.units<cLine)(ho:QE X o to)(he:QE X e te)(hK:X.K=K:=by rfl)
  (hbase:attributeBase o "count" X.env (eval o X.env)=eval o X.env:=by rfl)
  (hfew:((backTo cpos (starEach [e] X.env)).all (fun x=>!x.1)&&(backToKw cpos (keywordEach [] X.env)).all (fun x=>x.1.isSome)
   && decide ([e].length+([]:List Keyword).length+(if ([]:List Keyword).isEmpty then 0 else 1)<30))=true:=by rfl)
  (hline:(apos.endLine == cpos.line)=true:=by rfl) (hs:starEach [e] X.env=(false,eval e X.env)::starEach [] X.env:=by rfl) (hplain:(backTo cpos (starEach [] X.env)).any (·.1)=false:=by rfl) :
  QE X (.Call (.Attribute o "count" apos) [e] [] cpos) (Ew K to te):=by
 subst hK;exact⟨Py hu ho.h he.h hbase hfew hline hs hplain⟩
end
noncomputable def lbl (ss:Sts)(k:Nat):Int:=(bU ss k).2.2
noncomputable def rG (ss:Sts):Pl->List Nat->List (List Nat×Pl)
 | .pick l,left=>[(left,.pick l)]
 | .tab,left=>[(left,.tab)]
 | .one k r,left=>(left,.one k r)::rG ss r (left.filter (·≠k))
 | .wit k r,left=>(left,.wit k r)::rG ss r (left.filter (·≠k))
 | .low k a b,left=>(left,.low k a b)::(rG ss b (left.filter (k<=·))++rG ss a (left.filter (· < k)))
 | .msk l r,left=>(left,.msk l r)::rG ss r (left.filter fun k=>(bU ss k).2.2≠l)
noncomputable def VL (ss:Sts)(left:List Nat):Pl->Prop
 | .pick l=>∀k∈left,lbl ss k=l
 | .tab=>iJ ss left<=200
 | .one k _=>k∈left/\(bU ss k).1=(bU ss k).2.1
 | .wit k _=>k∈left
 | .low k _ _=>k∈left
 | .msk l _=>iJ ss left<=64/\∃k∈left,lbl ss k=l
noncomputable def PlV (ss:Sts):Pl->List Nat->Prop
 | .pick l,left=>Lf ss left/\VL ss left (.pick l)
 | .tab,left=>Lf ss left/\VL ss left .tab
 | .one k r,left=>(Lf ss left/\VL ss left (.one k r))/\PlV ss r (left.filter (·≠k))
 | .wit k r,left=>(Lf ss left/\VL ss left (.wit k r))/\PlV ss r (left.filter (·≠k))
 | .low k a b,left=>(Lf ss left/\VL ss left (.low k a b))/\PlV ss a (left.filter (· < k))/\PlV ss b (left.filter (k<=·))
 | .msk l r,left=>(Lf ss left/\VL ss left (.msk l r))/\PlV ss r (left.filter fun k=>(bU ss k).2.2≠l)
noncomputable def oJ:Pl->Nat->List (Nat×Nat)
 | .pick _,_=>[]
 | .tab,_=>[]
 | .one _ r,p=>oJ r (p+1)
 | .wit _ r,p=>oJ r (p+1)
 | .msk _ r,p=>oJ r (p+1)
 | .low _ a b,p=>oJ b (p+1)++(p,p+1+j8 b)::oJ a (p+1+j8 b)
noncomputable def Uz:List Pl->List Nat->Nat->List (Nat×Nat)
 | [],_,_=>[]
 | c::rest,T,p=>oJ c p++(match T with | []=>[]|t::T'=>match rest with | []=>[]|_::_=>(t,p+j8 c)::Uz rest T' (p+j8 c))
noncomputable def slc (ws:List Int)(i j:Nat):List Int:=(ws.drop i).take (j-i)
inductive Tr:List Int->Int->Prop
 | leaf (w:Int):Tr [w] 0
 | node {a b:List Int} {x y:Int}:Tr a x->Tr b y->Tr (a++b) ((a++b).sum+(x+y))
inductive PTr (ss:Sts)(ws:List Int):Nat->Nat->Pl->Int->Prop
 | leaf {i:Nat}:i<ss.length->PTr ss ws i (i+1) (.pick (bU ss i).2.2) 0
 | node {i k j:Nat} {a b:Pl} {x y:Int}:i<k->k<j->PTr ss ws i k a x->PTr ss ws k j b y->PTr ss ws i j (.low k a b) ((slc ws i j).sum+(x+y))
theorem Ro {n:Nat}(h:n<=1000000):n<sizeLine:=Nat.lt_of_le_of_lt h δ
open PySem.W (Frag clsIn findIn takerIn InstAt looks_clsIn looks_findIn looks_takesIn Looks check_slot looks_mroIn mroIn set_plain osa_eq)
open Builtin Builtin.ObjectAttr
noncomputable def vbm:List Value:=[.type "ValueError",.type "Exception",.type "BaseException",.type "object"]
open PySem.W (Frag clsIn findIn takerIn InstAt looks_clsIn looks_findIn looks_takesIn Looks check_slot looks_mroIn mroIn handedIn handedOut_of)
structure XCls (K:PySem.W.Frag)(C D N fI:Addr):Prop where
 obj:∃nm q bs sn sub ab col dd k0 k1 k2 k3 k5,K.lookup C=some (excClassObj nm q C N bs (.ref D::vbm) true sn sub ab col dd k0 k1 k2 k3 k5 "ValueError.__new__")
 tail:PySem.W.tailIn K vbm (.ref D::vbm)=true
 nsok:PySem.W.nsOkIn K N=true
 init:nsIn K N "__init__" = some (some (.ref fI))
 set:PySem.W.findIn K (.ref C) "__setattr__" = some (some (.builtin "object.__setattr__"))
 ga:PySem.W.findIn K (.ref C) "__getattribute__" = some (some (.builtin "BaseException.__getattribute__"))
 gk:PySem.W.findIn K (.ref C) "__getattr__" = some none
noncomputable abbrev TJ:=St->Hp->(Hp->Prop)->Prop
open PySem.W (Frag clsIn findIn takerIn InstAt looks_clsIn looks_findIn looks_takesIn looks_specialIn specialIn takesIn Looks check_slot looks_mroIn mroIn handedIn handedOut_of class_get KitX)
open Builtin
mutual
noncomputable def noL:PyData->Bool
 | .list _=>false
 | .tuple ds=>Vv ds
 | _=>true
noncomputable def Vv:List PyData->Bool
 | []=>true
 | d::ds=>noL d&&Vv ds
end
noncomputable def Uu:Pl->Bool
 | .pick _=>true
 | .tab=>true
 | _=>false
noncomputable def VJ (ss:Sts)(C:List (List Nat×Pl)):List (List Nat×Pl):=(C.map fun x=>rG ss x.2 x.1).flatten
noncomputable def Lx (S:List (List Nat×Pl)):Nat->Bool
 | 0=>false
 | i+1=>match S[i]? with
  | some x=>Uu x.2
  | none=>false
structure AhSt (ss:Sts)(S:List (List Nat×Pl))(tot:List (Nat×Nat))(i:Nat)(C:List (List Nat×Pl))(T:List Nat)(done:List (Nat×Nat)):Prop where
 fl:S.drop i=VJ ss C
 no:Lx S i=false->T.length+1=C.length/\tot=done++Uz (C.map (·.2)) T i
 yes:Lx S i=true->T.length=C.length/\((C=[]/\tot=done)\/∃t T',T=t::T'/\tot=done++(t,i)::Uz (C.map (·.2)) T' i)
noncomputable def Dg:Sp:=fun vs H Q _=>∃(s l:V)(ok:Addr->Prop)(ss:Sts)(left:List Nat),vs=[s,l]/\aG ok H s (.list (ss.map stD))/\aG ok H l (lA left)/\Lf ss left /\
 ∀(a:Addr),H a=none->Q (.ref a) (upd H a (.lst ((left.map (lbl ss)).map V.int)))
noncomputable def JG:Sp:=fun vs H Q _=>∃(p:Addr)(m B:Int),vs=[.ref p,.int m]/\aP H p B/\0<=B/\B<=900000/\1<=m/\m<=60 /\
 ∀(l:Addr)(ss:Sts) H',aV p H H'->aP H' p (B+2000)->aG (·≠p) H' (.ref l) (.list (ss.map stD))->(ss.length:Int)=m->wX ss->(∀s,ss[0]?=some s->s.1<=10^9)->Q (.ref l) H'
noncomputable def nO (n:Nat):Sp:=fun vs H Q _=>∃(p:Addr)(s l:V)(B:Int)(ss:Sts)(left:List Nat),vs=[.ref p,s,l]/\aP H p B/\0<=B/\B+12*(left.length:Int)<=900000/\aG (·≠p) H s (.list (ss.map stD))/\aG (·≠p) H l (lA left)/\Lf ss left/\left.length<=n/\left.length<=60 /\
 ∀(v:V)(pl:Pl) H',aV p H H'->aP H' p (B+12*(left.length:Int)-6)->aG (·≠p) H' v (plD pl)->PlV ss pl left->mX pl<left.length->j8 pl+1<=2*left.length->Q v H'
theorem ln1 {α:Type}{us:List α}(h:us.length=1):∃a,us=[a]:=by
 cases us with
 | nil=>cases h
 | cons a r=>
  cases r with
  | nil=>exact⟨a,rfl⟩
  | cons b r=>cases h
theorem ln2 {α:Type}{us:List α}(h:us.length=2):∃a0 a1,us=[a0,a1]:=by
 cases us with
 | nil=>cases h
 | cons a0 r=>
  obtain⟨a1,rfl⟩:=ln1 (Nat.succ.inj h);exact⟨a0,a1,rfl⟩
theorem ln3 {α:Type}{us:List α}(h:us.length=3):∃a0 a1 a2,us=[a0,a1,a2]:=by
 cases us with
 | nil=>cases h
 | cons a0 r=>
  obtain⟨a1,a2,rfl⟩:=ln2 (Nat.succ.inj h);exact⟨a0,a1,a2,rfl⟩
theorem ln4 {α:Type}{us:List α}(h:us.length=4):∃a0 a1 a2 a3,us=[a0,a1,a2,a3]:=by
 cases us with
 | nil=>cases h
 | cons a0 r=>
  obtain⟨a1,a2,a3,rfl⟩:=ln3 (Nat.succ.inj h);exact⟨a0,a1,a2,a3,rfl⟩
noncomputable def tV (i:Nat):TE:=fun σ H Q=>match σ[i]? with
 | some (some x)=>Q x H
 | _=>False
theorem Rn {i:Nat}{σ:St}{H:Hp}{Q:VK}(h:tV i σ H Q):G3 i σ H Q:=by
 unfold tV at h;split at h
 ·rename_i x e;exact⟨x,e,h⟩
 exact h.elim
section
variable {X:Cx}{i:Nat}{x:Str}{pos:Pos}
theorem ao (h:Nm X.N X.env.scope i x):QE X (.Name x pos) (tV i):=⟨fun pins s σ H Q I q=>(Wg h).h pins s σ H Q I (Rn q)⟩
theorem bT (i:Nat) {x:Str}{pos:Pos}(hN:X.N[i]?=some x:=by rfl) (hv:Vis X.env.scope x:=by first|exact Or.inl rfl|exact Or.inr (Or.inl rfl)|exact Or.inr (Or.inr rfl)) (hd:(x == ("__debug__" : Str))=false:=by decide)
  (hcd:(x == ("__classdict__" : Str))=false:=by decide):QE X (.Name x pos) (tV i):=⟨fun pins s σ H Q I q=>(Wf i hN hv hd hcd).h pins s σ H Q I (Rn q)⟩
end
noncomputable def atq (o:Option V)(H:Hp)(Q:VK):Prop:=∃v,o=some v/\Q v H
theorem Nb (v:V)(H:Hp)(Q:VK):atq (some v) H Q=Q v H:=propext ⟨fun⟨_,e,h⟩=>by cases e;exact h,fun h=>⟨v,rfl,h⟩⟩
theorem LQ (xs:List V)(i:Int)(H:Hp)(Q:VK):ixq (some (.lst xs)) i H Q=atq (atI xs i) H Q:=rfl
theorem LK (xs:List V)(i:Int)(H:Hp)(Q:VK):ixq (some (.tup xs)) i H Q=atq (atI xs i) H Q:=rfl
theorem UJ {b:Bool}{P:Bool->Prop}:(∃k,V.bl b=V.bl k/\P k)=P b:=propext ⟨fun⟨_,e,h⟩=>by cases e;exact h,fun h=>⟨b,rfl,h⟩⟩
theorem Q0 {a:Int}{P:Int->Prop}:(∃k,V.int a=V.int k/\P k)=P a:=propext ⟨fun⟨_,e,h⟩=>by cases e;exact h,fun h=>⟨a,rfl,h⟩⟩
theorem QZ {a b:Int}{P:Int->Int->Prop}:(∃i j,V.int a=V.int i/\V.int b=V.int j/\P i j)=P a b:=propext ⟨fun⟨_,_,e,f,h⟩=>by cases e;cases f;exact h,fun h=>⟨a,b,rfl,rfl,h⟩⟩
theorem QX {a b:V}{P:V->V->Prop}:(∃i j,[a,b]=[i,j]/\P i j)=P a b:=propext ⟨fun⟨_,_,e,h⟩=>by cases e;exact h,fun h=>⟨a,b,rfl,h⟩⟩
theorem VR {α:Type}(a b c d:α)(l:List α):atI (a::b::c::d::l) 3=some d:=dw (j:=3) rfl
noncomputable def ry0:=And.intro @G5.eq_1 (And.intro @G6.eq_1 (And.intro @oY.eq_1 (And.intro @tOp.eq_1 (And.intro @rI.eq_1 (And.intro @rI0.eq_1 (And.intro @rU.eq_1 (And.intro @tUn.eq_1 (And.intro @tC.eq_1 (And.intro @CZ.eq_1 (And.intro @Ai.eq_1 (And.intro @mJ.eq_1 (And.intro @jl.eq_1 (And.intro @rE.eq_1 (And.intro @tCB.eq_1 (And.intro @tIf.eq_1 (And.intro @Jw.eq_1 (And.intro @tB.eq_1 (And.intro @JD.eq_1 (And.intro @Jv.eq_1 (And.intro @Aj.eq_1 (And.intro @G4.eq_1 (And.intro @tU.eq_1 (And.intro @j4.eq_1 (And.intro @Mq.eq_1 (And.intro @Il (And.intro @QL (And.intro @J1 (And.intro @J3 (And.intro @RD.eq_1 (And.intro @QM @Ux))))))))))))))))))))))))))))))
noncomputable def ry1:=And.intro @Az (And.intro @Hf (And.intro @Hi (And.intro @Og (And.intro @LQ (And.intro @LK (And.intro @NP (And.intro @Qn (And.intro @Qm (And.intro Ma.1 (And.intro Ma.2.1 (And.intro Ma.2.2 (And.intro @V1 (And.intro @GD (And.intro @V0 (And.intro @aB (And.intro @J9 (And.intro @J7 (And.intro @Uv (And.intro @Qs (And.intro @LC (And.intro @Uo (And.intro @Um (And.intro @kc_bool (And.intro @ty_int (And.intro @U8 (And.intro @ty_str (And.intro @Ry (And.intro @Rx (And.intro @Nt (And.intro @Nr (And.intro @rO (And.intro @tZ (And.intro @tY (And.intro @rN (And.intro @qu (And.intro @yL (And.intro @Ax @Aw)))))))))))))))))))))))))))))))))))))
noncomputable def ry2:=And.intro @yK (And.intro @wu (And.intro @Av (And.intro @Dl (And.intro @Dk (And.intro @Ar (And.intro @yJ (And.intro @Am (And.intro @Dj (And.intro @Di (And.intro @Al (And.intro @yG (And.intro @yI (And.intro @Aq (And.intro @Ao (And.intro @yH (And.intro @wk (And.intro @wj (And.intro @yF (And.intro @yE (And.intro @wg (And.intro @uV (And.intro @Bool.or_false (And.intro @Bool.or_self (And.intro @Bool.or_true (And.intro @Bool.not_true (And.intro @Bool.not_false (And.intro @false_eq_true (And.intro @decide_true (And.intro @Jz.eq_1 (And.intro @rEq.eq_1 (And.intro @rNe.eq_1 @Ot)))))))))))))))))))))))))))))))
noncomputable def ry3:=And.intro @R7 (And.intro @R8 (And.intro @R9 (And.intro @R6 (And.intro @Qj (And.intro @Sg (And.intro @VD (And.intro @VB (And.intro @RK.eq_1 (And.intro @uO.eq_1 (And.intro @JR (And.intro @N6 (And.intro @JQ (And.intro @Jl.eq_1 (And.intro @U6.eq_1 (And.intro @Rw.eq_1 (And.intro @L2.start.eq_1 (And.intro @map_cons.{0,0} (And.intro @map_nil.{0,0} (And.intro @length_cons.{0} (And.intro @length_nil.{0} (And.intro @cons_append.{0} (And.intro @nil_append.{0} (And.intro @replicate_succ.{0} (And.intro @List.replicate_zero.{0} (And.intro @append_nil.{0} (And.intro @List.getElem?_cons_zero.{0} @getElem?_cons_succ.{0}))))))))))))))))))))))))))
noncomputable def ry4:=And.intro @set_cons_zero.{0} (And.intro @set_cons_succ.{0} (And.intro @sub_self (And.intro @Option.some.injEq.{0} (And.intro @exists_eq_left'.{1} (And.intro @V.int.injEq (And.intro @V.str.injEq (And.intro @V.bl.injEq (And.intro @V.ref.injEq (And.intro @List.cons.injEq.{0} (And.intro @and_true (And.intro @true_and (And.intro @exists_and_left.{1} (And.intro @decide_eq_true_eq (And.intro @JB (And.intro @Nj (And.intro @uH (And.intro @Rh (And.intro @Ay (And.intro @Fj (And.intro @NZ (And.intro @tSl.eq_1 (And.intro @nM.eq_1 @uM.eq_1))))))))))))))))))))))
noncomputable def ry5:=And.intro @Od (And.intro @Oj (And.intro @Oi (And.intro @BJ (And.intro @Gi (And.intro @Qv (And.intro @Gh (And.intro @Nz (And.intro @Jp (And.intro @Jr (And.intro @Nv (And.intro @Jq (And.intro @Ny (And.intro @Nx (And.intro @Jt (And.intro @O6 (And.intro @O5 @Dc.eq_1))))))))))))))))
noncomputable def ry6:=And.intro @VR (And.intro @Nb (And.intro @UJ (And.intro @Q0 (And.intro @QZ @QX))))
noncomputable def rdy:=And.intro ry0 (And.intro ry1 (And.intro ry2 (And.intro ry3 (And.intro ry4 (And.intro ry5 (And.intro ry6 @tV.eq_1))))))
theorem dm {K:PySem.W.Frag}{h:Heap}{mg:Str->Option Value}{x:Str}{st:Stmt}{ps:List Str}{f:Addr}{oc:Value}{od an:Option Addr}{osl:Array (Option Value)}{kV doc pm cdv ct:Value}(X:K.In h)(G:h.Ns mainGlobals mg)(a:nsIn K mainGlobals x=some (some (.ref f)))
  (l:K.lookup f=some ⟨oc,od,.func (fnOf x x (bC st) (bf st) (ak st) .none kV doc pm an cdv ct),osl⟩) (c:codeIn K cdv x=true) (k:keepIn K (.ref f)=true)
  (hb:∀(kV doc pm:Value)(an:Option Addr)(cdv ct:Value)(us:List Value),us.length=ps.length->bindArgs (fnOf x x (bC st) (bf st) (ak st) .none kV doc pm an cdv ct) ⟨us,[]⟩=pure (ps.zip us)):U5 K mg x st ps f (fnOf x x (bC st) (bf st) (ak st) .none kV doc pm an cdv ct):=
 ⟨Mt (st:=st) l c k,(Mt (st:=st) l c k).binds hb,mg_of X G a⟩
end L2
set_option maxHeartbeats 4100000
namespace SRT
open PySem PyProof.Rows
end SRT
namespace SRT
open PySem PyProof.Rows
end SRT
namespace SRT
open PySem PyProof.Rows
noncomputable abbrev bt (w:World):Bool:=w.params.followText "set-order"
end SRT
namespace SRT
open PySem PyProof.Rows
end SRT
namespace SRT
open PySem PyProof.Rows
end SRT
namespace SRT
open PySem PyProof.Rows
end SRT
namespace SRT
open PySem PyProof.Rows
end SRT
namespace SRT
open PySem PyProof.Rows
end SRT
namespace SRT
open PySem PyProof.Rows
end SRT
namespace SRT
open PySem PyProof.Rows
section
variable {prog:Program}{w:World}{s:Shared}{A:Around}{E:Value->Shared->Prop}{a₀:Array Keyed}
structure MB (a₀:Array Keyed)(st:SortSt):Prop where
 kind:kindOf st=oneType'
 perm:(arrOf st).toList.Perm a₀.toList
 fail:failedOf st=none
end
end SRT
namespace SRT
open PySem PyProof.Rows
end SRT
namespace SRT
open PySem PyProof.Rows
end SRT
namespace SRT
open PySem PyProof.Rows
end SRT
namespace SRT
open PySem PyProof.Rows
end SRT
set_option maxHeartbeats 4000000
namespace L2
open PySem PySem.Spec PyProof.Rows
noncomputable def gj (ss:Sts)(left:List Nat)(l:Int):Nat:=(left.map (lbl ss)).count l
noncomputable def stepOk (ss:Sts)(left:List Nat):Pl->Bool
 | .tab=>decide (iJ ss left<=200)
 | .pick l=>decide (gj ss left l=left.length)
 | .low k _ _=>(left.drop 1).contains k
 | .msk l _=>(decide (0<gj ss left l)&&decide (gj ss left l<left.length))&&decide (iJ ss left<=64)
 | .one k _=>(left.contains k&&decide (left.length≠1))&&decide ((bU ss k).1=(bU ss k).2.1)
 | .wit k _=>left.contains k&&decide (left.length≠1)
theorem Gm {left:List Nat}{k:Nat}(hk:k∈left)(hu:left.Pairwise (· < ·))(h1:left.length≠1):left.filter (·≠k)≠[]:=by
 intro e;have all:∀x∈left,x=k:=fun x hx=>by
  rcases Decidable.em (x=k) with h|h
  ·exact h
  have:x∈left.filter (·≠k):=mem_filter.mpr ⟨hx,by simpa using h⟩;rw[e] at this;cases this
 cases left with
 | nil=>cases hk
 | cons a r=>
  cases r with
  | nil=>exact h1 rfl
  | cons b r=>
   have h2:=(pairwise_cons.mp hu).1 b (mem_cons_self ..);have h3:=all a (mem_cons_self ..);have h4:=all b (mem_cons_of_mem _ (mem_cons_self ..));omega
theorem G7 {ss:Sts}{left:List Nat}{p:Pl}(lf:Lf ss left)(h:stepOk ss left p=true):∀x∈kids ss p left,Lf ss x.1:=by
 have mk:∀q:Nat->Bool,left.filter q≠[]->Lf ss (left.filter q):=fun q hq=>⟨hq,fun k hk=>lf.lt k (mem_filter.mp hk).1,lf.up.sublist (List.filter_sublist ..)⟩;intro x hx;cases p with
 | tab=>cases hx
 | pick l=>cases hx
 | one k r=>
  simp only[kids,mem_singleton] at hx;subst hx;simp only[stepOk,and_eq_true,contains_iff_mem,decide_eq_true_eq] at h;exact mk _ (Gm h.1.1 lf.up h.1.2)
 | wit k r=>
  simp only[kids,mem_singleton] at hx;subst hx;simp only[stepOk,and_eq_true,contains_iff_mem,decide_eq_true_eq] at h;exact mk _ (Gm h.1 lf.up h.2)
 | msk l r=>
  simp only[kids,mem_singleton] at hx;subst hx;simp only[stepOk,and_eq_true,decide_eq_true_eq] at h;refine mk _ fun e=>?_;have:gj ss left l=left.length:=by
   unfold gj;have e2:∀y∈left.map (lbl ss),l=y:=fun y hy=>by
    obtain⟨k,hk,rfl⟩:=mem_map.mp hy;rcases Decidable.em ((bU ss k).2.2=l) with h|h
    ·exact h.symm
    have:k∈left.filter fun k=>decide ((bU ss k).2.2≠l):=mem_filter.mpr ⟨hk,by simpa using h⟩;rw[e] at this;cases this
   rw[List.count_eq_length.mpr e2,length_map]
  omega
 | low k a b=>
  simp only[stepOk,contains_iff_mem] at h;have hk:k∈left:=List.mem_of_mem_drop h;simp only[kids,mem_cons,not_mem_nil,or_false] at hx;rcases hx with rfl|rfl
  ·refine mk _ fun e=>?_;cases left with
   | nil=>cases hk
   | cons c r=>
    have h2:=(pairwise_cons.mp lf.up).1 k (by simpa using h);have:c∈(c::r).filter (fun x=>decide (x<k)):=mem_filter.mpr ⟨mem_cons_self ..,by simpa using h2⟩;rw[e] at this;cases this
  refine mk _ fun e=>?_;have:k∈left.filter (fun x=>decide (k<=x)):=mem_filter.mpr ⟨hk,by simp⟩;rw[e] at this;cases this
noncomputable def Fd:Sp:=fun vs H Q _=>∃(s l:V)(ok:Addr->Prop)(ss:Sts)(left:List Nat)(m:Int),vs=[s,l,.int m]/\aG ok H s (.list (ss.map stD))/\aG ok H l (lA left)/\Lf ss left/\left.length<=1000000 /\
 ∀H',Same H H'->Q (.bl (decide (0<gj ss left m)&&decide (gj ss left m<left.length))) H'
inductive Pg where
 | pick (l:Int)
 | one (k:Nat) (r:Pg)
 | wit (k:Nat) (r:Pg)
 | low (k:Nat) (a b:Pg)
 | msk (l:Int) (r:Pg)
 | tab
 | odd (d:PyData)
noncomputable def pgD:Pg->PyData
 | .pick l=>.tuple [.str "pick",.int l]
 | .one k r=>.tuple [.str "is",.int (k:Int),pgD r]
 | .wit k r=>.tuple [.str "within",.int (k:Int),pgD r]
 | .low k a b=>.tuple [.str "below",.int (k:Int),pgD a,pgD b]
 | .msk l r=>.tuple [.str "mask",.int l,pgD r]
 | .tab=>.tuple [.str "table"]
 | .odd d=>d
noncomputable def gC:Pg->Nat
 | .pick _=>0
 | .one _ r=>gC r+1
 | .wit _ r=>gC r+1
 | .low _ a b=>max (gC a) (gC b)+1
 | .msk _ r=>gC r+1
 | .tab=>0
 | .odd _=>0
noncomputable def iy:Pg->Nat
 | .pick _=>1
 | .one _ r=>iy r+1
 | .wit _ r=>iy r+1
 | .low _ a b=>iy a+iy b+1
 | .msk _ r=>iy r+1
 | .tab=>1
 | .odd _=>1
structure Np (d:PyData):Prop where
 tab:d≠.tuple [.str "table"]
 pick:∀l,d≠.tuple [.str "pick",.int l]
 one:∀(k:Nat) r,d≠.tuple [.str "is",.int (k:Int),r]
 wit:∀(k:Nat) r,d≠.tuple [.str "within",.int (k:Int),r]
 low:∀(k:Nat) a b,d≠.tuple [.str "below",.int (k:Int),a,b]
 msk:∀l r,d≠.tuple [.str "mask",.int l,r]
noncomputable def WfG:Pg->Prop
 | .pick _=>True
 | .one _ r=>WfG r
 | .wit _ r=>WfG r
 | .low _ a b=>WfG a/\WfG b
 | .msk _ r=>WfG r
 | .tab=>True
 | .odd d=>Np d
noncomputable def lH:PyData->Pg
 | .tuple [.str w]=>if w = "table" then .tab else .odd (.tuple [.str w])
 | .tuple [.str w,.int l]=>if w = "pick" then .pick l else .odd (.tuple [.str w,.int l])
 | .tuple [.str w,.int l,r]=>if w = "mask" then .msk l (lH r) else if w = "is" /\ 0<=l then .one l.toNat (lH r) else if w = "within" /\ 0<=l then .wit l.toNat (lH r) else .odd (.tuple [.str w,.int l,r])
 | .tuple [.str w,.int l,a,b]=>if w = "below" /\ 0<=l then .low l.toNat (lH a) (lH b) else .odd (.tuple [.str w,.int l,a,b])
 | d=>.odd d
theorem pA (d:PyData):pgD (lH d)=d:=by
 fun_induction lH d with
 | case1=>rfl
 | case2 w h=>rfl
 | case3 l=>rfl
 | case4 w l h=>rfl
 | case5 l r ih=>rw[pgD,ih]
 | case6 w l r h1 h ih=>obtain⟨rfl,h0⟩:=h;rw[pgD,ih,Int.toNat_of_nonneg h0]
 | case7 w l r h1 h2 h ih=>obtain⟨rfl,h0⟩:=h;rw[pgD,ih,Int.toNat_of_nonneg h0]
 | case8 w l r h1 h2 h3=>rfl
 | case9 w l a b h ih1 ih2=>obtain⟨rfl,h0⟩:=h;rw[pgD,ih1,ih2,Int.toNat_of_nonneg h0]
 | case10 w l a b h=>rfl
 | case11 d _ _ _ _=>rfl
theorem uw (d:PyData):WfG (lH d):=by
 fun_induction lH d with
 | case1=>trivial
 | case2 w h=>
  refine⟨fun z=>?_,fun l z=>?_,fun k r z=>?_,fun k r z=>?_,fun k a b z=>?_,fun l r z=>?_⟩ <;> simp at z
  exact h z
 | case3 l=>trivial
 | case4 w l h=>
  refine⟨fun z=>?_,fun l z=>?_,fun k r z=>?_,fun k r z=>?_,fun k a b z=>?_,fun l r z=>?_⟩ <;> simp at z
  exact h z.1
 | case5 l r ih=>exact ih
 | case6 w l r h1 h ih=>exact ih
 | case7 w l r h1 h2 h ih=>exact ih
 | case8 w l r h1 h2 h3=>
  refine⟨fun z=>?_,fun l z=>?_,fun k r z=>?_,fun k r z=>?_,fun k a b z=>?_,fun l r z=>?_⟩ <;> simp at z
  ·exact h2 ⟨z.1,ω⟩
  ·exact h3 ⟨z.1,ω⟩
  exact h1 z.1
 | case9 w l a b h ih1 ih2=>exact⟨ih1,ih2⟩
 | case10 w l a b h=>
  refine⟨fun z=>?_,fun l z=>?_,fun k r z=>?_,fun k r z=>?_,fun k a b z=>?_,fun l r z=>?_⟩ <;> simp at z
  exact h ⟨z.1,ω⟩
 | case11 d h1 h2 h3 h4=>exact⟨fun z=>h1 _ z,fun l z=>h2 _ _ z,fun k r z=>h3 _ _ _ z,fun k r z=>h3 _ _ _ z,fun k a b z=>h4 _ _ _ _ z,fun l r z=>h3 _ _ _ z⟩
noncomputable def fZ (ss:Sts):Pg->List Nat->List (List Nat×Pg)
 | .pick _,_=>[]
 | .tab,_=>[]
 | .one k r,left=>[(left.filter (·≠k),r)]
 | .wit k r,left=>[(left.filter (·≠k),r)]
 | .low k a b,left=>[(left.filter (· < k),a),(left.filter (k<=·),b)]
 | .msk l r,left=>[(left.filter fun k=>(bU ss k).2.2≠l,r)]
 | .odd _,_=>[]
noncomputable def dW (ss:Sts)(left:List Nat):Pg->Bool
 | .tab=>decide (iJ ss left<=200)
 | .pick l=>decide (gj ss left l=left.length)
 | .low k _ _=>(left.drop 1).contains k
 | .msk l _=>(decide (0<gj ss left l)&&decide (gj ss left l<left.length))&&decide (iJ ss left<=64)
 | .one k _=>(left.contains k&&decide (left.length≠1))&&decide ((bU ss k).1=(bU ss k).2.1)
 | .wit k _=>left.contains k&&decide (left.length≠1)
 | .odd _=>false
noncomputable def okG (ss:Sts):Pg->List Nat->Bool
 | .tab,left=>dW ss left .tab
 | .pick l,left=>dW ss left (.pick l)
 | .low k a b,left=>dW ss left (.low k a b)&&(okG ss a (left.filter (· < k))&&okG ss b (left.filter (k<=·)))
 | .msk l r,left=>dW ss left (.msk l r)&&okG ss r (left.filter fun k=>(bU ss k).2.2≠l)
 | .one k r,left=>dW ss left (.one k r)&&okG ss r (left.filter (·≠k))
 | .wit k r,left=>dW ss left (.wit k r)&&okG ss r (left.filter (·≠k))
 | .odd _,_=>false
theorem Bk (ss:Sts)(p:Pg)(left:List Nat):okG ss p left=(dW ss left p&&(fZ ss p left).all fun x=>okG ss x.2 x.1):=by
 cases p with
 | tab=>simp [okG,fZ]
 | pick l=>simp [okG,fZ]
 | one k r=>simp [okG,fZ]
 | wit k r=>simp [okG,fZ]
 | msk l r=>simp [okG,fZ]
 | low k a b=>simp [okG,fZ]
 | odd d=>simp [okG,fZ,dW]
noncomputable def VF:Pg->Option Pl
 | .pick l=>some (.pick l)
 | .one k _=>some (.one k .tab)
 | .wit k _=>some (.wit k .tab)
 | .low k _ _=>some (.low k .tab .tab)
 | .msk l _=>some (.msk l .tab)
 | .tab=>some .tab
 | .odd _=>none
theorem Ik {ss:Sts}{left:List Nat}{p:Pg}{q:Pl}(h:VF p=some q):dW ss left p=stepOk ss left q/\(fZ ss p left).map (·.1)=(kids ss q left).map (·.1):=by
 cases p <;> cases h <;> exact⟨rfl,rfl⟩
theorem jQ {ss:Sts}{left:List Nat}{p:Pg}(lf:Lf ss left)(h:dW ss left p=true):∀x∈fZ ss p left,Lf ss x.1:=by
 cases hq:VF p with
 | none=>
  cases p <;> cases hq
  cases h
 | some q=>
  obtain⟨h1,h2⟩:=Ik (ss:=ss) (left:=left) hq;rw[h1] at h;intro x hx;have hm:x.1∈(kids ss q left).map (·.1):=by
   rw[<- h2];exact List.mem_map_of_mem hx
  obtain⟨y,hy,e⟩:=mem_map.mp hm;rw[<- e];exact G7 lf h y hy
theorem WfG.kids {ss:Sts}{left:List Nat}{p:Pg}(h:WfG p):∀x∈fZ ss p left,WfG x.2:=by
 intro x hx;cases p with
 | pick l=>cases hx
 | tab=>cases hx
 | odd d=>cases hx
 | one k r=>rw[mem_singleton.mp hx];exact h
 | wit k r=>rw[mem_singleton.mp hx];exact h
 | msk l r=>rw[mem_singleton.mp hx];exact h
 | low k a b=>
  rcases mem_cons.mp hx with rfl|hx
  ·exact h.1
  rw[mem_singleton.mp hx];exact h.2
noncomputable def gZ (W:List (List Nat×Pg)):Nat:=(W.map fun x=>iy x.2).sum
theorem oF (A B:List (List Nat×Pg)):gZ (A++B)=gZ A+gZ B:=by
 unfold gZ;rw[map_append,List.sum_append]
theorem xR (ss:Sts)(p:Pg)(left:List Nat):gZ (fZ ss p left)<iy p:=by
 cases p <;> simp [gZ,fZ,iy]
theorem Mp (W:List (List Nat×Pg)):W.length<=gZ W:=by
 induction W with
 | nil=>exact le_refl _
 | cons x W ih=>
  have h1:1<=iy x.2:=by cases x.2 <;> simp [iy]
  have h2:gZ (x::W)=iy x.2+gZ W:=by simp [gZ]
  rw[length_cons,h2];omega
noncomputable def gwD (x:List Nat×Pg):PyData:=.tuple [lA x.1,pgD x.2]
noncomputable def EY:Sp:=fun vs H Q _=>∃(s l p:V)(ok:Addr->Prop)(ss:Sts)(left:List Nat)(pl:Pg),vs=[s,l,p]/\aG ok H s (.list (ss.map stD))/\aG ok H l (lA left)/\aG ok H p (pgD pl)/\WfG pl/\Lf ss left /\
 ∀H',Same H H'->Q (.bl (dW ss left pl)) H'
noncomputable def Fg:Sp:=fun vs H Q _=>∃(s l p:V)(ok:Addr->Prop)(ss:Sts)(left:List Nat)(pl:Pg),vs=[s,l,p]/\cY ok H/\aG ok H s (.list (ss.map stD))/\aG ok H l (lA left)/\aG ok H p (pgD pl)/\dW ss left pl=true/\Lf ss left /\
 ∀v H',Same H H'->aG ok H' v (.list ((fZ ss pl left).map gwD))->Q v H'
noncomputable def nQ:Sp:=fun vs H Q _=>∃(s p:V)(ok:Addr->Prop)(ss:Sts)(pl:Pg),vs=[s,p]/\cY ok H/\aG ok H s (.list (ss.map stD))/\aG ok H p (pgD pl)/\WfG pl/\0<ss.length/\ss.length<=100/\iy pl<=4000 /\
 ∀H',Same H H'->Q (.bl (okG ss pl (List.range ss.length))) H'
noncomputable def jd (n:Nat):Sp:=fun vs H Q _=>∃(s l p:V)(ok:Addr->Prop)(ss:Sts)(left:List Nat)(pl:Pg),vs=[s,l,p]/\cY ok H/\aG ok H s (.list (ss.map stD))/\aG ok H l (lA left)/\aG ok H p (pgD pl)/\WfG pl/\Lf ss left/\gC pl<n /\
 ∀H',Same H H'->Q (.bl (okG ss pl left)) H'
theorem oA {i:Int}(h:i<0):∀left:List Nat,inV (V.int i) (nv left)=false
 | []=>rfl
 | k::left=>by
  have ih:=oA h left;unfold inV nv at ih |-;rw[map_cons,any_cons,ih,Bool.or_false];exact decide_eq_false ω
theorem pL (k:Nat)(left:List Nat):inV (V.int (k:Int)) (nv left)=left.contains k:=Qy k left
noncomputable def jc (ss:Sts)(left:List Nat)(d0:PyData)(ds:List PyData):Bool:=
 if dj d0 "table" = true then ds.isEmpty&&decide (iJ ss left<=200)
 else match ds with
  | .int i::es=>
   if dj d0 "pick" = true then es.isEmpty&&decide (gj ss left i=left.length)
   else if dj d0 "below" = true then decide (es.length=2)&&inV (V.int i) (nv (left.drop 1))
   else if es.length≠1 then false
   else if dj d0 "mask" = true then (decide (0<gj ss left i)&&decide (gj ss left i<left.length))&&decide (iJ ss left<=64)
   else if inV (V.int i) (nv left)=false\/left.length=1 then false
   else if dj d0 "is" = true then decide ((bU ss i.toNat).1=(bU ss i.toNat).2.1)
   else dj d0 "within"
  | _=>false
noncomputable def stepT (ss:Sts)(left:List Nat):PyData->Bool
 | .tuple (d0::ds)=>jc ss left d0 ds
 | _=>false
theorem pF {a b:Str}(h:a≠b):¬dj (.str a) b=true:=fun z=>h (of_decide_eq_true z)
theorem Hj (a:Str):dj (.str a) a=true:=decide_eq_true rfl
theorem K8 {ss:Sts}{left:List Nat}{d:PyData}(wf:Np d):stepT ss left d=false:=by
 cases d with
 | tuple ds=>
  cases ds with
  | nil=>rfl
  | cons d0 ds=>
   show jc ss left d0 ds=false;unfold jc;split
   ·rename_i h;obtain rfl:=jD h;cases ds with
    | nil=>exact absurd rfl wf.tab
    | cons _ _=>rfl
   split
   ·rename_i _ i es;split
    ·rename_i h;obtain rfl:=jD h;cases es with
     | nil=>exact absurd rfl (wf.pick i)
     | cons _ _=>rfl
    split
    ·rename_i h;obtain rfl:=jD h;rcases lt_or_le i 0 with z|z
     ·rw[oA z,Bool.and_false]
     obtain⟨k,rfl⟩:=eq_ofNat_of_zero_le z
     match es with
     | []=>rfl
     | [_]=>rfl
     | [a,b]=>exact absurd rfl (wf.low k a b)
     | _::_::_::es=>rw[decide_eq_false (by simp only[length_cons];omega),Bool.false_and]
    split
    ·rfl
    rename_i hl;obtain⟨d2,rfl⟩:∃d2,es=[d2]:=List.length_eq_one_iff.mp (Decidable.not_not.mp hl);split
    ·rename_i h;obtain rfl:=jD h;exact absurd rfl (wf.msk i d2)
    split
    ·rfl
    rename_i hin;rcases lt_or_le i 0 with z|z
    ·exact absurd (.inl (oA z left)) hin
    obtain⟨k,rfl⟩:=eq_ofNat_of_zero_le z;split
    ·rename_i h;obtain rfl:=jD h;exact absurd rfl (wf.one k d2)
    cases h:dj d0 "within" with
    | false=>rfl
    | true=>
     obtain rfl:=jD h;exact absurd rfl (wf.wit k d2)
   rfl
 | _=>rfl
theorem DR {ss:Sts}{left:List Nat}{pl:Pg}(wf:WfG pl):dW ss left pl=stepT ss left (pgD pl):=by
 cases pl with
 | odd d=>exact(K8 wf).symm
 | tab=>
  show _=jc ss left (.str "table") [];unfold jc;rw[if_pos (Hj _)];rfl
 | pick l=>
  show _=jc ss left (.str "pick") [.int l];unfold jc;rw[if_neg (pF ψ)];dsimp only;rw[if_pos (Hj _)];rfl
 | low k a b=>
  show _=jc ss left (.str "below") [.int (k:Int),pgD a,pgD b];unfold jc;rw[if_neg (pF ψ)];dsimp only;rw[if_neg (pF ψ),if_pos (Hj _),pL];rfl
 | msk l r=>
  show _=jc ss left (.str "mask") [.int l,pgD r];unfold jc;rw[if_neg (pF ψ)];dsimp only;rw[if_neg (pF ψ),if_neg (pF ψ),if_neg (by simp),if_pos (Hj _)];rfl
 | one k r=>
  show((left.contains k&&decide (left.length≠1))&&decide ((bU ss k).1=(bU ss k).2.1))=jc ss left (.str "is") [.int (k:Int),pgD r];unfold jc;rw[if_neg (pF ψ)];dsimp only;rw[if_neg (pF ψ),if_neg (pF ψ),if_neg (by simp),if_neg (pF ψ),pL,if_pos (Hj _),toNat_natCast];by_cases c:left.contains k=false\/left.length=1
  ·rw[if_pos c];rcases c with c|c
   ·rw[c];rfl
   rw[decide_eq_false (show ¬left.length≠1 from fun z=>z c),Bool.and_false];rfl
  rw[if_neg c,decide_eq_true (show left.length≠1 from fun z=>c (.inr z))];cases h:left.contains k with
  | false=>exact absurd (.inl h) c
  | true=>rfl
 | wit k r=>
  show(left.contains k&&decide (left.length≠1))=jc ss left (.str "within") [.int (k:Int),pgD r];unfold jc;rw[if_neg (pF ψ)];dsimp only;rw[if_neg (pF ψ),if_neg (pF ψ),if_neg (by simp),if_neg (pF ψ),pL,if_neg (pF (a := "within") (b := "is") ψ),Hj];by_cases c:left.contains k=false\/left.length=1
  ·rw[if_pos c];rcases c with c|c
   ·rw[c];rfl
   rw[decide_eq_false (show ¬left.length≠1 from fun z=>z c),Bool.and_false]
  rw[if_neg c,decide_eq_true (show left.length≠1 from fun z=>c (.inr z))];cases h:left.contains k with
  | false=>exact absurd (.inl h) c
  | true=>rfl
open PySem PySem.Spec PyProof.Rows Builtin Builtin.Str
open PySem PySem.Spec PyProof.Rows PySem.NumText
noncomputable def Va:V->Option Int->Option Int->Hp->VK->Prop:=fun x lo hi H Q=>match x with
 | .str z=>z.length<=sizeLine/\Q (.str (Txt.slice z lo hi)) H
 | _=>False
theorem RT {X:Cx}:SlR X Va:=by
 intro pins s σ H x v vl vu lo hi sl Q I rx hs pl pu h;unfold Va at h;split at h
 ·rename_i z;obtain⟨hz,q⟩:=h;obtain⟨t,rfl⟩:=rx;refine⟨"str",_,F.slot_str_getitem.lookup,typeIs_str _ _ _,?_⟩;have fin:∀t' k,EP X pins σ Q (.str (Txt.slice z lo hi) t') { s with toks:=k }:=fun t' k=>⟨.str _,H,I.tok _,⟨_,rfl⟩,q⟩;cases pl with
  | none=>
   cases pu with
   | none=>exact wpAny_getItem_str_slice (l:=none) (u:=none) (st:=none) hs rfl (post_val_or_str ⟨le_trans (Txt.slice_le z _ _) hz,fin⟩)
   | int j uj=>exact wpAny_getItem_str_slice (l:=none) (u:=some (j,uj)) (st:=none) hs rfl (post_val_or_str ⟨le_trans (Txt.slice_le z _ _) hz,fin⟩)
  | int i ui=>
   cases pu with
   | none=>exact wpAny_getItem_str_slice (l:=some (i,ui)) (u:=none) (st:=none) hs rfl (post_val_or_str ⟨le_trans (Txt.slice_le z _ _) hz,fin⟩)
   | int j uj=>exact wpAny_getItem_str_slice (l:=some (i,ui)) (u:=some (j,uj)) (st:=none) hs rfl (post_val_or_str ⟨le_trans (Txt.slice_le z _ _) hz,fin⟩)
 exact h.elim
noncomputable def Vc:R2:=fun x y H Q=>match x,y with
 | .str z,.int i=>z.length<=sizeLine/\∃c,atI z.cps.toList i=some c/\Q (.str ⟨#[c]⟩) H
 | _,_=>False
theorem Qu {X:Cx}:IxR X Vc:=by
 intro value slice pins s σ H x y v u Q I rx ry q hs;unfold Vc at q;split at q
 ·obtain⟨h1,c,h2,h3⟩:=q;exact Ur value slice pins s σ H _ _ v u Q I rx ry ⟨_,_,c,rfl,rfl,h1,h2,h3⟩ hs
 exact q.elim
noncomputable def Rp:List V->Hp->VK->Prop:=fun vs H Q=>match vs with
 | [.str z]=>z.length<=sizeLine/\Q (.int z.length) H
 | _=>False
theorem Jc {X:Cx}:dJ X (.builtin "len") Rp:=by
 intro pins s σ H xs us Q I r h;unfold Rp at h;split at h
 ·exact zV pins s σ H _ us Q I r ⟨_,rfl,h.1,h.2⟩
 exact h.elim
noncomputable abbrev tsI (i:Int):Str:=Str.ofString (toString i)
noncomputable def wdV:V->Str
 | .str t=>t
 | .int n=>tsI n
 | _ => ""
noncomputable def mQ:R2:=fun x y H Q=>match x,y with
 | .str a,.str b=>a.length+b.length<=sizeLine/\Q (.str (a++b)) H
 | x,y=>uX x y H Q
theorem Oo (a b:Int)(H:Hp)(Q:VK):mQ (.int a) (.int b) H Q=Q (.int (a+b)) H:=rfl
theorem Om (p q:Addr)(H:Hp)(Q:VK):mQ (.ref p) (.ref q) H Q=adq (H p) (H q) H Q:=rfl
theorem eH {X:Cx}:OpR X (binaryOp .Add) mQ:=by
 intro pins s σ H x y v u Q I rx ry h;unfold mQ at h;split at h
 ·exact Dr pins s σ H _ _ v u Q I rx ry ⟨_,_,rfl,rfl,h.1,h.2⟩
 exact bN pins s σ H _ _ v u Q I rx ry h
noncomputable def JW:V->Option Int->Option Int->Hp->VK->Prop:=fun x lo hi H Q=>match x with
 | .str z=>z.length<=sizeLine/\Q (.str (Txt.slice z lo hi)) H
 | x=>JX x lo hi H Q
theorem v9 {X:Cx}:SlR X JW:=by
 intro pins s σ H x v vl vu lo hi sl Q I rx hs pl pu h;cases x with
 | str z=>exact RT pins s σ H _ v vl vu lo hi sl Q I rx hs pl pu h
 | _=>exact rK pins s σ H _ v vl vu lo hi sl Q I rx hs pl pu h
noncomputable def J6:R2:=fun x y H Q=>match x,y with
 | .str z,.int i=>z.length<=sizeLine/\∃c,atI z.cps.toList i=some c/\Q (.str ⟨#[c]⟩) H
 | x,y=>uW x y H Q
theorem Sd (p:Addr)(i:Int)(H:Hp)(Q:VK):J6 (.ref p) (.int i) H Q=ixq (H p) i H Q:=rfl
theorem Us {X:Cx}:IxR X J6:=by
 intro value slice pins s σ H x y v u Q I rx ry q hs;unfold J6 at q;split at q
 ·exact Qu value slice pins s σ H _ _ v u Q I rx ry q hs
 exact bA value slice pins s σ H _ _ v u Q I rx ry q hs
noncomputable def J5:List V->Hp->VK->Prop:=fun vs H Q=>match vs with
 | [.str z]=>z.length<=sizeLine/\Q (.int z.length) H
 | vs=>Fp vs H Q
theorem Oe (z:Str)(H:Hp)(Q:VK):J5 [.str z] H Q=(z.length<=sizeLine/\Q (.int z.length) H):=rfl
theorem Jd {X:Cx}:dJ X (.builtin "len") J5:=by
 intro pins s σ H xs us Q I r h;unfold J5 at h;split at h
 ·exact Jc pins s σ H _ us Q I r h
 exact bx pins s σ H _ us Q I r h
noncomputable def rdX:=And.intro @Oo (And.intro @Sd @Oe)
theorem yw {x:Str}{lo hi:Option Int}{c:Nat}(h:c∈(Txt.slice x lo hi).cps.toList):c∈x.cps.toList:=by
 unfold Txt.slice at h;split at h
 ·exact h
 rw[List.toList_toArray] at h;obtain⟨i,_,e⟩:=mem_filterMap.mp h;exact Array.mem_toList_iff.mpr (Array.mem_of_getElem? e)
theorem JN (x:Str)(lo hi:Option Int):(Txt.slice x lo hi).length<=(Builtin.Str.strSliceIndices lo hi 1 x.length).length:=by
 unfold Txt.slice;split
 ·rename_i h;rw[and_eq_true] at h;have:=eq_of_beq h.2;omega
 show Array.size _<=_;rw[size_toArray];exact List.length_filterMap_le _ _
theorem RP {x:Str}{a b:Int}(h0:0<=a)(h:a<=b):(Txt.slice x none (some a)).length+(Txt.slice x (some b) none).length<=x.length:=by
 have h1:=JN x none (some a);have h2:=JN x (some b) none;simp only[Builtin.Str.strSliceIndices,sliceRange,length_map,length_range] at h1 h2;simp only[if_pos (show(1:Int)>0 by decide),if_neg (show ¬a<0 by omega),if_neg (show ¬b<0 by omega)] at h1 h2;split at h1 <;> split at h2 <;> omega
theorem uZ {n:Nat}{x m:Str}{a b:Int}(h:okS n x)(h0:0<=a)(hab:a<=b)(hm:okS 0 m)(hl:m.length<=1):okS (n+1) (Txt.slice x none (some a)++m++Txt.slice x (some b) none)/\okS (n+1) (Txt.slice x none (some a)++Txt.slice x (some b) none):=by
 have ht:=RP (x:=x) h0 hab;have hx:=h.1;have app:∀(p q:Str),(p++q).cps=p.cps++q.cps:=fun _ _=>rfl;refine⟨⟨by rw[Str.length_append,Str.length_append];omega,fun c hc=>?_⟩,⟨by rw[Str.length_append];omega,fun c hc=>?_⟩⟩
 ·rw[app,app,toList_append,toList_append] at hc;rcases mem_append.mp hc with z|z
  ·rcases mem_append.mp z with z|z
   ·exact h.2 c (yw z)
   exact hm.2 c z
  exact h.2 c (yw z)
 rw[app,toList_append] at hc;rcases mem_append.mp hc with z|z
 ·exact h.2 c (yw z)
 exact h.2 c (yw z)
section
variable {ok:Addr->Prop}{σ:St}{H0:Hp}{ta tb te:TE}{ds es:List PyData}{d:PyData}{tl th:TO}{lo hi:Option Int}
theorem vD {i:Nat}{v:V}(h:σ[i]?=some (some v))(t:aG ok H0 v d):Gv ok (tV i) σ H0 d:=fun H s Q q=>by
 unfold tV;rw[h];exact q _ _ (Same.refl _) (t.same s)
theorem zu {x y:Str}(h:Gv ok ta σ H0 (.str x))(h2:Gv ok tb σ H0 (.str y))(hl:x.length+y.length<=sizeLine):Gv ok (tOp mQ ta tb) σ H0 (.str (x++y)):=fun H s Q q=>
 h H s _ fun v H1 s1 t1=>by
  cases t1;refine h2 H1 (s.trans s1) _ fun w H2 s2 t2=>?_;cases t2;exact⟨hl,q _ _ (s1.trans s2) (.str _)⟩
theorem DQ {x:Str}(h:Gv ok te σ H0 (.str x))(hx:x.length<=sizeLine)(hl:∀(H:Hp)(Q:Option Int->Hp->Prop),Q lo H->tl σ H Q)(hh:∀(H:Hp)(Q:Option Int->Hp->Prop),Q hi H->th σ H Q):Gv ok (tSl JW te tl th) σ H0 (.str (Txt.slice x lo hi)):=fun H s Q q=>
 h H s _ fun v H1 s1 t1=>by
  cases t1;exact hl H1 _ (hh H1 _ ⟨hx,q _ _ s1 (.str _)⟩)
theorem QJ (n:cY ok H0)(h:Gv ok ta σ H0 (.list ds))(h2:Gv ok tb σ H0 (.list es))(hl:ds.length+es.length<=1000000):Gv ok (tOp mQ ta tb) σ H0 (.list (ds++es)):=fun H s Q q=>
 h H s _ fun v H1 s1 t1=>by
  cases t1 with
  | lst o1 e1 z1 t1=>
   refine h2 H1 (s.trans s1) _ fun w H2 s2 t2=>?_;cases t2 with
   | lst o2 e2 z2 t2=>
    have l1:=t1.length;have l2:=t2.length;show mQ _ _ _ _;rw[Om,s2 _ _ e1,e2,Nk];refine⟨aX ω,fun p hp=>q _ _ ((s1.trans s2).trans (aq hp)) (.lst (n H2 p ((s.trans s1).trans s2) hp) aB (by rw[length_append];omega) (((t1.same s2).append t2).same (aq hp)))⟩
theorem zm {H:Hp}{Q:VK}(d:PyData)(he:d=.list ds)(h:Gv ok te σ H d)(q:∀p xs H',Same H H'->H' p=some (.lst xs)->ok p->aH ok H' xs ds->tb σ H' fun y H2=>J6 (.ref p) y H2 Q):tOp J6 te tb σ H Q:=by
 subst he;refine h H (Same.refl _) _ fun v H' s t=>?_;cases t with
 | lst o e z ts=>exact q _ _ _ s e o ts
theorem Uw (n:cY ok H0)(h:Gv ok te σ H0 (.list ds)):Gv ok (RJ te) σ H0 (.list ds.reverse):=fun H s Q q=>h H s _ fun v H1 s1 t1=>by
 cases t1 with
 | lst o e z ts=>
  show rvK _ _ _;rw[Ob,e,Oa];intro p hp;exact q _ _ (s1.trans (aq hp)) (.lst (n H1 p (s.trans s1) hp) aB (by rw[length_reverse];exact z) (ts.reverse.same (aq hp)))
theorem Ih {k:Int}(h:Gv ok te σ H0 (.int k))(hl:k.natAbs.log2<1920):Gv ok (tCB (fun xs H Q=>∃i,xs=[.int i]/\i.natAbs.log2<1920/\Q (.str (toString i)) H) (jl te rE)) σ H0 (.str (toString k)):=
 fun H s Q q=>h H s _ fun v H1 s1 t1=>by
  cases t1;exact⟨k,rfl,hl,q _ _ s1 (.str _)⟩
theorem Jo {i:Nat}{v:V}{H:Hp}{Q:VK}(h:σ[i]?=some (some v))(q:Q v H):tV i σ H Q:=by
 unfold tV;rw[h];exact q
theorem qK {i j:Nat}{x:Str}{at0:Int}(hi:σ[i]?=some (some (.str x)))(hj:σ[j]?=some (some (.int at0)))(hx:x.length<=1000):Gv ok (tSl JW (tV i) nM (uM (tV j))) σ H0 (.str (Txt.slice x none (some at0))):=
 DQ (vD hi (.str x)) (aX ω) (fun H Q q=>q) fun H Q q=>Jo hj ⟨at0,rfl,q⟩
theorem qJ {i j:Nat}{x:Str}{at0:Int}(hi:σ[i]?=some (some (.str x)))(hj:σ[j]?=some (some (.int at0)))(hx:x.length<=1000):Gv ok (tSl JW (tV i) (uM (tOp mQ (tV j) (tC (.int 1)))) nM) σ H0 (.str (Txt.slice x (some (at0+1)) none)):=
 DQ (vD hi (.str x)) (aX ω) (fun H Q q=>by unfold uM tOp;exact Jo hj ⟨at0+1,rfl,q⟩) fun H Q q=>q
theorem Mi {i j:Nat}{x:Str}{at0:Int}(hi:σ[i]?=some (some (.str x)))(hj:σ[j]?=some (some (.int at0)))(hx:x.length<=1000):Gv ok (tSl JW (tV i) (uM (tV j)) nM) σ H0 (.str (Txt.slice x (some at0) none)):=
 DQ (vD hi (.str x)) (aX ω) (fun H Q q=>Jo hj ⟨at0,rfl,q⟩) fun H Q q=>q
theorem uI {x m:Str}{b at0:Int}(h:Gv ok ta σ H0 (.str (Txt.slice x none (some at0))))(h2:Gv ok tb σ H0 (.str (Txt.slice x (some b) none)))(hx:x.length<=1000)(hm:m.length<=1):Gv ok (tOp mQ (tOp mQ ta (tC (.str m))) tb) σ H0 (.str (Txt.slice x none (some at0)++m++Txt.slice x (some b) none)):=by
 have l1:=Txt.slice_le x none (some at0);have l2:=Txt.slice_le x (some b) none;exact zu (zu h sS (aX ω)) h2 (aX (by rw[Str.length_append];omega))
theorem Mj {x:Str}{b at0:Int}(h:Gv ok ta σ H0 (.str (Txt.slice x none (some at0))))(h2:Gv ok tb σ H0 (.str (Txt.slice x (some b) none)))(hx:x.length<=1000):Gv ok (tOp mQ ta tb) σ H0 (.str (Txt.slice x none (some at0)++Txt.slice x (some b) none)):=by
 have l1:=Txt.slice_le x none (some at0);have l2:=Txt.slice_le x (some b) none;exact zu h h2 (aX ω)
theorem Ij {i:Nat}{v:V}(n:cY ok H0)(h:σ[i]?=some (some v))(t:aG ok H0 v (.list ds)):∃d,(d=.int (-(1))\/d∈ds)/\Gv ok (tIf (oY (tOp R0 (tV i) (Aj rE))) (tOp uW (tV i) (tUn (rU fun i=>V.int (-i)) (tC (V.int 1)))) (tUn (rU fun i=>V.int (-i)) (tC (V.int 1)))) σ H0 d:=by
 have test:∀{H:Hp}{Q:Bool->Hp->Prop},Same H0 H->(∀H',Same H H'->Q (!ds.isEmpty) H')->oY (tOp R0 (tV i) (Aj rE)) σ H Q:=fun {H Q} s q=>by
  unfold oY tOp;refine Jo h ?_;cases t with
  | lst o e z ts=>
   rename_i l xs;refine⟨aX δ,fun p hp=>?_⟩;have s1:=aq (o:=HO.lst []) hp;have hl:=ts.length;have:xs.isEmpty=ds.isEmpty:=by cases xs <;> cases ds <;> first|rfl|(cases hl)
   exact⟨l,p,xs,rfl,rfl,s1 _ _ (s _ _ e),aB,_,rfl,by rw[this];exact q _ s1⟩
 by_cases hd:ds=[]
 ·refine⟨.int (-(1)),.inl rfl,fun H s Q q=>?_⟩;subst hd;refine test s fun H' s'=>?_;exact⟨1,rfl,q _ _ s' (.int _)⟩
 obtain⟨a,b,e⟩:=sJ ds (by cases ds with|nil=>exact absurd rfl hd|cons _ _=>exact Nat.succ_pos _);subst e;refine⟨b,.inr (mem_append.mpr (.inr mem_cons_self)),fun H s Q q=>?_⟩;refine test s fun H' s'=>?_;have:(!(a++[b]).isEmpty)=true:=by cases a <;> rfl
 rw[this,if_pos rfl];exact QF (vD h t) H' (s.trans s') _ fun v H2 s2 t2=>q v H2 (s'.trans s2) t2
end
noncomputable def nF (c:Addr)(q:Str):HO:=.ext fun h=>h.CodeRec (.ref c) q
theorem MN {P:Program}{w:World}{H:Hp}{h:Heap}{c:Addr}{q:Str}(e:h.CodeRec (.ref c) q):dh P w H h c (nF c q):=by
 refine⟨e,?_,fun h1 h2 e1 k=>?_⟩
 ·obtain⟨c',o,vs,t,ec,ho,_⟩:=e;cases ec;exact⟨o,ho⟩
 obtain⟨c',o,vs,t,ec,ho,r⟩:=e1;cases ec;exact⟨c,o,vs,t,rfl,k o ho,r⟩
noncomputable def gU (H:Hp)(P:Addr)(pos:Pos)(q:Str):Prop:=∃ps,H P=some (.tbl ps)/\TriplesOk ps.toList/\(codeAmong pos ps.toList=none\/∃c',codeAmong pos ps.toList=some (.ref c')/\H c'=some (nF c' q))
theorem gU.same {H H':Hp}{P:Addr}{pos:Pos}{q:Str}(h:gU H P pos q)(s:Same H H'):gU H' P pos q:=by
 obtain⟨ps,e,t,k⟩:=h;exact⟨ps,s _ _ e,t,k.imp id fun⟨c',a,b⟩=>⟨c',a,s _ _ b⟩⟩
theorem gU.cU {H H':Hp}{P p:Addr}{pos:Pos}{q:Str}(h:gU H P pos q)(s:aV p H H')(hp:∀ps,H p≠some (.tbl ps))(hq:∀c,H p≠some (nF c q)):gU H' P pos q:=by
 obtain⟨ps,e,t,k⟩:=h;refine⟨ps,s _ _ (fun z=>hp ps (by rw[<- z];exact e)) e,t,k.imp id fun⟨c',a,b⟩=>⟨c',a,s _ _ (fun z=>hq c' (by rw[<- z];exact b)) b⟩⟩
noncomputable def Ce (qual:Str) (scope:Scope) (L:Addr) (cl:List (Str×Addr)) (f:Addr) (cd:Value):Env:=newEnv scope L mainGlobals cl (qual ++ ".<locals>.") (some f) cd none builtinsNs
noncomputable def Iu (P:Program)(w:World)(K:PySem.W.Frag)(mg:Str->Option Value)(base:Heap)(N:List Str)(qual:Str)(scope:Scope)(cl:List (Str×Addr))(f:Addr)(cd:Value)(A:Around)(outer:List Env)(s:Shared)(H:Hp)(E:XK):Cx where
 prog:=P
 w:=w
 K:=K
 mg:=mg
 base:=base
 A:=A.deeper (Ce qual scope s.heap.objs.size cl f cd)
 N:=N
 s₀:=s
 H₀:=H
 env:=Ce qual scope s.heap.objs.size cl f cd
 outer:=outer
 stack:=Ce qual scope s.heap.objs.size cl f cd::outer
 ex:=[]
 calm:=true
 fn:=fun _=>false
 pn:=[]
 xe:=fun e s'=>wpAny (model P w) (A.deeper (Ce qual scope s.heap.objs.size cl f cd)) (leaving (Ce qual scope s.heap.objs.size cl f cd) e) (fun _ s''=>CX0 outer H s E e s'') (fun e' s''=>CX0 outer H s E e' s'') s'
structure uK (x:Str)(N:List Str)(cl:List (Str×Addr))(sc:Scope):Prop where
 kind:sc.kind=.function
 co:sc.isCoroutine=false
 gen:sc.isGenerator=false
 par:sc.names.lookup x=some .local
 nocell:∀y∈sc.names,y.2≠.cell
 free:∀y∈N,sc.names.lookup y=some .free
 has:∀y,sc.names.lookup y=some .free->∃c,cl.lookup y=some c
 inj:∀y z c,cl.lookup y=some c->cl.lookup z=some c->y=z
theorem Lz {P:Program}{w:World}{K:PySem.W.Frag}{mg:Str->Option Value}{base:Heap}{A:Around}{outer:List Env}{s:Shared}{H:Hp}{f c':Addr}{name qual:Str}{params:Arguments}{body:Expr}{scope:Scope}{cl:List (Str×Addr)}{pm ctv:Value}{x:Str}{N:List Str}{k:Nat}{u:Value}{v:V}{vs:List V}{Q:VK}{E:XK}{t:TE}
  (ho:s.heap.get? f=some (PySem.W.kla_obj name qual params body scope cl pm c' ctv)) (hcd:s.heap.CodeRec (.ref c') qual) (S:uK x N cl scope) (hr:gm (k+1) A) (e0:CN P w K mg base A outer s H)
  (hb:bindArgs (PySem.W.kla_fn name qual params body scope cl pm (.ref c') ctv) ⟨[u],[]⟩=pure [(x,u)]) (rv:RelV v u) (hl:vs.length=N.length)
  (hcl:∀y c,cl.lookup y=some c->∃z,s.heap.IsCell c z) (hfr:∀y c,cl.lookup y=some c->H c=none)
  (hcap:∀(i:Nat) y z,N[i]?=some y->vs[i]?=some z->∃uz c,RelV z uz/\cl.lookup y=some c/\s.heap.IsCell c (some uz))
  (hp:PE (Iu P w K mg base (x::N) qual scope cl f (.ref c') A outer s H E) body t) (hq:t (some v::vs.map some) H Q) :
  codeAny (model P w) A (.call (.ref f) ⟨[u],[]⟩) (CR CX0 outer P w H s Q E) s:=by
 have lim:s.heap.NoLimit:=e0.mod.nolimit.keeps fun b o e=>(e0.bs b o e).1;refine PySem.W.kla_callFunE hr.depth ho rfl S.co S.gen rfl hcd ?_;rw[hb];refine wpAny_pure (wpAny_newFunctionEnv S.nocell (fun y hy=>by rw[mem_singleton.mp hy];exact S.par) (fun h' hns hsb=>?_) S.kind);have keep:∀b o,s.heap.get? b=some o->h'.get? b=some o:=fun b o e=>(hsb.2 b (ne_of_lt (lt_size e))).trans (get?_push_of_some _ e);refine⟨lim.keeps keep,PySem.W.kla_codeExpr ?_⟩;have noA:∀b:Addr,b∉(Iu P w K mg base (x::N) qual scope cl f (.ref c') A outer s H E).ex:=fun b z=>absurd (show b∈([]:List Addr) from z) (by simp);have I:Inv (Iu P w K mg base (x::N) qual scope cl f (.ref c') A outer s H E) [] (some v::vs.map some) H { s with heap:=h',toks:=s.toks+[(x,u)].length }:=by
  refine⟨⟨e0.mod,S.kind,rfl,rfl,le_refl _,fun y z c h1 h2=>S.inj y z c h1 h2,fun y hy=>?_,fun y c h _=>absurd (show false=true from h) δ,fun _=>hr.hd,Around.frames_deeper e0.frames,.inr ⟨rfl,rfl⟩,fun b z=>absurd z (noA b),e0.bs,e0.bsz,fun b _ _=>noA b,fun b z=>absurd z (noA b),e0.oV,e0.frf⟩,
   rfl,e0.bare,Un.kept keep,⟨_,hns,fun i y z h1 h2 h3=>?_⟩,fun y c h=>?_,e0.hok.fresh (le_refl _),fun y c h=>hfr y c h,fun p hp=>absurd (show p∈([]:List (Addr×Obj)) from hp) (by simp),e0.hok.kept keep,?_⟩
  ·have hy:scope.names.lookup y=some .cell\/scope.names.lookup y=some .free:=hy;rcases hy with hy|hy
   ·exact absurd rfl (S.nocell _ (PySem.mem_of_lookup hy))
   exact S.has y hy
  ·cases i with
   | zero=>
    obtain rfl:x=y:=Option.some.inj h1;obtain rfl:v=z:=Option.some.inj (Option.some.inj h2);exact⟨u,rv,.inl ⟨S.par,by simp⟩⟩
   | succ i=>
    have h1':N[i]?=some y:=h1;have h2':vs[i]?=some z:=by
     have:(vs.map some)[i]?=some (some z):=h2;rw[getElem?_map] at this;cases e:vs[i]? with
     | none=>rw[e] at this;cases this
     | some a=>rw[e] at this;cases this;rfl
    obtain⟨uz,c,r1,c1,c2⟩:=hcap i y z h1' h2';exact⟨uz,r1,.inr ⟨.inr (S.free y (mem_of_getElem? h1')),c,c1,c2.keeps keep⟩⟩
  ·obtain⟨z,hz⟩:=hcl y c h;exact⟨z,hz.keeps keep⟩
  show(vs.map some).length+1=N.length+1;rw[length_map,hl]
 refine wpAny_mono (hp [] _ (some v::vs.map some) H _ I hq) (fun u s' hs=>?_) fun e s' hs=>hs;obtain⟨v,H',J,r,q⟩:=hs;exact⟨v,H',J.os,J.bare,J.base,J.hok,r,q⟩
noncomputable def oO (f:Addr)(o:Obj):HO:=.ext fun h=>h.get? f=some o
theorem FP {P:Program}{w:World}{H:Hp}{h:Heap}{f:Addr}{o:Obj}(e:h.get? f=some o):dh P w H h f (oO f o):=
 ⟨e,⟨o,e⟩,fun h1 h2 e1 k=>k o e1⟩
open Classical in
noncomputable def hidC (cs:List Addr)(H:Hp):Hp:=fun b=>if b∈cs then none else H b
noncomputable def backC (cs:List Addr)(H H1:Hp):Hp:=fun b=>if b∈cs then H b else H1 b
theorem oE {cs:List Addr}{H:Hp}{b:Addr}(h:b∈cs):hidC cs H b=none:=if_pos h
theorem dU {cs:List Addr}{H:Hp}{b:Addr}(h:b∉cs):hidC cs H b=H b:=if_neg h
theorem CG {cs:List Addr}{H H1:Hp}{b:Addr}(h:b∈cs):backC cs H H1 b=H b:=if_pos h
theorem ig {cs:List Addr}{H H1:Hp}{b:Addr}(h:b∉cs):backC cs H H1 b=H1 b:=if_neg h
section
variable {P:Program}{w:World}{cs:List Addr}{H H1:Hp}{h h':Heap}
theorem QD (hok:HOk P w H h)(hc:∀c∈cs,∃φ,H c=some (.ext φ)):HOk P w (hidC cs H) h:=fun b u e=>by
 by_cases hb:b∈cs
 ·rw[oE hb] at e;cases e
 rw[dU hb] at e;refine(hok b u e).stay (fun d v _ q=>q) (fun d q=>?_) fun d xs q=>?_
 ·rw[dU fun z=>?_]
  ·exact q
  obtain⟨φ,e2⟩:=hc d z;rw[q] at e2;cases e2
 rw[dU fun z=>?_]
 ·exact q
 obtain⟨φ,e2⟩:=hc d z;rw[q] at e2;cases e2
theorem M9 (hok:HOk P w H1 h')(hc:∀c∈cs,∃φ,H c=some (.ext φ)/\dh P w H h' c (.ext φ))(hn:∀c∈cs,H1 c=none):HOk P w (backC cs H H1) h':=fun b u e=>by
 by_cases hb:b∈cs
 ·rw[CG hb] at e;obtain⟨φ,e2,k⟩:=hc b hb;rw[e] at e2;cases e2;exact k
 rw[ig hb] at e;refine(hok b u e).stay (fun d v _ q=>q) (fun d q=>?_) fun d xs q=>?_
 ·rw[ig fun z=>?_]
  ·exact q
  rw[hn d z] at q;cases q
 rw[ig fun z=>?_]
 ·exact q
 rw[hn d z] at q;cases q
theorem Rg {fs:List Addr}(u:Un fs [] (hidC cs H) H1 h h')(hc:∀c∈cs,∃φ,H c=some (.ext φ)):Un fs [] H (backC cs H H1) h h':=by
 have out:∀{b o},H b=some o->(∀φ,o≠.ext φ)->b∉cs:=fun {b o} e n z=>by
  obtain⟨φ,e2⟩:=hc b z;rw[e] at e2;exact n φ (Option.some.inj e2)
 have non:∀{b},H b=none->b∉cs:=fun {b} e z=>by
  obtain⟨φ,e2⟩:=hc b z;rw[e] at e2;cases e2
 refine⟨fun b o e n h1 h2=>u.keep b o e ((dU (non n)).trans n) h1 h2,fun b o e n h1 h2=>u.slot b o e ((dU (non n)).trans n) h1 h2,fun b o e n h2=>?_,fun b o e h2=>u.there b o e h2,fun b xs e=>?_,fun b o v e=>?_,fun b ps e=>?_⟩
 ·rw[ig (non n)];exact u.free b o e ((dU (non n)).trans n) h2
 ·have hb:=out e fun φ z=>by cases z
  rw[ig hb];exact u.tups b xs ((dU hb).trans e)
 ·have hb:=out e fun φ z=>by cases z
  rw[ig hb];exact u.frzs b o v ((dU hb).trans e)
 have hb:=out e fun φ z=>by cases z
 rw[ig hb];exact u.tbls b ps ((dU hb).trans e)
end
theorem xr {cs:List Addr}{H H1:Hp}(s:Same (hidC cs H) H1):Same H (backC cs H H1):=fun b o e=>by
 by_cases hb:b∈cs
 ·rw[CG hb];exact e
 rw[ig hb];exact s b o ((dU hb).trans e)
theorem Q6 {P:Program}{w:World}{cs:List Addr}{H:Hp}{outer:List Env}{s s':Shared}{Q:VK}{E:XK}{r:Result}(hok:HOk P w H s.heap)(hc:∀c∈cs,∃φ,H c=some (.ext φ))(hf:∀c∈cs,c∉frs outer)
  (h:CR CX0 outer P w (hidC cs H) s (fun v H1=>Q v (backC cs H H1)) E r s'):CR CX0 outer P w H s Q E r s':=by
 match r,h with
 | .ok (.ret u),h=>
  obtain⟨v,H1,os,bare,un,hok',rv,q⟩:=h;have got:∀c∈cs,∃φ o,H c=some (.ext φ)/\dh P w H s.heap c (.ext φ)/\s.heap.get? c=some o:=fun c hm=>by
   obtain⟨φ,e⟩:=hc c hm;have k:=hok c _ e;obtain⟨k1,⟨o,k2⟩,k3⟩:=id k;exact⟨φ,o,e,k,k2⟩
  refine⟨v,backC cs H H1,os,bare,Rg un hc,M9 hok' (fun c hm=>?_) (fun c hm=>?_),rv,q⟩
  ·obtain⟨φ,o,e,⟨k1,⟨o2,k2⟩,k3⟩,e2⟩:=got c hm;have e3:s'.heap.get? c=some o:=un.keep c o e2 (oE hm) (hf c hm) (by simp);exact⟨φ,e,k3 _ _ k1 (fun o' q'=>by rw[e2] at q';cases q';exact e3),⟨o,e3⟩,k3⟩
  obtain⟨φ,o,e,_,e2⟩:=got c hm;exact un.free c o e2 (oE hm) (by simp)
 | .error e,h=>exact h
 | .ok .next,h=>exact h
 | .ok .brk,h=>exact h
 | .ok .cont,h=>exact h
noncomputable def yh (P:Program)(w:World)(K:PySem.W.Frag)(mg:Str->Option Value)(base:Heap)(k:Nat)(f:Addr)(sp:V->Hp->VK->Prop):Prop:=
 ∀(A:Around)(outer:List Env)(s:Shared)(H:Hp)(u:Value)(v:V)(Q:VK)(E:XK),gm k A->CN P w K mg base A outer s H->RelV v u->sp v H Q->codeAny (model P w) A (.call (.ref f) ⟨[u],[]⟩) (CR CX0 outer P w H s Q E) s
noncomputable def yj (H:Hp)(f:Addr):Prop:=∃oc od fd sl,H f=some (oO f ⟨oc,od,.func fd,sl⟩)
noncomputable def yq (P:Program)(w:World)(K:PySem.W.Frag)(mg:Str->Option Value)(base:Heap)(k i:Nat)(ta:TA):TE:=fun σ H Q=>∃f,σ[i]?=some (some (.ref f))/\yj H f /\
 ta σ H fun vs H1=>yj H1 f/\∃v sp,vs=[v]/\yh P w K mg base k f sp/\sp v H1 Q
section
variable {X:Cx}{k i:Nat}{x:Str}{p pos:Pos}{e:Expr}{ta:TA}
theorem KJ (hr:gm k X.A)(hx:Af CX0 X E0)(hn:PE X (.Name x p) (G3 i))(ha:PA X [e] ta)(he:starEach [e] X.env=(false,eval e X.env)::starEach [] X.env:=by rfl)(hpl:(backTo pos (starEach [] X.env)).any (·.1)=false:=by rfl) :
  PE X (.Call (.Name x p) [e] [] pos) (yq X.prog X.w X.K X.mg X.base k i ta):=by
 intro pins s σ H Q I h;obtain⟨f,hf,⟨oc,od,fd,sl,hH⟩,h⟩:=h;refine wpAny_Call_Name_kw (thn (hn pins s σ H (fun v H'=>v=.ref f/\H'=H) I ⟨_,hf,rfl,rfl⟩) fun fv s0 ⟨v,H0,I0,r0,e1,e2⟩=>?_);subst e1;subst e2;cases r0;have at0:PySem.W.FnAt f s0.heap:=⟨oc,od,fd,sl,(I0.hok f _ hH).1⟩;refine PySem.W.callWith_F at0 (thn (ha pos pins s0 σ H0 _ I0 h) fun us s1 ⟨vs,H1,I1,r,⟨oc1,od1,fd1,sl1,hH1⟩,v,sp,ev,L,q⟩=>⟨⟨oc1,od1,fd1,sl1,(I1.hok f _ hH1).1⟩,?_⟩) he hpl;subst ev;cases r with
 | cons r1 rr=>
  cases rr;refine wpAny_call (codeAny_mono (L X.A X.stack s1 H1 _ v Q E0 hr I1.env0 r1 q) fun r s' hq=>?_);cases r with
  | error e=>exact hx pins σ H1 s1 e s' I1 hq
  | ok fl=>
   cases fl with
   | ret u=>exact I1.after hq
   | next=>exact False.elim hq
   | brk=>exact False.elim hq
   | cont=>exact False.elim hq
end
noncomputable def iI (H:Hp)(c:Addr)(u:Value):Prop:=∃o,H c=some (oO c o)/\o.data=.cell (some u)
theorem Gb {P:Program}{w:World}{K:PySem.W.Frag}{mg:Str->Option Value}{base:Heap}{f c':Addr}{name qual:Str}{params:Arguments}{body:Expr}{scope:Scope}{cl:List (Str×Addr)}{pm ctv:Value}{x:Str}{N:List Str}{k:Nat}{vs:List V}{t:TE}
  (S:uK x N cl scope) (hb:∀u,bindArgs (PySem.W.kla_fn name qual params body scope cl pm (.ref c') ctv) ⟨[u],[]⟩=pure [(x,u)]) (hl:vs.length=N.length)
  (hp:∀(A:Around)(outer:List Env)(s:Shared)(H:Hp)(E:XK),gm (k+1) A->PE (Iu P w K mg base (x::N) qual scope cl f (.ref c') A outer s H E) body t) :
  yh P w K mg base (k+1) f fun v H Q=>H f=some (oO f (PySem.W.kla_obj name qual params body scope cl pm c' ctv))/\H c'=some (nF c' qual)/\(∀y c,cl.lookup y=some c->∃u,iI H c u) /\
   (∀(i:Nat) y z,N[i]?=some y->vs[i]?=some z->∃uz c,RelV z uz/\cl.lookup y=some c/\iI H c uz)/\(∀c∈cl.map (·.2),∃u,iI H c u) /\
   f∉cl.map (·.2)/\c'∉cl.map (·.2)/\t (some v::vs.map some) (hidC (cl.map (·.2)) H) fun v' H1=>Q v' (backC (cl.map (·.2)) H H1):=by
 intro A outer s H u v Q E hr e0 rv ⟨h1,h2,h3,h4,h5,h6,h7,q⟩;have hext:∀c∈cl.map (·.2),∃φ,H c=some (.ext φ):=fun c hc=>by
  obtain⟨u,o,e,_⟩:=h5 c hc;exact⟨_,e⟩
 have mem:∀y c,cl.lookup y=some c->c∈cl.map (·.2):=fun y c e=>mem_map.mpr ⟨(y,c),PySem.mem_of_lookup e,rfl⟩;have e1:CN P w K mg base A outer s (hidC (cl.map (·.2)) H):=⟨e0.frames,e0.mod,fun b o e=>⟨(e0.bs b o e).1,by
  by_cases hb:b∈cl.map (·.2)
  ·exact oE hb
  ·exact(dU hb).trans (e0.bs b o e).2⟩,e0.bsz,e0.oV,fun b hb=>by
  by_cases hm:b∈cl.map (·.2)
  ·exact oE hm
  exact(dU hm).trans (e0.frf b hb),QD e0.hok hext,e0.bare⟩
 have hf:∀c∈cl.map (·.2),c∉frs outer:=fun c hc hm=>by
  obtain⟨u,o,e,_⟩:=h5 c hc;rw[e0.frf c hm] at e;cases e
 have cellAt:∀c u,iI H c u->s.heap.IsCell c (some u):=fun c u ⟨o,e,d⟩=>⟨o,(e0.hok c _ e).1,d⟩;refine codeAny_mono (Lz (e0.hok f _ h1).1 (e0.hok c' _ h2).1 S hr e1 (hb u) rv hl (fun y c e=>?_) (fun y c e=>oE (mem y c e)) (fun i y z e2 e3=>?_) (hp A outer s _ E hr) q) fun r s' hq=>Q6 e0.hok hext hf hq
 ·obtain⟨u,e2⟩:=h3 y c e;exact⟨_,cellAt c u e2⟩
 obtain⟨uz,c,a1,a2,a3⟩:=h4 i y z e2 e3;exact⟨uz,c,a1,a2,cellAt c uz a3⟩
noncomputable def rB (g:Addr->Option Obj)(H:Hp):Hp:=fun b=>match g b with
 | some o=>some (oO b o)
 | none=>H b
noncomputable def lF (g:Addr->Option Obj)(H:Hp):Hp:=fun b=>match g b with
 | some _=>none
 | none=>H b
theorem Ae {g:Addr->Option Obj}{H:Hp}{b:Addr}{o:Obj}(h:g b=some o):rB g H b=some (oO b o):=by unfold rB;rw[h]
theorem fG {g:Addr->Option Obj}{H:Hp}{b:Addr}(h:g b=none):rB g H b=H b:=by unfold rB;rw[h]
theorem Cg {g:Addr->Option Obj}{H:Hp}{b:Addr}{o:Obj}(h:g b=some o):lF g H b=none:=by unfold lF;rw[h]
theorem g8 {g:Addr->Option Obj}{H:Hp}{b:Addr}(h:g b=none):lF g H b=H b:=by unfold lF;rw[h]
section
variable {P:Program}{w:World}{g:Addr->Option Obj}{H H2:Hp}{h h':Heap}
theorem Ri (hok:HOk P w H h)(hg:∀c o,g c=some o->h.get? c=some o/\H c=none):HOk P w (rB g H) h:=fun b u e=>by
 cases hb:g b with
 | some o=>
  rw[Ae hb] at e;cases e;exact FP (hg b o hb).1
 | none=>
  rw[fG hb] at e;have keep:∀{d v},H d=some v->rB g H d=some v:=fun {d v} q=>by
   cases hd:g d with
   | some o=>rw[(hg d o hd).2] at q;cases q
   | none=>rw[fG hd];exact q
  exact(hok b u e).stay (fun d v _ q=>q) (fun d q=>keep q) fun d xs q=>keep q
theorem Mz (hok:HOk P w H2 h')(hg:∀c o,g c=some o->H2 c=some (oO c o)):HOk P w (lF g H2) h':=fun b u e=>by
 cases hb:g b with
 | some o=>
  rw[Cg hb] at e;cases e
 | none=>
  rw[g8 hb] at e;have keep:∀{d v},H2 d=some v->(∀φ,v≠.ext φ)->lF g H2 d=some v:=fun {d v} q n=>by
   cases hd:g d with
   | some o=>rw[hg d o hd] at q;exact absurd (Option.some.inj q).symm (n _)
   | none=>rw[g8 hd];exact q
  exact(hok b u e).stay (fun d v _ q=>q) (fun d q=>keep q fun φ z=>by cases z) fun d xs q=>keep q fun φ z=>by cases z
theorem Q5 {fs:List Addr}(u:Un fs [] (rB g H) H2 h h')(hok:HOk P w H2 h')(hg:∀c o,g c=some o->h.get? c=some o/\H c=none/\c∉fs)(h2:∀c o,g c=some o->H2 c=some (oO c o)):Un fs [] H (lF g H2) h h':=by
 have out:∀{b o},H b=some o->g b=none:=fun {b o} e=>by
  cases hb:g b with
  | some o2=>rw[(hg b o2 hb).2.1] at e;cases e
  | none=>rfl
 have kept:∀c o,g c=some o->h'.get? c=some o:=fun c o e=>(hok c _ (h2 c o e)).1;refine⟨fun b o e n n1 n2=>?_,fun b o e n n1 n2=>?_,fun b o e n n2=>?_,fun b o e n2=>u.there b o e n2,fun b xs e=>?_,fun b o v e=>?_,fun b ps e=>?_⟩
 ·cases hb:g b with
  | some o2=>
   have e2:=(hg b o2 hb).1;rw[e] at e2;cases e2;exact kept b o hb
  | none=>exact u.keep b o e ((fG hb).trans n) n1 n2
 ·cases hb:g b with
  | some o2=>exact absurd n1 (hg b o2 hb).2.2
  | none=>exact u.slot b o e ((fG hb).trans n) n1 n2
 ·cases hb:g b with
  | some o2=>exact Cg hb
  | none=>rw[g8 hb];exact u.free b o e ((fG hb).trans n) n2
 ·rw[g8 (out e)];exact u.tups b xs ((fG (out e)).trans e)
 ·rw[g8 (out e)];exact u.frzs b o v ((fG (out e)).trans e)
 rw[g8 (out e)];exact u.tbls b ps ((fG (out e)).trans e)
end
structure Ah (cs:List (Nat×Addr))(σ:St)(H:Hp)(g:Addr->Option Obj):Prop where
 val:∀i c,(i,c)∈cs->∀v,σ[i]?=some (some v)->∃u o,RelV v u/\g c=some o/\o.data=.cell (some u)
 dom:∀c o,g c=some o->∃i,(i,c)∈cs
 fre:∀c o,g c=some o->H c=none
 all:∀i c,(i,c)∈cs->∃o,g c=some o
noncomputable def Dd (sp:Sp)(cs:List (Nat×Addr))(t:TA):TE:=fun σ H Q=>t σ H fun vs H1=>∀g,Ah cs σ H1 g->sp vs (rB g H1) (fun v H2=>(∀c o,g c=some o->H2 c=some (oO c o))/\Q v (lF g H2)) E0
section
variable {X:Cx}{k:Nat}{ps:List Str}{sp:Sp}{x:Str}{p pos:Pos}{e:Expr}{es:List Expr}{t:TA}
theorem Tj (C:Cal X.prog X.w X.K X.mg X.base x k ps sp)(hr:gm k X.A)(hg:Gl X x)(cs:List (Nat×Addr))(hcs:∀i c,(i,c)∈cs->∃y,X.N[i]?=some y/\X.env.kindOf y=some .cell/\X.env.cells.lookup y=some c/\X.fn y=true)
  (ha:PA X (e::es) t) (hdb:(x == ("__debug__" : Str))=false:=by decide)
  (he:starEach (e::es) X.env=(false,eval e X.env)::starEach es X.env:=by rfl) (hpl:(backTo pos (starEach es X.env)).any (·.1)=false:=by rfl):PE X (.Call (.Name x p) (e::es) [] pos) (Dd sp cs t):=by
 obtain⟨f,fd,F,hb,hk,hm⟩:=C.ex;intro pins s σ H Q I h;refine wpAny_Call_Name_kw (zj I hg hm ?_ hdb);refine PySem.W.callWith_K (h₀:=X.base) I.ok.mod.kin hk (thA (ha pos pins s σ H _ I h) fun us s1 vs H1 I1 r q=>⟨I1.kIn,?_⟩) he hpl;obtain⟨g,hgd⟩:∃g:Addr->Option Obj,g=fun b=>if b∈cs.map (·.2) then s1.heap.get? b else none:=⟨_,rfl⟩;have gin:∀c o,g c=some o->c∈cs.map (·.2)/\s1.heap.get? c=some o:=fun c o e=>by
  rw[hgd] at e;dsimp only at e;split at e
  ·exact⟨by assumption,e⟩
  cases e
 have gmem:∀i c,(i,c)∈cs->g c=s1.heap.get? c:=fun i c hm=>by
  rw[hgd];exact if_pos (mem_map.mpr ⟨(i,c),hm,rfl⟩)
 have own:∀c o,g c=some o->∃i y,(i,c)∈cs/\X.env.cells.lookup y=some c/\X.fn y=true:=fun c o e=>by
  obtain⟨⟨i,c2⟩,hm,rfl⟩:=mem_map.mp (gin c o e).1;obtain⟨y,_,_,h3,h4⟩:=hcs i c2 hm;exact⟨i,y,hm,h3,h4⟩
 have fr1:∀c o,g c=some o->H1 c=none:=fun c o e=>by
  obtain⟨i,y,_,h3,_⟩:=own c o e;exact I1.freeC y c h3
 have G:Ah cs σ H1 g:=by
  refine⟨fun i c hm v hv=>?_,fun c o e=>?_,fr1,fun i c hm=>?_⟩
  ·obtain⟨y,h1,h2,h3,_⟩:=hcs i c hm;obtain⟨m,hns,loc⟩:=I1.loc;obtain⟨u,ru,look⟩:=loc i y v h1 hv (.inr (.inl h2));rcases look with⟨z,_⟩|⟨_,c2,e2,o,e3,e4⟩
   ·rw[h2] at z;cases z
   rw[h3] at e2;cases e2;exact⟨u,o,ru,(gmem i c hm).trans e3,e4⟩
  ·obtain⟨i,y,hm,_⟩:=own c o e;exact⟨i,hm⟩
  obtain⟨y,_,_,h3,_⟩:=hcs i c hm;obtain⟨z,o,e,_⟩:=I1.cell y c h3;exact⟨o,(gmem i c hm).trans e⟩
 have celd:∀c o,g c=some o->∃z,o.data=.cell z:=fun c o e=>by
  obtain⟨i,y,_,h3,_⟩:=own c o e;obtain⟨z,o2,e2,d⟩:=I1.cell y c h3;rw[(gin c o e).2] at e2;cases e2;exact⟨z,d⟩
 have nfr:∀c o,g c=some o->c∉frs X.stack:=fun c o e hm=>by
  obtain⟨i,y,_,h3,h4⟩:=own c o e;rcases mem_cons.mp (I1.rF c hm) with z|z
  ·obtain⟨m,⟨o2,es,ep,e2,d2,_⟩,_⟩:=I1.loc;obtain⟨zz,d⟩:=celd c o e;rw[<- z,(gin c o e).2] at e2;cases e2;rw[d] at d2;cases d2
  obtain⟨_,o2,e2,_⟩:=I1.ok.oV.mem z;have a1:=I1.ok.cab y c h4 h3;have a2:=lt_size e2;exact absurd (lt_of_lt_of_le a2 a1) (lt_irrefl _)
 have gk:∀c o,g c=some o->s1.heap.get? c=some o/\H1 c=none/\c∉frs X.stack:=fun c o e=>⟨(gin c o e).2,fr1 c o e,nfr c o e⟩;have e0:=I1.env0;have e1:CN X.prog X.w X.K X.mg X.base X.A X.stack s1 (rB g H1):=by
  refine⟨e0.frames,e0.mod,fun b o e=>⟨(e0.bs b o e).1,?_⟩,e0.bsz,e0.oV,fun b hm=>?_,Ri e0.hok fun c o e=>⟨(gk c o e).1,(gk c o e).2.1⟩,e0.bare⟩
  ·cases hgb:g b with
   | none=>exact(fG hgb).trans (e0.bs b o e).2
   | some o2=>
    obtain⟨i,y,_,h3,h4⟩:=own b o2 hgb;have a1:=I1.ok.cab y b h4 h3;have a2:=lt_size e;have a3:=I1.ok.bsz;exact absurd (lt_of_lt_of_le a2 (le_trans a3 a1)) (lt_irrefl _)
  cases hgb:g b with
  | none=>exact(fG hgb).trans (e0.frf b hm)
  | some o2=>exact absurd hm (nfr b o2 hgb)
 have r2:Vals (vs++[]) (us++[]):=r.append .nil;have q2:sp (vs++[]) (rB g H1) (fun v H2=>(∀c o,g c=some o->H2 c=some (oO c o))/\Q v (lF g H2)) E0:=by
  rw[append_nil];exact q g G
 have hl:(us++[]).length=ps.length:=by rw[<- r2.length];exact F.len _ _ _ _ q2
 refine wpAny_call (codeAny_mono (F.run X.A X.stack s1 (rB g H1) ⟨us,[]⟩ (us++[]) (vs++[]) _ E0 hr e1 (hb s1 us I1.kIn hl) r2 q2) fun r s' hq=>?_);cases r with
 | error e=>exact(KQ pins σ H1 s1 e s' I1 hq)
 | ok fl=>
  cases fl with
  | ret u=>
   obtain⟨v,H2,os,bare,un,hok,rv,hk2,q3⟩:=hq;exact I1.after ⟨v,lF g H2,os,bare,Q5 un hok gk hk2,Mz hok hk2,rv,q3⟩
  | next=>exact False.elim hq
  | brk=>exact False.elim hq
  | cont=>exact False.elim hq
end
theorem ur {pos pos2:Pos}{c:Value}(hne:pos2.line≠pos.line\/pos2.col≠pos.col)(l:List Value)(h:TriplesOk l):codeAmong pos2 (l++[rawInt pos.line,rawInt pos.col,c])=codeAmong pos2 l:=by
 fun_induction TriplesOk l with
 | case1=>
  simp only[nil_append,codeAmong,rawInt];rw[if_neg];intro z;rw[and_eq_true] at z;have z1:(pos.line:Int)=(pos2.line:Int):=eq_of_beq z.1;have z2:(pos.col:Int)=(pos2.col:Int):=eq_of_beq z.2;omega
 | case2 a t b u x rest ih=>
  simp only[cons_append,codeAmong];rw[ih h]
 | case3 l h1 h2=>exact h.elim
section
variable {X:Cx}{pins:List (Addr×Obj)}{σ:St}{H:Hp}{s:Shared}{E:Value->Shared->Prop}{c P:Addr}{params:Arguments}{body:Expr}{scope:Scope}{pos:Pos}{qual:Str}{Q:Value->Shared->Prop}
theorem Ia {cl:List (Str×Addr)}(I:Inv X pins σ H s) (hcl:closureFor scope X.env=pure cl) (hdef:defaultsOf params X.env=([],[])) (hcode:X.env.code=.ref c) (C:PySem.W.CodeHd X.base c P) (hb:X.base.BuiltinsAt X.mg P) (hq:X.env.qual ++ "<lambda>" = qual) (hL:gU H P pos qual)
  (h:∀(f c':Addr)(ctv pm:Value)(H':Hp)(s':Shared),Inv X pins σ H' s'->s.heap.objs.size<=f->H' f=none->s'.heap.get? f=some (PySem.W.kla_obj "<lambda>" qual params body scope cl pm c' ctv)->H' c'=some (nF c' qual)->gU H' P pos qual->aV P H H'->(∀(pos2:Pos) q2,(pos2.line≠pos.line\/pos2.col≠pos.col)->gU H P pos2 q2->gU H' P pos2 q2)->Q (.ref f) s') :
  wpAny (model X.prog X.w) X.A (eval (.Lambda params body scope pos) X.env) Q E s:=by
 refine PySem.W.kla_eval hdef ?_;rw[hq];obtain⟨ps,hP,ht,hk⟩:=hL;have kb:=I.bk;have hPh:s.heap.get? P=some (PySem.W.tabObj ps):=I.hok P _ hP;have hg:s.heap.Ns mainGlobals X.mg:=I.mod.glob.keeps kb;have hgP:mainGlobals≠P:=fun z=>by
  obtain⟨o,es,ep,e,d,_⟩:=hg;rw[z,hPh] at e;cases e;cases d
 have hbs:s.heap.BuiltinsAt X.mg P:=by
  obtain⟨bm,o,e1,e2,e3,e4,e5,r⟩:=hb;exact⟨bm,o,e1,e2,e3,e4,kb _ _ e5,r⟩
 have hC:PySem.W.CodeHd s.heap c P:=C.keeps kb;have hsz:=I.hok;rcases hk with hnf|⟨c',hf,hc'⟩
 ·refine PySem.W.kla_makeFunction hcl I.ok.glob hg hcode hC hPh ht hnf hgP hbs fun c' ctv h' tk hx hge hlt hrec htb=>?_;have hcn:H c'=none:=I.hok.fresh hge;have ncP:c'≠P:=fun z=>by rw[z,hP] at hcn;cases hcn
  obtain⟨H',hH'⟩:∃H',H'=upd (upd H P (.tbl (ps ++ #[rawInt pos.line,rawInt pos.col,.ref c']))) c' (nF c' qual):=⟨_,rfl⟩;have oth:∀b,b≠P->b≠c'->H' b=H b:=fun b n1 n2=>by rw[hH',aO n2,aO n1]
  have atP:H' P=some (.tbl (ps ++ #[rawInt pos.line,rawInt pos.col,.ref c'])):=by rw[hH',aO ncP.symm,aB]
  have atC:H' c'=some (nF c' qual):=by rw[hH',aB]
  have up:∀b o,b≠P->s.heap.get? b=some o->(h'.push (PySem.W.kla_obj "<lambda>" qual params body scope cl ((X.mg "__name__").getD .none) c' ctv)).get? b=some o:=fun b o n e=>get?_push_of_some _ (hx b o n e);have old:∀{b o},s.heap.get? b=some o->b≠c':=fun {b o} e=>ne_of_lt (lt_of_lt_of_le (lt_size e) hge);have lc:∀{b o},H b=some o->b≠c':=fun {b o} e z=>by rw[z,hcn] at e;cases e
  have nP:∀{b o},s.heap.get? b=some o->H b=none->b≠P:=fun {b o} _ n z=>by rw[z,hP] at n;cases n
  have fH:H' h'.objs.size=none:=by
   have hs:s.heap.objs.size<=h'.objs.size:=le_of_lt (Nat.lt_of_le_of_lt hge hlt);have:H h'.objs.size=none:=I.hok.fresh hs;rw[oth _ (fun z=>by rw[z,hP] at this;cases this) (ne_of_gt hlt)];exact this
  have un:Un X.fs [] H H' s.heap (h'.push (PySem.W.kla_obj "<lambda>" qual params body scope cl ((X.mg "__name__").getD .none) c' ctv)):=by
   refine⟨fun b o e n _ _=>up b o (nP e n) e,fun b o e n _ _=>⟨o.slots,up b o (nP e n) e⟩,fun b o e n _=>by rw[oth b (nP e n) (old e)];exact n,fun b o e _=>?_,fun b xs e=>?_,fun b o u e=>?_,fun b qs e=>?_⟩
   ·by_cases z:b=P
    ·rw[z];exact⟨_,get?_push_of_some _ htb⟩
    exact⟨o,up b o z e⟩
   ·rw[oth b (fun z=>by rw[z,hP] at e;cases e) (lc e)];exact e
   ·rw[oth b (fun z=>by rw[z,hP] at e;cases e) (lc e)];exact e
   by_cases z:b=P
   ·rw[z,hP] at e;cases e;rw[z];exact⟨_,atP⟩
   rw[oth b z (lc e)];exact⟨#[],by rw[e];simp⟩
  have hrec2:(h'.push (PySem.W.kla_obj "<lambda>" qual params body scope cl ((X.mg "__name__").getD .none) c' ctv)).CodeRec (.ref c') qual:=by
   obtain⟨c1,o,vs,t,ec,ho,r⟩:=hrec;exact⟨c1,o,vs,t,ec,get?_push_of_some _ ho,r⟩
  have hok:HOk X.prog X.w H' (h'.push (PySem.W.kla_obj "<lambda>" qual params body scope cl ((X.mg "__name__").getD .none) c' ctv)):=fun b u e=>by
   by_cases z1:b=c'
   ·rw[z1,atC] at e;cases e;rw[z1];exact MN hrec2
   by_cases z2:b=P
   ·rw[z2,atP] at e;cases e;rw[z2];exact get?_push_of_some _ htb
   rw[oth b z2 z1] at e;refine(I.hok b u e).stay (fun d v hd q=>up d v (fun z=>?_) q) (fun d q=>?_) fun d xs q=>?_
   ·rcases hd with hd|hd
    ·exact z2 (hd.symm.trans z)
    rw[z,hP] at hd;cases hd
   ·rw[oth d (fun z=>by rw[z,hP] at q;cases q) (lc q)];exact q
   rw[oth d (fun z=>by rw[z,hP] at q;cases q) (lc q)];exact q
  refine h h'.objs.size c' ctv _ H' _ (I.un (t':=tk) un hok) (le_of_lt (Nat.lt_of_le_of_lt hge hlt)) fH (get?_push_size _ rfl) atC ⟨_,atP,?_,.inr ⟨c',?_,atC⟩⟩ (fun b o n e=>by rw[oth b n (lc e)];exact e) fun pos2 q2 hne ⟨ps2,e2,t2,k2⟩=>?_
  ·rw[toList_append];exact TriplesOk_snoc _ _ _ _ ht
  ·rw[toList_append];exact codeAmong_snoc _ ht hnf
  rw[hP] at e2;cases e2;refine⟨_,atP,?_,?_⟩
  ·rw[toList_append];exact TriplesOk_snoc _ _ _ _ ht
  rw[toList_append];rw[show codeAmong pos2 (ps.toList++[rawInt pos.line,rawInt pos.col,.ref c'])=codeAmong pos2 ps.toList from ur hne _ ht];exact k2.imp id fun⟨c2,a,b⟩=>⟨c2,a,by rw[oth c2 (fun z=>by rw[z,hP] at b;cases b) (lc b)];exact b⟩
 refine PySem.W.kla_makeFunctionHit hcl I.ok.glob hg hcode hC hPh ht hf hbs fun ctv h' tk hx hge=>?_;have kp:∀b o,s.heap.get? b=some o->(h'.push (PySem.W.kla_obj "<lambda>" qual params body scope cl ((X.mg "__name__").getD .none) c' ctv)).get? b=some o:=fun b o e=>get?_push_of_some _ (hx b o e);refine h h'.objs.size c' ctv _ H _ (I.kept (t':=tk) kp) hge (I.hok.fresh hge) (get?_push_size _ rfl) hc' ⟨ps,hP,ht,.inr ⟨c',hf,hc'⟩⟩ (aV.refl _ _) fun _ _ _ z=>z
end
end L2
set_option maxHeartbeats 8000000
namespace L2
open PySem PySem.Spec PyProof.Rows
end L2
set_option maxHeartbeats 4000000
namespace L2
open PySem PySem.Spec PyProof.Rows
end L2
namespace SRT
open PySem PySem.Builtin PySem.Builtin.List PyProof.Rows
noncomputable def Nu:SortKind:=(sortPriv% PySem.Builtin.KeyKind.tuples) true
end SRT
namespace SRT
open PySem PyProof.Rows
structure RB (a₀:Array Keyed)(st:SortSt):Prop where
 kind:kindOf st=Nu
 perm:(arrOf st).toList.Perm a₀.toList
 fail:failedOf st=none
 pend:pendingOf st=#[]
end SRT
namespace SRT
open PySem PyProof.Rows
end SRT
namespace SRT
open PySem PyProof.Rows
end SRT
namespace SRT
open PySem PyProof.Rows
end SRT
namespace L2
open PySem PySem.Spec PyProof.Rows
section
variable {X:Cx}{pins:List (Addr×Obj)}{σ:St}{H:Hp}{s:Shared}
theorem Inv.track {f:Addr}{o:HO}(I:Inv X pins σ H s)(hf:rC X pins H f)(new:dh X.prog X.w (upd H f o) s.heap f o):Inv X pins σ (upd H f o) s:=by
 obtain⟨fn,fl,ffs,fe,fc,fp⟩:=hf;have oth:∀{b u},H b=some u->upd H f o b=some u:=fun {b u} e=>by rw[aO (aF e fn)];exact e
 refine⟨I.ok,I.os,I.bare,⟨I.base.keep,I.base.slot,fun b u e n nx=>?_,I.base.there,fun b xs e=>oth (I.base.tups b xs e),fun b u v e=>oth (I.base.frzs b u v e),fun b ps e=>?_⟩,I.loc,I.cell,?_,fun x c e=>?_,fun p hp=>?_,fun b u e=>?_,I.len⟩
 ·have:b≠f:=fun z=>by
   rcases fe with fe|fe
   ·exact nx (z ▸ fe)
   exact absurd (lt_size e) (Nat.not_lt.mpr (by rw[z];exact fe))
  rw[aO this];exact I.base.free b u e n nx
 ·obtain⟨m,em⟩:=I.base.tbls b ps e;exact⟨m,oth em⟩
 ·rw[aO (Ne.symm fl)];exact I.free
 ·rw[aO (fc x c e)];exact I.freeC x c e
 ·obtain⟨a1,a2,a3⟩:=I.pin p hp;refine⟨a1,?_,a3⟩;rw[aO (fp p hp)];exact a2
 by_cases z:b=f
 ·rw[z,aB] at e;cases e;rw[z];exact new
 rw[aO z] at e;exact(I.hok b u e).stay (fun _ _ _ q=>q) (fun _ q=>oth q) fun _ _ q=>oth q
end
noncomputable def Jx (T:Addr)(pos:Pos)(qual:Str)(params:Arguments)(body:Expr)(scope:Scope)(cl:List (Str×Addr)):TE:=fun _ H Q=>gU H T pos qual /\
 ∀(f c':Addr)(ctv pm:Value)(H':Hp),aV T H H'->H f=none->H' f=some (oO f (PySem.W.kla_obj "<lambda>" qual params body scope cl pm c' ctv))->H' c'=some (nF c' qual)->gU H' T pos qual ->
  (∀(pos2:Pos) q2,(pos2.line≠pos.line\/pos2.col≠pos.col)->gU H T pos2 q2->gU H' T pos2 q2)->Q (.ref f) H'
section
variable {X:Cx}{c T:Addr}{params:Arguments}{body:Expr}{scope:Scope}{pos:Pos}{qual:Str}{cl:List (Str×Addr)}
theorem Pk (hcl:closureFor scope X.env=pure cl) (hdef:defaultsOf params X.env=([],[])) (hcode:X.env.code=.ref c) (C:PySem.W.CodeHd X.base c T) (hb:X.base.BuiltinsAt X.mg T) (hq:X.env.qual ++ "<lambda>" = qual) :
  PE X (.Lambda params body scope pos) (Jx T pos qual params body scope cl):=by
 intro pins s σ H Q I h;obtain⟨hL,q⟩:=h;refine Ia I hcl hdef hcode C hb hq hL fun f c' ctv pm H2 s2 I2 hfs hfn hfo hcc hL2 sx oth=>?_;have fp:rC X pins H2 f:=I.Io hfs hfn;have I3:=I2.track fp (FP hfo);have s23:Same H2 (upd H2 f (oO f (PySem.W.kla_obj "<lambda>" qual params body scope cl pm c' ctv))):=aq hfn;exact⟨.ref f,_,I3,rfl,q f c' ctv pm _ (sx.trans s23.x) (I.hok.fresh hfs) aB (s23 _ _ hcc) (hL2.same s23) fun pos2 q2 ne z=>(oth pos2 q2 ne z).same s23⟩
end
section
variable {X:Cx}{c T:Addr}{params:Arguments}{body:Expr}{scope:Scope}{p pos:Pos}{qual x:Str}{cl:List (Str×Addr)}{k i:Nat}{ps:List Str}{sp:Sp}{e:Expr}{es:List Expr}{ta:TA}
theorem Ft (hcl:closureFor scope X.env=pure cl) (hdef:defaultsOf params X.env=([],[])) (hcode:X.env.code=.ref c) (C:PySem.W.CodeHd X.base c T) (hb:X.base.BuiltinsAt X.mg T) (hq:X.env.qual ++ "<lambda>" = qual) :
  QE X (.Lambda params body scope pos) (Jx T pos qual params body scope cl):=⟨Pk hcl hdef hcode C hb hq⟩
theorem Bf (hr:gm k X.A)(hn:Nm X.N X.env.scope i x)(ha:QA X [e] ta)(he:starEach [e] X.env=(false,eval e X.env)::starEach [] X.env:=by rfl)(hpl:(backTo pos (starEach [] X.env)).any (·.1)=false:=by rfl) :
  QE X (.Call (.Name x p) [e] [] pos) (yq X.prog X.w X.K X.mg X.base k i ta):=⟨KJ hr KQ (pn hn) ha.h he hpl⟩
theorem Ss {cs:List (Nat×Addr)}(C:Cal X.prog X.w X.K X.mg X.base x k ps sp)(hr:gm k X.A)(hg:Gl X x)(hdb:Bn x)(hcs:∀i c,(i,c)∈cs->∃y,X.N[i]?=some y/\X.env.kindOf y=some .cell/\X.env.cells.lookup y=some c/\X.fn y=true)
  (ha:QA X (e::es) ta) (he:starEach (e::es) X.env=(false,eval e X.env)::starEach es X.env:=by rfl) (hpl:(backTo pos (starEach es X.env)).any (·.1)=false:=by rfl):QE X (.Call (.Name x p) (e::es) [] pos) (Dd sp cs ta):=
 ⟨Tj C hr hg cs hcs ha.h hdb.hd he hpl⟩
end
theorem HX {P:Program}{w:World}{K:PySem.W.Frag}{mg mb:Str->Option Value}{CX:CXT}{k:Nat}{fa a c T:Addr}{fd:FuncData}{x:Str}{sp:Sp}{s₁:Shared}{vs:List Value}{ns:List Int}
  (KX:K.In s₁.heap) (hns:s₁.heap.Ns mainGlobals mg) (hb:s₁.heap.Ns builtinsNs mb) (hbb:∀x:Str,x ≠ "__name__" -> mb x=bootBuiltins x) (hlim:s₁.heap.NoLimit) (hg:s₁.gens=#[])
  (ha:s₁.heap.get? a=some { cls:=.type "list",data:=.seq vs.toArray }) (hi:IntsAre vs ns) (hl:ns.length<=sizeLine) (hr:gm k callerA)
  (hcd:PySem.W.CodeHd s₁.heap c T) (hT:s₁.heap.get? T=some (PySem.W.tabObj #[])) (hKT:K.lookup T=none) (hBu:s₁.heap.BuiltinsAt mg T)
  (F:∀base:Heap,K.In base->base.Ns mainGlobals mg->base.BuiltinsAt mg T->dM P w K mg base CX k fa fd [x] sp) (hbind:∀(s:Shared)(u:Value),BindsTo s fd ⟨[u],[]⟩ [(x,u)])
  (hsp:∀H:Hp,H T=some (.tbl #[])->SqL K H a (ns.map V.int)->sp [.ref a] H (fun v _=>v=.bl true) fun _ _ _=>False)
  (hCX:∀H e s',CX [] H s₁ (fun _ _ _=>False) e s'->False) :
  codeAny (model P w) callerA (.call (.ref fa) ⟨[.ref a],[]⟩) (fun r s'=>r=.ok (.ret (.bool true))/\OldK s₁.heap s'.heap/\s'.os=s₁.os/\AllBare s'.gens) s₁:=by
 have rv:=wY hi;have lenV:=hi.length;have naT:a≠T:=fun z=>by rw[z,hT] at ha;cases ha
 have core:∀H:Hp,H T=some (.tbl #[])->SqL K H a (ns.map V.int)->HOk P w H s₁.heap->(∀b,b≠T->H b=none\/(b=a/\K.lookup a=none/\∃o xs,H b=some (.frz o (.lst xs)))) ->
   codeAny (model P w) callerA (.call (.ref fa) ⟨[.ref a],[]⟩) (fun r s'=>r=.ok (.ret (.bool true))/\OldK s₁.heap s'.heap/\s'.os=s₁.os/\AllBare s'.gens) s₁:=by
  intro H hHT hS hok hA;have base_of:∀{b:Addr}{o:Obj},s₁.heap.get? b=some o->H b=none->(wI s₁.heap H).get? b=some o:=fun e n=>Mh e n;have noA:∀{b:Addr}{o:Obj},s₁.heap.get? b=some o->b≠T->b≠a->H b=none:=fun {b o} _ n1 n2=>by
   rcases hA b n1 with z|z
   ·exact z
   exact absurd z.1 n2
  have nsK:∀{b:Addr}{m:Str->Option Value},s₁.heap.Ns b m->(wI s₁.heap H).Ns b m:=fun {b m} ⟨o,es,ep,e,d,r⟩=>⟨o,es,ep,base_of e (noA e (fun z=>by rw[z,hT] at e;cases e;cases d) fun z=>by
   rw[z,ha] at e;cases e;have d':Data.seq vs.toArray _=Data.dict es ep:=d;cases d'),d,r⟩
  have hKb:K.In (wI s₁.heap H):=fun b o e=>base_of (KX b o e) (by
   rcases hA b (fun z=>by rw[z,hKT] at e;cases e) with z|⟨z,z2,_⟩
   ·exact z
   rw[z,z2] at e;cases e)
  have hBb:(wI s₁.heap H).BuiltinsAt mg T:=by
   obtain⟨bm,o,e1,e2,e3,e4,e5,e6,e7,e8⟩:=hBu;exact⟨bm,o,e1,e2,e3,e4,base_of e5 (noA e5 e4 fun z=>by rw[z,ha] at e5;cases e5;cases e8),e6,e7,e8⟩
  have hM:Mod K mg (wI s₁.heap H):=⟨hKb,nsK hns,⟨mb,nsK hb,hbb⟩,let ⟨mc,h1,h2⟩:=hlim;⟨mc,nsK h1,h2⟩⟩;have e0:CN P w K mg (wI s₁.heap H) callerA [] s₁ H:=⟨rfl,hM,fun b o e=>Qi e,Nat.le_of_eq (Ig _ _),trivial,fun b hb=>absurd (show b∈([]:List Addr) from hb) (by simp),hok,.of_eq hg⟩;refine codeAny_mono ((F _ hKb (nsK hns) hBb).run callerA [] s₁ H ⟨[.ref a],[]⟩ [.ref a] [.ref a] _ _ hr e0 (hbind s₁ (.ref a)) (.cons rfl .nil) (hsp H hHT hS)) fun r s' h=>?_;cases r with
  | error e=>exact(hCX H e s' h).elim
  | ok fl=>
   cases fl with
   | next=>exact False.elim h
   | brk=>exact False.elim h
   | cont=>exact False.elim h
   | ret u=>
    obtain⟨v,H',os,bare,un,hok',r',q⟩:=h;have q':v=.bl true:=q;subst q';obtain rfl:u=Value.bool true:=r';have kp:∀b o,b≠T->s₁.heap.get? b=some o->s'.heap.get? b=some o:=fun b o n e=>by
     rcases hA b n with z|⟨_,_,ob,xs,z⟩
     ·exact un.keep b o e z (by intro z;exact absurd (show b∈([]:List Addr) from z) (by simp)) (by simp)
     have z2:=un.frzs b ob _ z;obtain⟨e1,_⟩:=hok b _ z;obtain⟨e2,_⟩:=hok' b _ z2;rw[e] at e1;cases e1;exact e2
    obtain⟨more,hm⟩:=un.tbls T _ hHT;have hT':s'.heap.get? T=some { cls:=.none,data:=.fields (#[]++more) }:=hok' T _ hm;refine⟨rfl,⟨fun b o e=>?_,fun b o e=>?_⟩,os,bare⟩
    ·by_cases z:b=T
     ·subst z;rw[hT] at e;cases e;obtain⟨oc,ws,_,_,_,_,_,_,_,c1,c2,c3,c4,_⟩:=hcd;exact .inr (.inl ⟨⟨c,oc,ws,c1,c2,c3,c4⟩,rfl,#[],more,rfl,hT'⟩)
     exact .inl (kp b o z e)
    by_cases z:b=T
    ·rw[z];exact⟨_,hT'⟩
    exact⟨o,kp b o z e⟩
 cases hk:K.lookup a with
 | some o=>
  have e:=KX a o hk;rw[ha] at e;cases e;refine core (fun b=>if b=T then some (.tbl #[]) else none) (if_pos rfl) (.inr ⟨_,vs.toArray,_,hk,rfl,rfl,rfl,by rw[size_toArray,lenV];exact hl,by simpa using rv⟩) (fun b u z=>?_) fun b n=>.inl (if_neg n);by_cases hbT:b=T
  ·have z':=(if_pos hbT).symm.trans z;cases z';rw[hbT];exact hT
  have z':=(if_neg hbT).symm.trans z;cases z'
 | none=>
  refine core (fun b=>if b=T then some (.tbl #[]) else if b=a then some (.frz { cls:=.type "list",data:=.seq vs.toArray } (.lst (ns.map V.int))) else none) (if_pos rfl) (.inl (.inr ⟨{ cls:=.type "list",data:=.seq vs.toArray },(if_neg naT).trans (if_pos rfl)⟩)) (fun b u z=>?_) fun b n=>?_
  ·by_cases hbT:b=T
   ·have z':=(if_pos hbT).symm.trans z;cases z';rw[hbT];exact hT
   by_cases hba:b=a
   ·have z':=((if_neg hbT).trans (if_pos hba)).symm.trans z;cases z';subst hba;exact⟨ha,by rw[length_map];exact hl,vs,_,rv,ha⟩
   have z':=((if_neg hbT).trans (if_neg hba)).symm.trans z;cases z'
  by_cases hba:b=a
  ·exact .inr ⟨hba,hk,_,_,(if_neg n).trans (if_pos hba)⟩
  exact .inl ((if_neg n).trans (if_neg hba))
theorem Jm {l:PySem.W.OpenLaw}{n k:Nat}{q:Program}{loose:List Str}{XP:(Str->Option Value)->Heap->Prop}{YP:World->Heap->Prop}{d:DefRec}{K:Params->PySem.W.Frag}{CX:World->CXT}{sp:World->Sp}{x:Str}{c T:Addr}
  (hn:l.most=some n) (hn2:n<=sizeLine) (hdf:d.params.defaults=[]) (hr:gm k callerA)
  (hY:∀(w:World)(h:Heap),YP w h->(K w.params).In h/\h.get? T=some (PySem.W.tabObj #[])/\(K w.params).lookup T=none/\PySem.W.CodeHd h c T)
  (F:∀(w:World)(mg:Str->Option Value)(fa:Addr)(h:Heap),(K w.params).In h->h.Ns mainGlobals mg->mg d.name=some (.ref fa) ->
   ∃fd:FuncData,(∀(s:Shared)(u:Value),BindsTo s fd ⟨[u],[]⟩ [(x,u)]) /\
    ∀base:Heap,(K w.params).In base->base.Ns mainGlobals mg->base.BuiltinsAt mg T->dM l.prog w (K w.params) mg base (CX w) k fa fd [x] (sp w))
  (hsp:∀(w:World)(H:Hp)(a:Addr)(ns:List Int),ns.length<=n->H T=some (.tbl #[])->SqL (K w.params) H a (ns.map V.int)->sp w [.ref a] H (fun v _=>v=.bl true) fun _ _ _=>False)
  (hCX:∀(w:World)(H:Hp)(s:Shared)(e:Value)(s':Shared),CX w [] H s (fun _ _ _=>False) e s'->False) :
  PySem.W.WalkO q loose XP YP l.row.toRowW d [] (fun f vs=>PySem.call f vs):=by
 refine Att.CJ hn hdf fun w s₀ s₁ mg mb fa o pm cd doc a vs ns G Y ho hd hcd hmg hobj hints hlen hg=>?_;obtain⟨KX,hT,hKT,hC⟩:=hY w _ Y;obtain⟨fd,hb,hF⟩:=F w mg fa _ KX G.T.g hmg;have hBu:s₁.heap.BuiltinsAt mg T:=by
  obtain⟨bm,ob,b1,b2,b3,b4,b5,b6⟩:=G.T.bmain;refine⟨bm,ob,b1,b2,fun z=>?_,fun z=>?_,b3,b4,b5,b6⟩
  ·obtain⟨o',es,ep,e,d',_⟩:=G.T.g;rw[<- z,b3] at e;cases e;rw[b6] at d';cases d'
  rw[z,hT] at b3;cases b3;cases b6
 exact HX KX G.T.g G.T.b G.T.builtins G.T.nolimit hg hobj hints (le_trans hlen hn2) hr hC hT hKT hBu hF hb (fun H hO hS=>hsp w H a ns hlen hO hS) fun H e s'=>hCX w H s₁ e s'
noncomputable def Rv (H:Hp)(a:Addr):Prop:=∃xs,H a=some (.lst xs)\/H a=some (.tup xs)
mutual
theorem aG.seq {ok:Addr->Prop}{H:Hp}:∀{v:V}{d:PyData},aG ok H v d->aG (fun a=>ok a/\Rv H a) H v d
 | _,_,.non=>.non
 | _,_,.bl b=>.bl b
 | _,_,.int i=>.int i
 | _,_,.str x=>.str x
 | _,_,.lst o e z t=>.lst ⟨o,_,.inl e⟩ e z t.seq
 | _,_,.tup o e z t=>.tup ⟨o,_,.inr e⟩ e z t.seq
theorem aH.seq {ok:Addr->Prop}{H:Hp}:∀{vs:List V}{ds:List PyData},aH ok H vs ds->aH (fun a=>ok a/\Rv H a) H vs ds
 | _,_,.nil=>.nil
 | _,_,.cons h r=>.cons h.seq r.seq
end
theorem aG.hid {ok:Addr->Prop}{H:Hp}{cs:List Addr}(hc:∀c∈cs,∃φ,H c=some (.ext φ)){v:V}{d:PyData}(t:aG ok H v d):aG ok (hidC cs H) v d:=t.seq.keep fun a o h e=>by
 obtain⟨h1,xs,h2⟩:=h;refine⟨h1,?_⟩;rw[dU fun z=>?_]
 ·exact e
 obtain⟨φ,e2⟩:=hc a z;rw[e2] at h2;rcases h2 with h2|h2 <;> cases h2
theorem aP.hid {H:Hp}{cs:List Addr}(hc:∀c∈cs,∃φ,H c=some (.ext φ)){p:Addr}{B:Int}(t:aP H p B):aP (hidC cs H) p B:=by
 obtain⟨a,b,c,e,r⟩:=t;refine⟨a,b,c,?_,r⟩;rw[dU fun z=>?_]
 ·exact e
 obtain⟨φ,e2⟩:=hc p z;rw[e2] at e;cases e
theorem iI.ext {H:Hp}{c:Addr}{u:Value}(h:iI H c u):∃φ,H c=some (.ext φ):=by
 obtain⟨o,e,_⟩:=h;exact⟨_,e⟩
theorem sX {H:Hp}{p c:Addr}{B:Int}{φ:Heap->Prop}(tp:aP H p B)(e:H c=some (.ext φ)):c≠p:=fun z=>by
 obtain⟨_,_,_,e2,_⟩:=tp.ex;rw[z,e2] at e;cases e
theorem fV:∀p:Pg,2*iy p<=nodes (pgD p)+1
 | .pick l=>by show 2*1<=_;have:=kZ (pgD (.pick l));omega
 | .tab=>by show 2*1<=_;have:=kZ (pgD .tab);omega
 | .odd d=>by show 2*1<=_;have:=kZ (pgD (.odd d));omega
 | .one k r=>by
  have:=fV r;show 2*(iy r+1)<=1+(1+(1+(nodes (pgD r)+0)))+1;omega
 | .wit k r=>by
  have:=fV r;show 2*(iy r+1)<=1+(1+(1+(nodes (pgD r)+0)))+1;omega
 | .msk k r=>by
  have:=fV r;show 2*(iy r+1)<=1+(1+(1+(nodes (pgD r)+0)))+1;omega
 | .low k a b=>by
  have:=fV a;have:=fV b;show 2*(iy a+iy b+1)<=1+(1+(1+(nodes (pgD a)+(nodes (pgD b)+0))))+1;omega
theorem fW:∀p:Pg,gC p<=(pgD p).depth
 | .pick l=>zero_le _
 | .tab=>zero_le _
 | .odd d=>zero_le _
 | .one k r=>by
  have:=fW r;have:=bJ (ds:=[.str "is",.int (k:Int),pgD r]) (x:=pgD r) (by simp);show gC r+1<=(PyData.tuple _).depth;rw[PyData.depth.eq_2];omega
 | .wit k r=>by
  have:=fW r;have:=bJ (ds:=[.str "within",.int (k:Int),pgD r]) (x:=pgD r) (by simp);show gC r+1<=(PyData.tuple _).depth;rw[PyData.depth.eq_2];omega
 | .msk k r=>by
  have:=fW r;have:=bJ (ds:=[.str "mask",.int k,pgD r]) (x:=pgD r) (by simp);show gC r+1<=(PyData.tuple _).depth;rw[PyData.depth.eq_2];omega
 | .low k a b=>by
  have:=fW a;have:=fW b;have:=bJ (ds:=[.str "below",.int (k:Int),pgD a,pgD b]) (x:=pgD a) (by simp);have:=bJ (ds:=[.str "below",.int (k:Int),pgD a,pgD b]) (x:=pgD b) (by simp);show max (gC a) (gC b)+1<=(PyData.tuple _).depth;rw[PyData.depth.eq_2];omega
theorem jA:∀p:Pl,nodes (plD p)<=3*j8 p
 | .pick l=>by show 1+(1+(1+0))<=3*1;omega
 | .tab=>by show 1+(1+0)<=3*1;omega
 | .one k r=>by have:=jA r;show 1+(1+(1+(nodes (plD r)+0)))<=3*(j8 r+1);omega
 | .wit k r=>by have:=jA r;show 1+(1+(1+(nodes (plD r)+0)))<=3*(j8 r+1);omega
 | .msk k r=>by have:=jA r;show 1+(1+(1+(nodes (plD r)+0)))<=3*(j8 r+1);omega
 | .low k a b=>by have:=jA a;have:=jA b;show 1+(1+(1+(nodes (plD a)+(nodes (plD b)+0))))<=3*(j8 a+j8 b+1);omega
theorem jB:∀p:Pl,(plD p).depth<=mX p+1
 | .pick l=>by show(PyData.tuple [_,_]).depth<=0+1;rw[PyData.depth.eq_2];exact succ_le_succ (cX fun d hd=>by
   rcases mem_cons.mp hd with rfl|hd
   ·exact zero_le _
   rw[mem_singleton.mp hd];exact zero_le _)
 | .tab=>by show(PyData.tuple [_]).depth<=0+1;rw[PyData.depth.eq_2];exact succ_le_succ (cX fun d hd=>by rw[mem_singleton.mp hd];exact zero_le _)
 | .one k r=>by
  have h:=jB r;show(PyData.tuple [_,_,plD r]).depth<=mX r+1+1;rw[PyData.depth.eq_2];refine succ_le_succ (cX fun d hd=>?_);rcases mem_cons.mp hd with rfl|hd
  ·exact zero_le _
  rcases mem_cons.mp hd with rfl|hd
  ·exact zero_le _
  rw[mem_singleton.mp hd];exact h
 | .wit k r=>by
  have h:=jB r;show(PyData.tuple [_,_,plD r]).depth<=mX r+1+1;rw[PyData.depth.eq_2];refine succ_le_succ (cX fun d hd=>?_);rcases mem_cons.mp hd with rfl|hd
  ·exact zero_le _
  rcases mem_cons.mp hd with rfl|hd
  ·exact zero_le _
  rw[mem_singleton.mp hd];exact h
 | .msk k r=>by
  have h:=jB r;show(PyData.tuple [_,_,plD r]).depth<=mX r+1+1;rw[PyData.depth.eq_2];refine succ_le_succ (cX fun d hd=>?_);rcases mem_cons.mp hd with rfl|hd
  ·exact zero_le _
  rcases mem_cons.mp hd with rfl|hd
  ·exact zero_le _
  rw[mem_singleton.mp hd];exact h
 | .low k a b=>by
  have h:=jB a;have h2:=jB b;show(PyData.tuple [_,_,plD a,plD b]).depth<=max (mX a) (mX b)+1+1;rw[PyData.depth.eq_2];refine succ_le_succ (cX fun d hd=>?_);rcases mem_cons.mp hd with rfl|hd
  ·exact zero_le _
  rcases mem_cons.mp hd with rfl|hd
  ·exact zero_le _
  rcases mem_cons.mp hd with rfl|hd
  ·omega
  rw[mem_singleton.mp hd];omega
theorem Ly {ss:Sts}(hr:wX ss){k:Nat}(h:k<ss.length):(lbl ss k).natAbs<=10^20*2^0:=by
 have e:ss[k]?=some ss[k]:=getElem?_eq_getElem h;have h1:=(hr.lh k _ e).2;have h2:lbl ss k=ss[k].2.2:=by show(ss.getD k (0,0,0)).2.2=_;simp [h]
 rw[h2];omega
theorem sz3 {s:String}{i:Int}{ds:List PyData}(hs:s.length<=30)(hi:i.natAbs<=10^20*2^0)(hl:ds.length<=2)(h:∀d∈ds,szD 0 d):szD 0 (.tuple (.str (Str.ofString s) :: .int i::ds)):=by
 refine⟨by rw[length_cons,length_cons];omega,eO.mpr fun d hd=>?_⟩;rcases mem_cons.mp hd with rfl|hd
 ·exact fj s 0 hs
 rcases mem_cons.mp hd with rfl|hd
 ·exact hi
 exact h d hd
theorem rQ {ss:Sts}(hr:wX ss)(h60:ss.length<=60):∀{p:Pl}{left:List Nat},PlV ss p left->szD 0 (plD p)
 | .pick l,left,h=>by
  have hl:l.natAbs<=10^20*2^0:=by
   cases left with
   | nil=>exact absurd rfl h.1.ne
   | cons k r=>
    rw[<- h.2 k mem_cons_self];exact Ly hr (h.1.lt k mem_cons_self)
  exact sz3 (s := "pick") δ hl δ fun d hd=>nomatch hd
 | .tab,left,h=>⟨by show 1<=210*5^0;decide,fj "table" 0 δ,trivial⟩
 | .one k r,left,h=>by
  have:=h.1.1.lt k h.1.2.1;exact sz3 (s := "is") δ ω (by show 1<=2;decide) fun d hd=>by rw[mem_singleton.mp hd];exact rQ hr h60 h.2
 | .wit k r,left,h=>by
  have:=h.1.1.lt k h.1.2;exact sz3 (s := "within") δ ω (by show 1<=2;decide) fun d hd=>by rw[mem_singleton.mp hd];exact rQ hr h60 h.2
 | .msk l r,left,h=>by
  obtain⟨k,hk,rfl⟩:=h.1.2.2;exact sz3 (s := "mask") δ (Ly hr (h.1.1.lt k hk)) (by show 1<=2;decide) fun d hd=>by rw[mem_singleton.mp hd];exact rQ hr h60 h.2
 | .low k a b,left,h=>by
  have:=h.1.1.lt k h.1.2;refine sz3 (s := "below") δ ω (by show 2<=2;decide) fun d hd=>?_;rcases mem_cons.mp hd with rfl|hd
  ·exact rQ hr h60 h.2.1
  rw[mem_singleton.mp hd];exact rQ hr h60 h.2.2
section
variable {P:Program}{w:World}{K:PySem.W.Frag}{mg:Str->Option Value}{base:Heap}
theorem UG {x qual:Str}{st:Stmt}{f c:Addr}{oc kV doc pm ct:Value}{od an:Option Addr}{osl:Array (Option Value)}{N ps:List Str}{k:Nat}{sp:Sp}
  (lk:K.lookup f=some ⟨oc,od,.func (fnOf x qual (bC st) (bf st) (ak st) .none kV doc pm an (.ref c) ct),osl⟩) (hcd:codeIn K (.ref c) qual=true) (S:bW N ps (ak st)) (len:∀vs H Q E,sp vs H Q E->vs.length=ps.length)
  (hbody:∀(A:Around)(outer:List Env)(s:Shared)(H:Hp)(vs:List V)(Q:VK)(E:XK),gm k (A.deeper (envOfC qual (ak st) s.heap.objs.size f (.ref c)))->sp vs H Q E ->
   ∃t,QB (Ci CX0 P w K mg base N qual (ak st) f (.ref c) A outer s H E).nox (bf st) t/\t { nx:=fun _ H'=>Q .non H',rt:=Q } (L2.start N vs) H):dM P w K mg base CX0 (k+1) f (fnOf x qual (bC st) (bf st) (ak st) .none kV doc pm an (.ref c) ct) ps sp:=by
 refine Ru lk hcd S len fun A outer s H vs Q E hr hsp=>?_;obtain⟨t,h,q⟩:=hbody A outer s H vs Q E hr hsp;exact⟨t,h.h.nox,q⟩
end
theorem CK {T:Addr}{pos:Pos}{qual:Str}{params:Arguments}{body:Expr}{scope:Scope}{cl:List (Str×Addr)}{i:Nat}{D:Ends}{σ:St}{H:Hp}(hL:gU H T pos qual)
  (h:∀(f c':Addr)(ctv pm:Value)(H':Hp),aV T H H'->H f=none->H' f=some (oO f (PySem.W.kla_obj "<lambda>" qual params body scope cl pm c' ctv))->H' c'=some (nF c' qual)->gU H' T pos qual ->
   (∀(pos2:Pos) q2,(pos2.line≠pos.line\/pos2.col≠pos.col)->gU H T pos2 q2->gU H' T pos2 q2)->D.nx (σ.set i (some (.ref f))) H'):tU (Jx T pos qual params body scope cl) (j4 i) D σ H:=⟨hL,h⟩
theorem aG.tbl {ok:Addr->Prop}{H H':Hp}{T:Addr}{pos:Pos}{q:Str}(hL:gU H T pos q)(s:aV T H H'){v:V}{d:PyData}(t:aG ok H v d):aG ok H' v d:=t.seq.keep fun a o h e=>by
 obtain⟨h1,xs,h2⟩:=h;refine⟨h1,s a o (fun z=>?_) e⟩;obtain⟨ps,e2,_⟩:=hL;rw[z,e2] at h2;rcases h2 with h2|h2 <;> cases h2
theorem gU.ne {H:Hp}{T a:Addr}{pos:Pos}{q:Str}(hL:gU H T pos q){o:HO}(e:H a=some o)(h:∀ps,o≠.tbl ps):a≠T:=fun z=>by
 obtain⟨ps,e2,_⟩:=hL;rw[z,e2] at e;exact h ps (Option.some.inj e).symm
theorem gU.neN {H:Hp}{T a:Addr}{pos:Pos}{q:Str}(hL:gU H T pos q)(e:H a=none):a≠T:=fun z=>by
 obtain⟨ps,e2,_⟩:=hL;rw[z,e2] at e;cases e
theorem aP.tbl {H H':Hp}{T p:Addr}{B:Int}{pos:Pos}{q:Str}(hL:gU H T pos q)(s:aV T H H')(t:aP H p B):aP H' p B:=by
 obtain⟨a,b,c,e,r⟩:=t;exact⟨a,b,c,s _ _ (hL.ne e fun ps z=>by cases z) e,r⟩
theorem gU.GX {H H':Hp}{T p:Addr}{B:Int}{pos:Pos}{q:Str}(hL:gU H T pos q)(tp:aP H p B)(s:aV p H H'):gU H' T pos q:=by
 obtain⟨_,_,_,e,_⟩:=tp.ex;exact hL.cU s (fun ps z=>by rw[e] at z;cases z) (fun c z=>by rw[e] at z;cases z)
theorem Ah.same {cs:List (Nat×Addr)}{σ:St}{H:Hp}{g:Addr->Option Obj}(G:Ah cs σ H g):Same H (rB g H):=fun b o e=>by
 cases hb:g b with
 | none=>rw[fG hb];exact e
 | some o2=>rw[G.fre b o2 hb] at e;cases e
theorem Ah.at {cs:List (Nat×Addr)}{σ:St}{H:Hp}{g:Addr->Option Obj}(G:Ah cs σ H g){i:Nat}{c:Addr}{v:V}(hm:(i,c)∈cs)(hv:σ[i]?=some (some v)):∃u,RelV v u/\iI (rB g H) c u/\H c=none:=by
 obtain⟨u,o,r,e,d⟩:=G.val i c hm v hv;exact⟨u,r,⟨o,Ae e,d⟩,G.fre c o e⟩
theorem Ah.back {cs:List (Nat×Addr)}{σ:St}{H H2:Hp}{g:Addr->Option Obj}{p:Addr}{B:Int}(G:Ah cs σ H g)(tp:aP H p B)(s:aV p (rB g H) H2):(∀c o,g c=some o->H2 c=some (oO c o))/\aV p H (lF g H2):=by
 have np:∀c o,g c=some o->c≠p:=fun c o e=>tp.ne (G.fre c o e);refine⟨fun c o e=>s _ _ (np c o e) (Ae e),fun a o n e=>?_⟩;cases hb:g a with
 | none=>rw[g8 hb];exact s a o n ((fG hb).trans e)
 | some o2=>rw[G.fre a o2 hb] at e;cases e
theorem aP.drop {cs:List (Nat×Addr)}{σ:St}{H H2:Hp}{g:Addr->Option Obj}{p:Addr}{B B2:Int}(G:Ah cs σ H g)(tp:aP H p B)(t2:aP H2 p B2):aP (lF g H2) p B2:=by
 obtain⟨_,_,_,e,_⟩:=tp.ex;have hb:g p=none:=by
  cases hb:g p with
  | none=>rfl
  | some o2=>rw[G.fre p o2 hb] at e;cases e
 obtain⟨a,b,c,e2,r⟩:=t2;exact⟨a,b,c,(g8 hb).trans e2,r⟩
theorem O9 (p:Pl):∃ds,plD p=.tuple ds/\ds≠[]/\ds.length<=4:=by
 cases p with
 | pick l=>exact⟨_,rfl,by simp,by show 2<=4;decide⟩
 | tab=>exact⟨_,rfl,by simp,by show 1<=4;decide⟩
 | one k r=>exact⟨_,rfl,by simp,by show 3<=4;decide⟩
 | wit k r=>exact⟨_,rfl,by simp,by show 3<=4;decide⟩
 | msk k r=>exact⟨_,rfl,by simp,by show 3<=4;decide⟩
 | low k a b=>exact⟨_,rfl,by simp,by show 4<=4;decide⟩
section
variable {ok:Addr->Prop}{σ:St}{H0:Hp}{ta te:TE}{ds:List PyData}{K:PySem.W.Frag}
theorem Ii (n:cY ok H0)(h:Gv ok te σ H0 (.tuple ds)):Gv ok (tCB (fun xs H Q=>∃p ys,xs=[V.ref p]/\(SqL K H p ys\/SqT K H p ys)/\∀l,H l=none->Q (.ref l) (upd H l (.lst ys))) (jl te rE)) σ H0 (.list ds):=fun H s Q q=>
 h H s _ fun v H1 s1 t1=>by
  cases t1 with
  | tup o e z ts=>
   refine⟨_,_,rfl,.inr (SqT.of e),fun l hl=>?_⟩;exact q _ _ (s1.trans (aq hl)) (.lst (n H1 l (s.trans s1) hl) aB z (ts.same (aq hl)))
theorem QK {es:List PyData}{tb:TE}(n:cY ok H0)(hd:ds≠[])(he:es≠[])(h:Gv ok ta σ H0 (.tuple ds))(h2:Gv ok tb σ H0 (.tuple es))(hl:ds.length+es.length<=1000000):Gv ok (tOp Ba ta tb) σ H0 (.tuple (ds++es)):=fun H s Q q=>
 h H s _ fun v H1 s1 t1=>by
  cases t1 with
  | tup o1 e1 z1 t1=>
   refine h2 H1 (s.trans s1) _ fun w H2 s2 t2=>?_;cases t2 with
   | tup o2 e2 z2 t2=>
    have l1:=t1.length;have l2:=t2.length;show Ba _ _ _ _;rw[yN,s2 _ _ e1,e2,El];refine⟨fun z=>hd (List.eq_nil_of_length_eq_zero (by rw[<- l1,z];rfl)),aX ω,fun z=>absurd (List.eq_nil_of_length_eq_zero (by rw[<- l2,z];rfl)) he,fun _ p hp=>q _ _ ((s1.trans s2).trans (aq hp)) (.tup (n H2 p ((s.trans s1).trans s2) hp) aB (by rw[length_append];omega) (((t1.same s2).append t2).same (aq hp)))⟩
end
end L2
local macro_rules | `(tactic| push_cast) => `(tactic| ((try dsimp only [L2.tV, L2.G5, L2.G6, L2.oY, L2.tOp, L2.tC, L2.CZ, L2.Ai, L2.mJ, L2.jl, L2.rE, L2.tCB, L2.tIf, L2.Jw, L2.tB, L2.NK, L2.tOr, L2.Aj, L2.G4, L2.tU, L2.j4, L2.rI0, List.getElem?_cons_zero, getElem?_cons_succ, set_cons_zero, set_cons_succ]); try simp only [↓L2.rdy, L2.rdy, ↓reduceIte, reduceCtorEq, Nat.reduceAdd, Nat.reduceSub]))
local macro_rules | `(tactic| push_cast [$ls,*]) => `(tactic| ((try dsimp only [L2.tV, L2.G5, L2.G6, L2.oY, L2.tOp, L2.tC, L2.CZ, L2.Ai, L2.mJ, L2.jl, L2.rE, L2.tCB, L2.tIf, L2.Jw, L2.tB, L2.NK, L2.tOr, L2.Aj, L2.G4, L2.tU, L2.j4, L2.rI0, List.getElem?_cons_zero, getElem?_cons_succ, set_cons_zero, set_cons_succ]); try simp only [↓L2.rdy, L2.rdy, ↓reduceIte, reduceCtorEq, Nat.reduceAdd, Nat.reduceSub, $ls,*]))
namespace K20
open PySem L2 PyProof.Rows
noncomputable abbrev q0_:List Str:=["_law_tape_here","_law_many_here"]
noncomputable abbrev q1_:List Str:=["_law_tape_here","_law_plan_here","_law_word","_law_at"]
noncomputable abbrev q2_:List Str:=["_law_stretches_here","_law_left","_law_thing"]
noncomputable abbrev q3_:List Str:=["_law_tape_here","_law_stretches_here","_law_left"]
noncomputable abbrev q4_:List Str:=["_law_tape_here","_law_thing","_law_spot"]
noncomputable abbrev q5_:List Str:=["_law_tape_here","_law_thing"]
noncomputable abbrev q6_:List Str:=["_law_tape_here","_law_ask","_law_due","_law_handed"]
noncomputable abbrev q7_:List Str:=["_law_script","_law_k"]
noncomputable abbrev q8_:List Str:=["stretches","left"]
noncomputable abbrev q9_:List Str:=["_law_stretches_here","_law_left"]
noncomputable abbrev q10_:List Str:=["_law_thing","_law_inner"]
noncomputable abbrev q11_:List Str:=["_law_tape_here","_law_handed"]
noncomputable abbrev q12_:List Str:=["stretches","left","label"]
noncomputable abbrev q13_:List Str:=["stretches","left","thing"]
noncomputable abbrev q14_:List Str:=["stretches","thing"]
noncomputable abbrev q15_:List Str:=["stretches","left","plan"]
noncomputable abbrev q16_:List Str:=["_law_thing"]
noncomputable def top (i:Nat):Stmt:=PySem.Challenge.pw_caseways_k20_plans_spoilt_anywhere.main.body.getD i (.Pass ⟨0,0,0,0⟩)
noncomputable abbrev BLs:List Str:=["abs","bool","enumerate","int","isinstance","len","list","max","min","range","repr","str","tuple"]
theorem Lw:("abs" : Str)∈BLs:=by decide +kernel
theorem qI:("bool" : Str)∈BLs:=by decide +kernel
theorem qH:("enumerate" : Str)∈BLs:=by decide +kernel
theorem sI:("int" : Str)∈BLs:=by decide +kernel
theorem bh:("isinstance" : Str)∈BLs:=by decide +kernel
theorem cR:("len" : Str)∈BLs:=by decide +kernel
theorem jb:("list" : Str)∈BLs:=by decide +kernel
theorem Ls:("max" : Str)∈BLs:=by decide +kernel
theorem Lr:("min" : Str)∈BLs:=by decide +kernel
theorem jO:("range" : Str)∈BLs:=by decide +kernel
theorem Ga:("repr" : Str)∈BLs:=by decide +kernel
theorem zf:("str" : Str)∈BLs:=by decide +kernel
theorem gM:("tuple" : Str)∈BLs:=by decide +kernel
noncomputable abbrev vZ:List Str:=["_law_script","_law_k"]
noncomputable abbrev GI_ (s:Stmt)(x:Str):Prop:=(ak s).names.lookup x=some .globalImplicit
noncomputable abbrev NM_ (N:List Str)(s:Stmt)(i:Nat)(x:Str):Prop:=Nm N (ak s) i x
noncomputable abbrev iu:Stmt:=top 12
theorem G9:bW vZ q7_ (ak iu):=⟨rfl,rfl,rfl,ψ,rfl,ψ,ψ⟩
theorem vo:NM_ vZ iu 0 "_law_script" := .of ψ
theorem vm:NM_ vZ iu 1 "_law_k" := .of ψ
theorem zJ:GI_ iu "len" := by decide +kernel
theorem Jh:Bn "_law_cell_at" := ⟨ψ,ψ⟩
noncomputable abbrev Ag:List Str:=["_law_script","_law_k","_law_cell"]
noncomputable abbrev ji:Stmt:=top 13
theorem Fl:bW Ag q7_ (ak ji):=⟨rfl,rfl,rfl,ψ,rfl,ψ,ψ⟩
theorem Le:NM_ Ag ji 0 "_law_script" := .of ψ
theorem u9:NM_ Ag ji 1 "_law_k" := .of ψ
theorem qx:NM_ Ag ji 2 "_law_cell" := .of ψ
theorem vI:GI_ ji "_law_cell_at" := by decide +kernel
theorem vH:GI_ ji "abs" := by decide +kernel
theorem DW:GI_ ji "int" := by decide +kernel
theorem Q9:Bn "_law_tape" := ⟨ψ,ψ⟩
noncomputable abbrev tD:List Str:=["_law_tape_here","_law_many_here","_law_found","_law_prime","_law_once"]
noncomputable abbrev jj:Stmt:=top 14
theorem qi:bW tD q0_ (ak jj):=⟨rfl,rfl,rfl,ψ,rfl,ψ,ψ⟩
theorem dG:NM_ tD jj 0 "_law_tape_here" := .of ψ
theorem mZ:NM_ tD jj 1 "_law_many_here" := .of ψ
theorem mY:NM_ tD jj 2 "_law_found" := .of ψ
theorem Bq:NM_ tD jj 3 "_law_prime" := .of ψ
theorem vd:NM_ tD jj 4 "_law_once" := .of ψ
theorem zx:GI_ jj "_law_take" := by decide +kernel
theorem bV:Bn "_law_take" := ⟨ψ,ψ⟩
section
variable {P:Program}{w:World}{K:PySem.W.Frag}{mg:Str->Option Value}{base:Heap}{f:Addr}{fd:FuncData}{bs:List Str}
theorem Qg (hB:∀x:Str,x∈BLs->mg x=none) (F:Fun K "_law_cell_at" "_law_cell_at" iu f fd):dM P w K mg base CX0 1 f fd q7_ (JL K):=by
 refine F.okq G9 (fun vs H Q E h=>?_) (fun cdv A outer s H vs Q E hr h=>?_)
 ·obtain⟨a,ns,k,rfl,_⟩:=h;rfl
 obtain⟨a,ns,k,rfl,hS,h0,q⟩:=h;refine⟨_,(aL (aU (tL (aW jK (ao vm) (bO jw zJ (hB "len" cR) PySem.boot_len cT (aj (ao vo) aA rfl) rfl rfl) (aM _)) (aN Gf (ao vo) (ao vm) (fun _ _=>rfl)) au))),?_⟩;push_cast;refine⟨_,.inl hS,?_⟩;split
 ·rename_i c;rw[length_map] at c;have hk:k.toNat<ns.length:=ω;have ek:k=((k.toNat:Nat):Int):=ω;have z:atI (ns.map V.int) ((k.toNat:Nat):Int)=some (.int ns[k.toNat]):=dw (by rw[getElem?_map,getElem?_eq_getElem hk];rfl);rw[<- ek] at z;unfold Vd;exact⟨a,_,k,_,rfl,rfl,hS,z,q _⟩
 exact q _
theorem P0 (hB:∀x:Str,x∈BLs->mg x=none) (CZCellAt:Cal P w K mg base "_law_cell_at" 1 q7_ (JL K)) (F:Fun K "_law_tape" "_law_tape" ji f fd):dM P w K mg base CX0 2 f fd q7_ (JF K):=by
 refine F.okq Fl (fun vs H Q E h=>?_) (fun cdv A outer s H vs Q E hr h=>?_)
 ·obtain⟨a,ns,k,rfl,_⟩:=h;rfl
 obtain⟨a,ns,k,rfl,hS,h0,h1,q⟩:=h;refine⟨_,(aD (bR qx Fl.nd (aY CZCellAt (hr.mono δ) vI Jh (aj (ao Le) (aj (ao u9) aA rfl) rfl) rfl rfl) rfl (.inl rfl))
  (aL (aU (cB (aj (aR iB (bO Cq vH (hB "abs" Lw) PyProof.Rows.Boot.«abs» M5 (aj (ao qx) aA rfl) rfl rfl) (kY qb DW (hB "int" sI) boot_int sZ (aj (fU KZ (bO Cq vH (hB "abs" Lw) PyProof.Rows.Boot.«abs» M5 (aj (ao qx) aA rfl) rfl rfl) (aR rR au au) (aM _)) aA rfl) rfl rfl)) (aj (aR jk (aR iB (aR bN (aR bN (aR jk (ao qx) au) (aR iB (aR iB au (ao u9)) (ao u9))) au) au) au) (aj au aA rfl) rfl) rfl))))),?_⟩
 push_cast;refine⟨a,ns,k,rfl,hS,h0,fun v=>?_⟩;push_cast;refine⟨⟨δ,δ,δ⟩,?_,δ,.inl δ,.inr ω,.inr δ,δ,aX δ,fun p hp=>q p _ hp (aq hp) ⟨_,_,_,aB,?_,?_,?_,Int.le_refl _,Int.le_refl _⟩⟩
 ·right;generalize (if v<0 then -v else v)=u;split <;> decide
 ·refine Int.mul_nonneg ?_ ?_
  ·split <;> omega
  generalize (if v<0 then -v else v)=u;split <;> decide
 ·exact emod_nonneg _ δ
 exact emod_lt_of_pos _ δ
theorem FN {n:Nat}(hB:∀x:Str,x∈BLs->mg x=none) (hn:n<=10) (CZTake:Cal P w K mg base "_law_take" n q0_ (jF n)) (F:Fun K "_law_take" "_law_take" jj f fd):dM P w K mg base CX0 (n+1) f fd q0_ (jF (n+1)):=by
 refine F.okq qi (fun vs H Q E h=>?_) (fun cdv A outer s H vs Q E hr h=>?_)
 ·obtain⟨p,m,B,rfl,_⟩:=h;rfl
 obtain⟨p,m,B,rfl,⟨a,b,c,hp,ha,hb0,hb1,hc0,hc1⟩,hB0,hm0,hm1,hn1,hn2,q⟩:=h;refine⟨_,(aD (cg (aW KY (aN bA (ao dG) au (fun _ _=>rfl)) au (aM _)) (aD (bR mY qi.nd (aR jk (aN bA (ao dG) au (fun _ _=>rfl)) (ao mZ)) rfl (.inl rfl))
  (aD (lN (aR Bj (aN bA (ao dG) au (fun _ _=>rfl)) (ao mZ)) (uE (ao dG) au uT) rfl rfl rfl)
  (aL (aU (ao mY))))) bF)
  (aD (lN (aR bN (aN bA (ao dG) au (fun _ _=>rfl)) au) (uE (ao dG) au uT) rfl rfl rfl)
  (aD (bR Bq qi.nd (aN bA (cB (aj au (aj au (aj au (aj au (aj au (aj au (aj au aA rfl) rfl) rfl) rfl) rfl) rfl) rfl)) (aR jk (aN bA (ao dG) au (fun _ _=>rfl)) au) (fun _ _=>rfl)) rfl (.inl rfl))
  (aD (bR vd qi.nd (aR jk (aR iB (aR bN (aN bA (ao dG) au (fun _ _=>rfl)) (aR iB au (aN bA (ao dG) au (fun _ _=>rfl)))) (aR bN au (aN bA (ao dG) au (fun _ _=>rfl)))) (ao Bq)) rfl (.inl rfl))
  (aD (lN (aR jk (aR bN (aR iB (ao vd) (aR bN (aR jk (ao vd) au) au)) (aN bA (ao dG) au (fun _ _=>rfl))) au) (uE (ao dG) au uT) rfl rfl rfl)
  (aD (bR mY qi.nd (aR Bj (aR jk (aR iB (aN bA (ao dG) au (fun _ _=>rfl)) (aR bN (aR jk (aN bA (ao dG) au (fun _ _=>rfl)) au) au)) au) au) rfl (.inl rfl))
  (aL (aU (tL (aW jK (ao mZ) (aR rR au au) (aM _)) (aR jk (ao mY) (ao mZ)) (aR jk (aR bN (aR iB (ao mY) au) (aY CZTake (hr.mono ω) zx bV (aj (ao dG) (aj au aA rfl) rfl) rfl rfl)) (ao mZ))))))))))),?_⟩
 push_cast [hp];split
 ·refine⟨hm0,⟨hm0,hm1⟩,?_⟩;refine q _ _ (emod_nonneg _ ω) (emod_lt_of_pos _ hm0) aV.upd ⟨_,_,_,aB,Int.ediv_nonneg ha ω,hb0,hb1,hc0,ω⟩
 refine⟨aX δ,fun p1 hp1=>?_⟩;have np:p≠p1:=fun z=>by rw[<- z,aB] at hp1;cases hp1
 obtain⟨v,hv,v0⟩:=S6 (c+1);push_cast [hp,aO np,ne_eq,np,not_false_eq_true,hv];have m1:∀x:Int,0<=x%40009/\x%40009<40009:=fun x=>⟨emod_nonneg _ δ,emod_lt_of_pos _ δ⟩;have m2:∀x:Int,0<=x%1009/\x%1009<1009:=fun x=>⟨emod_nonneg _ δ,emod_lt_of_pos _ δ⟩;have m3:∀x:Int,0<=x%2147483629/\x%2147483629<2147483629:=fun x=>⟨emod_nonneg _ δ,emod_lt_of_pos _ δ⟩;refine⟨δ,.inl δ,.inr ω,v0,δ,.inr ?_,δ,δ,.inr ?_,δ,δ,δ,?_⟩
 ·have:=m1 ((b+39373*(c+1))*(48271+(c+1))%v);omega
 ·have:=m2 (((b+39373*(c+1))*(48271+(c+1))%v*((b+39373*(c+1))*(48271+(c+1))%v%40009+7)+(c+1))%2147483629);omega
 have e3:=m3 ((b+39373*(c+1))*(48271+(c+1))%v*((b+39373*(c+1))*(48271+(c+1))%v%40009+7)+(c+1));generalize ((b+39373*(c+1))*(48271+(c+1))%v*((b+39373*(c+1))*(48271+(c+1))%v%40009+7)+(c+1))%2147483629=y at e3 |-;have sx:aV p H (upd (upd (upd H p (HO.lst [V.int a,V.int b,V.int (c+1)])) p1 (HO.lst [V.int 2147483587,V.int 2147483579,V.int 2147483563,V.int 2147483549,V.int 2147483543,V.int 2147483497,V.int 2147483489])) p (HO.lst [V.int a,V.int y,V.int (c+1)])):=
  (aV.upd.trans (aq hp1).x).trans aV.upd
 have tp:aP (upd (upd (upd H p (HO.lst [V.int a,V.int b,V.int (c+1)])) p1 (HO.lst [V.int 2147483587,V.int 2147483579,V.int 2147483563,V.int 2147483549,V.int 2147483543,V.int 2147483497,V.int 2147483489])) p (HO.lst [V.int a,V.int y,V.int (c+1)])) p (B+1):=
  ⟨a,y,c+1,aB,ha,e3.1,e3.2,ω,ω⟩
 generalize upd (upd (upd H p (HO.lst [V.int a,V.int b,V.int (c+1)])) p1 (HO.lst [V.int 2147483587,V.int 2147483579,V.int 2147483563,V.int 2147483549,V.int 2147483543,V.int 2147483497,V.int 2147483489])) p (HO.lst [V.int a,V.int y,V.int (c+1)])=H2 at sx tp |-;split
 ·refine⟨hm0,q _ _ (emod_nonneg _ ω) (emod_lt_of_pos _ hm0) sx ?_⟩;obtain⟨a',b',c',z1,z2,z3,z4,z5,z6⟩:=tp;exact⟨a',b',c',z1,z2,z3,z4,z5,ω⟩
 rename_i hm;have hm':1000000<=m:=by
  rw[show(10:Int)^Int.toNat 6=1000000 from by decide] at hm;omega
 have hn3:=hn2 hm';refine⟨.inr δ,p,99991,B+1,rfl,tp,ω,δ,δ,ω,fun z=>absurd z δ,fun r H3 r0 r1 s3 t3=>?_⟩;push_cast;refine⟨hm0,q _ _ (emod_nonneg _ ω) (emod_lt_of_pos _ hm0) (sx.trans s3) ?_⟩;obtain⟨a',b',c',z1,z2,z3,z4,z5,z6⟩:=t3;exact⟨a',b',c',z1,z2,z3,z4,z5,ω⟩
theorem GZ:dM P w K mg base CX0 0 f fd q0_ (jF 0):=by
 have no:∀vs H Q E,¬jF 0 vs H Q E:=fun vs H Q E h=>by
  obtain⟨p,m,B,_,_,_,_,_,h1,_⟩:=h;omega
 exact⟨fun vs H Q E h=>absurd h (no vs H Q E),fun A outer s H args us vs Q E _ _ _ _ h=>absurd h (no vs H Q E)⟩
noncomputable abbrev dz:List Str:=["_law_tape_here","_law_many_here","_law_low","_law_labels","_law_found","_law_k","_law_far","_law_wide","_law_label"]
noncomputable abbrev bI:Stmt:=top 15
theorem cF:bW dz q0_ (ak bI):=⟨rfl,rfl,rfl,ψ,rfl,ψ,ψ⟩
theorem cA:NM_ dz bI 0 "_law_tape_here" := .of ψ
theorem wG:NM_ dz bI 1 "_law_many_here" := .of ψ
theorem gK:NM_ dz bI 2 "_law_low" := .of ψ
theorem iZ:NM_ dz bI 3 "_law_labels" := .of ψ
theorem gJ:NM_ dz bI 4 "_law_found" := .of ψ
theorem wF:NM_ dz bI 5 "_law_k" := .of ψ
theorem oZ:NM_ dz bI 6 "_law_far" := .of ψ
theorem gH:NM_ dz bI 7 "_law_wide" := .of ψ
theorem gG:NM_ dz bI 8 "_law_label" := .of ψ
theorem bH:GI_ bI "_law_take" := by decide +kernel
theorem uf:GI_ bI "max" := by decide +kernel
theorem qM:GI_ bI "range" := by decide +kernel
theorem zX:Bn "_law_stretches" := ⟨ψ,ψ⟩
theorem T4 (hB:∀x:Str,x∈BLs->mg x=none) (CZTake:Cal P w K mg base "_law_take" 2 q0_ (jF 2)) (F:Fun K "_law_stretches" "_law_stretches" bI f fd):dM P w K mg base CX0 3 f fd q0_ JG:=by
 refine F.okq cF (fun vs H Q E h=>?_) (fun cdv A outer s H vs Q E hr h=>?_)
 ·obtain⟨p,m,B,rfl,_⟩:=h;rfl
 obtain⟨p,m,B,rfl,tp,hB0,hB1,hm1,hm2,q⟩:=h;refine⟨_,(aD (bR gK cF.nd (aN bA (cB (aj au (aj (aR iT (aY CZTake (hr.mono δ) bH bV (aj (ao cA) (aj au aA rfl) rfl) rfl rfl) au) (aj (aR iT (aY CZTake (hr.mono δ) bH bV (aj (ao cA) (aj (aR rR au au) aA rfl) rfl) rfl rfl) (aR rR au au)) (aj (aR iT au (aR Tv au au)) aA rfl) rfl) rfl) rfl)) (aY CZTake (hr.mono δ) bH bV (aj (ao cA) (aj au aA rfl) rfl) rfl rfl) (fun _ _=>rfl)) rfl (.inl rfl))
  (aD (bR iZ cF.nd (aR bN au (aY CZTake (hr.mono δ) bH bV (aj (ao cA) (aj au aA rfl) rfl) rfl rfl)) rfl (.inl rfl))
  (aD (bR gJ cF.nd (cB aA) rfl (.inl rfl))
  (aD (mU PassesOwn.never rfl (kW qM (hB "range" jO) (aj (ao wG) aA rfl) rfl) (jX wF cF.nd (.inl rfl))
  (aD (bR oZ cF.nd (aN bA (cB (aj (aR rR au au) (aj (aR rR au au) aA rfl) rfl)) (aY CZTake (hr.mono δ) bH bV (aj (ao cA) (aj au aA rfl) rfl) rfl rfl) (fun _ _=>rfl)) rfl (.inl rfl))
  (aD (bR gH cF.nd (cB (aj au (aj au (aj au (aj (aR bN au (aY CZTake (hr.mono δ) bH bV (aj (ao cA) (aj au aA rfl) rfl) rfl rfl)) (aj (aR bN au (aY CZTake (hr.mono δ) bH bV (aj (ao cA) (aj au aA rfl) rfl) rfl rfl)) (aj (aR bN au (aY CZTake (hr.mono δ) bH bV (aj (ao cA) (aj (ao oZ) aA rfl) rfl) rfl rfl)) aA rfl) rfl) rfl) rfl) rfl) rfl)) rfl (.inl rfl))
  (aD (bR gH cF.nd (aN bA (ao gH) (bO (IW rfl) uf (hB "max" Ls) boot_max M4 (aj au (aj (aR iT (aY CZTake (hr.mono δ) bH bV (aj (ao cA) (aj au aA rfl) rfl) rfl rfl) au) aA rfl) rfl) rfl rfl) (fun _ _=>rfl)) rfl (.inl rfl))
  (aD (bR gG cF.nd (aY CZTake (hr.mono δ) bH bV (aj (ao cA) (aj (ao iZ) aA rfl) rfl) rfl rfl) rfl (.inl rfl))
  (aD (cg (mR (pD (aW (KR hr.aZ) (ao gJ) (cB aA) (aM _)) (nT (aW (bY hr.aZ) (aN bA (aN bA (ao gJ) (Bc rD au) (fun _ _=>rfl)) au (fun _ _=>rfl)) (ao gG) (aM _))))) (aL (bR gG cF.nd (aR jk (aR bN (aR bN (ao gG) au) (aY CZTake (hr.mono δ) bH bV (aj (ao cA) (aj (aR iT (ao iZ) au) aA rfl) rfl) rfl rfl)) (ao iZ)) rfl (.inl rfl))) bF)
  (aD (uy (Fx (ao gJ) (cN (aj (ao gK) (aj (aR iT (aR bN (ao gK) (ao gH)) au) (aj (ao gG) aA rfl) rfl) rfl)) rfl rfl rfl rfl rfl) rfl)
  (aL (bR gK cF.nd (aR bN (ao gK) (ao gH)) rfl (.inl rfl))))))))) (fun _=>rfl))
  (aL (aU (ao gJ))))))),?_⟩
 refine aQ fun k hk=>?_;push_cast;refine⟨p,100,B,rfl,tp,by show B+2<=1000100;omega,δ,δ,δ,fun z=>absurd z δ,fun r1 H1 r10 r11 s1 tp1=>?_⟩;push_cast;refine⟨⟨δ,δ,δ⟩,?_⟩;refine⟨p,10^9,B+2,rfl,tp1,by show B+2+2<=1000100;omega,δ,δ,δ,fun z=>by decide,fun r2 H2 r20 r21 s2 tp2=>?_⟩;push_cast [Int.one_mul];refine⟨⟨δ,δ,δ⟩,?_⟩;refine⟨⟨δ,δ,δ⟩,aX δ,fun l0 hl0=>?_⟩;have s3:=aq (o:=HO.lst [V.int 0,V.int (r1-50),V.int (r2-10^Int.toNat 8),V.int (0-2^Int.toNat 39)]) hl0;have tp3:=tp2.same s3;have n3:=tp2.ne hl0;have e3:upd H2 l0 (HO.lst [V.int 0,V.int (r1-50),V.int (r2-10^Int.toNat 8),V.int (0-2^Int.toNat 39)]) l0=_:=aB;generalize upd H2 l0 (HO.lst [V.int 0,V.int (r1-50),V.int (r2-10^Int.toNat 8),V.int (0-2^Int.toNat 39)])=H3 at s3 tp3 e3 |-;refine⟨p,4,B+2+2,rfl,tp3,by show B+2+2+2<=1000100;omega,δ,δ,δ,fun z=>absurd z δ,fun r4 H4 r40 r41 s4 tp4=>?_⟩;obtain⟨lo,hlo,elo⟩:=uY (is:=[0,r1-50,r2-10^Int.toNat 8,0-2^Int.toNat 39]) r40 r41;replace elo:atI [V.int 0,V.int (r1-50),V.int (r2-10^Int.toNat 8),V.int (0-2^Int.toNat 39)] r4=some (.int lo):=elo;have e4:=s4 _ _ n3 e3;have blo:-(10^12)<=lo/\lo<=10^9:=by
  simp only[mem_cons,not_mem_nil,or_false] at hlo;have:(10:Int)^Int.toNat 8=100000000:=by decide
  have:(2:Int)^Int.toNat 39=549755813888:=by decide
  rcases hlo with z|z|z|z <;> omega
 have sx4:aV p H H4:=((s1.trans s2).trans s3.x).trans s4;push_cast [e4,elo];subst hk;refine aQ fun k hk=>?_;push_cast;refine⟨p,4,B+2+2+2,rfl,tp4,by show B+2+2+2+2<=1000100;omega,δ,δ,δ,fun z=>absurd z δ,fun r5 H5 r50 r51 s5 tp5=>?_⟩;push_cast;subst hk;refine aQ fun k hk=>?_;push_cast;refine⟨aX δ,fun l hl=>?_⟩;have sx5:=sx4.trans s5;have hlp:l≠p:=tp5.ne hl;have Hl:H l=none:=(Mu sx5 tp5 hl).2;have s6:=aq (o:=HO.lst []) hl;have tp6:=tp5.same s6;have e6:upd H5 l (HO.lst []) l=_:=aB;generalize upd H5 l (HO.lst [])=H6 at s6 tp6 e6 |-;have sx6:=sx5.trans s6.x;subst hk;obtain⟨OD,hOD⟩:∃OD:Addr->Prop,OD=fun a=>a≠p/\a≠l:=⟨_,rfl⟩;have kd:∀{H H':Hp},aV p H H'->∀a o,OD a->H a=some o->OD a/\H' a=some o:=fun {H H'} sx a o h e=>by
  refine⟨h,sx a o ?_ e⟩;rw[hOD] at h;exact h.1
 refine aQ fun k hk=>?_;refine qW fun R hR=>?_;push_cast [vB];refine⟨ω,ω,?_⟩;obtain⟨Pv,hPv⟩:∃Pv:Nat->L2.St->Hp->Prop,Pv=fun(i:Nat) σ H'=>∃(xs:List V)(ss:List (Int×Int×Int)) (lo:Int) (o5 o6 o7 o8:Option V),aV p H H'/\aP H' p (B+8+18*(i:Int))/\H' l=some (.lst xs)/\aH OD H' xs (ss.map stD)/\ss.length=i/\wX ss /\
  (∀s,ss[ss.length-1]?=some s->lo=s.2.1+1)/\(∀s,ss[0]?=some s->s.1<=10^9)/\-(10^12)<=lo/\lo<=10^9+(10^12+10)*(i:Int)/\σ=[some (.ref p),some (.int m),some (.int lo),some (.int (2+r5)),some (.ref l),o5,o6,o7,o8]:=⟨_,rfl⟩
 refine BZ hR Pv (by rw[hPv];exact⟨[],[],lo,_,_,_,_,sx6,tp6.le (by show B+2+2+2+2<=B+8+18*((0:Nat):Int);omega),e6,.nil,rfl,wX.nil,fun s h=>(by cases h),fun s h=>(by cases h),blo.1,by show lo<=10^9+(10^12+10)*((0:Nat):Int);omega,rfl⟩) ?_ ?_
 ·intro i σ H7 hi pv;rw[hPv] at pv;obtain⟨xs,ss,lo,o5,o6,o7,o8,sx7,tp7,e7,ts7,hsl,row,hlast,hfst,bl1,bl2,rfl⟩:=pv;have hi60:i<60:=ω;refine aQ fun k2 hk2=>?_;push_cast;refine⟨⟨δ,δ,δ⟩,⟨δ,δ,δ⟩,aX δ,fun l1 hl1=>?_⟩;have s8:=aq (o:=HO.lst [V.int (10^Int.toNat 9),V.int (10^Int.toNat 12)]) hl1;have tp8:=tp7.same s8;have n8:=tp7.ne hl1;have e8:=s8 _ _ e7;have ts8:=ts7.same s8;have e81:upd H7 l1 (HO.lst [V.int (10^Int.toNat 9),V.int (10^Int.toNat 12)]) l1=_:=aB;generalize upd H7 l1 (HO.lst [V.int (10^Int.toNat 9),V.int (10^Int.toNat 12)])=H8 at s8 tp8 e8 ts8 e81 |-;have sx8:=sx7.trans s8.x;refine⟨p,2,B+8+18*(i:Int),rfl,tp8,by show B+8+18*(i:Int)+2<=1000100;omega,δ,δ,δ,fun z=>absurd z δ,fun r9 H9 r90 r91 s9 tp9=>?_⟩;obtain⟨far,hfar,efar⟩:=uY (is:=[10^Int.toNat 9,10^Int.toNat 12]) r90 r91;replace efar:atI [V.int (10^Int.toNat 9),V.int (10^Int.toNat 12)] r9=some (.int far):=efar;have e91:=s9 _ _ n8 e81;have e9:=s9 _ _ hlp e8;have ts9:=ts8.keep (kd s9);have sx9:=sx8.trans s9;have bfar:10^9<=far/\far<=10^12:=by
   simp only[mem_cons,not_mem_nil,or_false] at hfar;have:(10:Int)^Int.toNat 9=1000000000:=by decide
   have:(10:Int)^Int.toNat 12=1000000000000:=by decide
   rcases hfar with z|z <;> omega
  push_cast [e91,efar];subst hk2;refine aQ fun k2 hk2=>?_;push_cast;refine⟨p,4,B+8+18*(i:Int)+2,rfl,tp9,by show B+8+18*(i:Int)+2+2<=1000100;omega,δ,δ,δ,fun z=>absurd z δ,fun u1 H10 u10 u11 s10 tp10=>?_⟩;push_cast;refine⟨p,30,B+8+18*(i:Int)+2+2,rfl,tp10,by show B+8+18*(i:Int)+2+2+2<=1000100;omega,δ,δ,δ,fun z=>absurd z δ,fun u2 H11 u20 u21 s11 tp11=>?_⟩;push_cast;refine⟨p,far,B+8+18*(i:Int)+2+2+2,rfl,tp11,by show B+8+18*(i:Int)+2+2+2+2<=1000100;omega,ω,ω,δ,fun _=>by decide,fun u3 H12 u30 u31 s12 tp12=>?_⟩;push_cast;refine⟨aX δ,fun l2 hl2=>?_⟩;have e12:=s12 _ _ hlp (s11 _ _ hlp (s10 _ _ hlp e9));have ts12:=((ts9.keep (kd s10)).keep (kd s11)).keep (kd s12);have sx12:=((sx9.trans s10).trans s11).trans s12;have s13:=aq (o:=HO.lst [V.int 1,V.int 1,V.int 1,V.int (2+u1),V.int (2+u2),V.int (1+u3)]) hl2;have tp13:=tp12.same s13;have n13:=tp12.ne hl2;have e13:=s13 _ _ e12;have ts13:=ts12.same s13;have e132:upd H12 l2 (HO.lst [V.int 1,V.int 1,V.int 1,V.int (2+u1),V.int (2+u2),V.int (1+u3)]) l2=_:=aB;generalize upd H12 l2 (HO.lst [V.int 1,V.int 1,V.int 1,V.int (2+u1),V.int (2+u2),V.int (1+u3)])=H13 at s13 tp13 e13 ts13 e132 |-;have sx13:=sx12.trans s13.x;subst hk2;refine aQ fun k2 hk2=>?_;push_cast;refine⟨p,11,B+8+18*(i:Int)+2+2+2+2,rfl,tp13,by show B+8+18*(i:Int)+2+2+2+2+2<=1000100;omega,δ,δ,δ,fun z=>absurd z δ,fun u4 H14 u40 u41 s14 tp14=>?_⟩;have e14:=s14 _ _ hlp e13;have ts14:=ts13.keep (kd s14);have sx14:=sx13.trans s14;have e142:=s14 _ _ n13 e132;have bu:0<=(if u4-5>0 then u4-5 else 0)/\(if u4-5>0 then u4-5 else 0)<6:=by split <;> omega
  obtain⟨wide,hwide,ewide⟩:=uY (is:=[1,1,1,2+u1,2+u2,1+u3]) bu.1 bu.2;replace ewide:atI [V.int 1,V.int 1,V.int 1,V.int (2+u1),V.int (2+u2),V.int (1+u3)] (if u4-5>0 then u4-5 else 0)=some (.int wide):=ewide;have bwide:1<=wide/\wide<=10^12:=by
   simp only[mem_cons,not_mem_nil,or_false] at hwide;rcases hwide with z|z|z|z|z|z <;> omega
  push_cast [e142,ewide];subst hk2;refine aQ fun k2 hk2=>?_;push_cast;refine⟨p,2+r5,B+8+18*(i:Int)+2+2+2+2+2,rfl,tp14,by show B+8+18*(i:Int)+2+2+2+2+2+2<=1000100;omega,ω,ω,δ,fun z=>absurd z ω,fun lab H15 lab0 lab1 s15 tp15=>?_⟩;have e15:=s15 _ _ hlp e14;have ts15:=ts14.keep (kd s15);have sx15:=sx14.trans s15;push_cast;subst hk2;refine aQ fun k2 hk2=>?_;have rest:∀(b:Int) H16 o5 o6,0<=b->b<=9->aV p H H16->H16 l=some (.lst xs)->aH OD H16 xs (ss.map stD)->aP H16 p (B+8+18*(i:Int)+14)->k2 [some (.ref p),some (.int m),some (.int lo),some (.int (2+r5)),some (.ref l),o5,o6,some (.int wide),some (.int b)] H16:=by
   intro b H16 o5 o6 b0 b9 sx16 e16 ts16 tp16;subst hk2;refine aQ fun k3 hk3=>?_;push_cast [e16];refine⟨aX δ,fun t ht=>?_⟩;have s17:=aq (o:=HO.tup [V.int lo,V.int (lo+wide-1),V.int b]) ht;have e17:=s17 _ _ e16;have tp17:=tp16.same s17;have ts17:=ts16.same s17;have nt:t≠p:=tp16.ne ht;have nl:t≠l:=(aF e16 ht).symm;have et:upd H16 t (HO.tup [V.int lo,V.int (lo+wide-1),V.int b]) t=_:=aB;generalize upd H16 t (HO.tup [V.int lo,V.int (lo+wide-1),V.int b])=H17 at s17 e17 tp17 ts17 et |-;have hxl:=ts17.length;rw[length_map] at hxl;push_cast [e17];refine⟨lt_of_lt_of_le (show xs.length<1000000 by omega) (aX (le_refl _)),?_⟩;have sx18:aV p H (upd H17 l (HO.lst (xs++[V.ref t]))):=kO (sx16.trans s17.x) Hl;have tp18:aP (upd H17 l (HO.lst (xs++[V.ref t]))) p (B+8+18*(i:Int)+14):=tp17.upd hlp;have e18:upd H17 l (HO.lst (xs++[V.ref t])) l=_:=aB;have kk:∀a o,OD a->H17 a=some o->OD a/\upd H17 l (HO.lst (xs++[V.ref t])) a=some o:=fun a o h e=>by
    refine⟨h,?_⟩;rw[hOD] at h;rw[aO h.2];exact e
   have tt:aG OD H17 (.ref t) (stD (lo,lo+wide-1,b)):=.tup (by rw[hOD];exact⟨nt,nl⟩) et (by show 3<=1000000;decide) (.cons (.int _) (.cons (.int _) (.cons (.int _) .nil)));have ts18:=(ts17.keep kk).append (.cons (tt.keep kk) .nil);generalize upd H17 l (HO.lst (xs++[V.ref t]))=H18 at sx18 tp18 e18 ts18 |-;subst hk3;push_cast;rw[hPv];refine⟨_,ss++[(lo,lo+wide-1,b)],lo+wide,_,_,_,_,sx18,tp18.le (by show B+8+18*(i:Int)+14<=B+8+18*((i+1:Nat):Int);omega),e18,by rw[map_append];exact ts18,by rw[length_append,length_singleton,hsl],row.snoc ω ⟨b0,b9⟩ ⟨bl1,by rw[hsl];omega⟩ hlast,fun s hs=>?_,fun s hs=>?_,ω,by show lo+wide<=10^9+(10^12+10)*((i+1:Nat):Int);omega,rfl⟩
   ·rw[length_append,length_singleton,Nat.add_sub_cancel,getElem?_append_right (le_refl _),sub_self] at hs;cases hs;show lo+wide=lo+wide-1+1;omega
   cases ss with
   | nil=>
    cases hs;show lo<=10^9;have:i=0:=hsl.symm;subst this;omega
   | cons s0 ss0=>exact hfst s hs
  refine dI fun kt ke hkt hke=>?_;push_cast;refine⟨aX δ,fun l3 hl3=>?_⟩;have s16:=aq (o:=HO.lst []) hl3;refine⟨_,_,xs,rfl,rfl,s16 _ _ e15,aB,?_⟩;have e16:=s16 _ _ e15;have ts16:=ts15.same s16;have sx16:=sx15.trans s16.x;have tp16:=tp15.same s16;generalize upd H15 l3 (HO.lst [])=H16 at s16 e16 ts16 sx16 tp16 |-;have hxl:=ts16.length;rw[length_map] at hxl;cases hx:xs.isEmpty with
  | true=>
   push_cast;subst hke;push_cast;exact rest lab H16 _ _ lab0 ω sx16 e16 ts16 (tp16.le (by show B+8+18*(i:Int)+2+2+2+2+2+2<=_;omega))
  | false=>
   have hpos:1<=xs.length:=by
    cases xs with
    | nil=>cases hx
    | cons a b=>simp
   obtain⟨j,x,hxj,hxl2⟩:=Qo xs hpos;obtain⟨ax,sx,rfl,okx,hsx,ex⟩:=ts16.st hxj;push_cast [e16,hxl2,ex];split
   ·subst hkt;push_cast;refine⟨p,2+r5-1,B+8+18*(i:Int)+2+2+2+2+2+2,rfl,tp16,by show B+8+18*(i:Int)+2+2+2+2+2+2+2<=1000100;omega,ω,ω,δ,fun z=>absurd z ω,fun u6 H17 u60 u61 s17 tp17=>?_⟩;push_cast;refine⟨ω,?_⟩;have h1:=emod_nonneg (lab+1+u6) (show(2+r5:Int)≠0 by omega);have h2:=emod_lt_of_pos (lab+1+u6) (show(0:Int)<2+r5 by omega);exact rest _ H17 _ _ h1 ω (sx16.trans s17) (s17 _ _ hlp e16) (ts16.keep (kd s17)) (tp17.le (by show B+8+18*(i:Int)+2+2+2+2+2+2+2<=_;omega))
   subst hke;push_cast;exact rest lab H16 _ _ lab0 ω sx16 e16 ts16 (tp16.le (by show B+8+18*(i:Int)+2+2+2+2+2+2<=_;omega))
 intro σ H7 pv;rw[hPv] at pv;obtain⟨xs,ss,lo,o5,o6,o7,o8,sx7,tp7,e7,ts7,hsl,row,hlast,hfst,bl1,bl2,rfl⟩:=pv;show k _ _;subst hk;push_cast;have hxl:=ts7.length;rw[length_map] at hxl;refine q l ss H7 sx7 (tp7.le ω) (.lst hlp e7 ω (ts7.keep fun a o h e=>?_)) ω row hfst;rw[hOD] at h;exact⟨h.1,e⟩
theorem zY:Bn "MOST_IN_MASK" := ⟨ψ,ψ⟩
theorem wW:Bn "MOST_IN_TABLE" := ⟨ψ,ψ⟩
noncomputable abbrev jT:List Str:=["stretches","left"]
noncomputable abbrev cW:Stmt:=top 5
theorem tX:bW jT q8_ (ak cW):=⟨rfl,rfl,rfl,ψ,rfl,ψ,ψ⟩
theorem lz:NM_ jT cW 0 "stretches" := .of ψ
theorem lu:NM_ jT cW 1 "left" := .of ψ
theorem mz:Bn "numbers_across" := ⟨ψ,ψ⟩
noncomputable abbrev jh:List Str:=["stretches","left","plan","word","ahead"]
noncomputable abbrev dO:Stmt:=top 9
theorem rM:bW jh q15_ (ak dO):=⟨rfl,rfl,rfl,ψ,rfl,ψ,ψ⟩
theorem lW:NM_ jh dO 1 "left" := .of ψ
theorem jN:NM_ jh dO 2 "plan" := .of ψ
theorem lV:NM_ jh dO 3 "word" := .of ψ
theorem pH:NM_ jh dO 4 "ahead" := .of ψ
theorem zM:GI_ dO "len" := by decide +kernel
theorem Ji:Bn "plans_in" := ⟨ψ,ψ⟩
theorem Hy (hB:∀x:Str,x∈BLs->mg x=none) (F:Fun K "numbers_across" "numbers_across" cW f fd):dM P w K mg base CX0 1 f fd q8_ mK:=by
 refine F.okq tX (fun vs H Q E h=>?_) (fun cdv A outer s H vs Q E hr h=>?_)
 ·obtain⟨s,l,ok,ss,left,rfl,_⟩:=h;rfl
 obtain⟨s,l,ok,ss,left,rfl,ts,tl,lf,q⟩:=h;refine⟨_,(aL (aU (aR bN (aR iT (aN bA (aN bA (ao lz) (aN bA (ao lu) (Bc rD au) (fun _ _=>rfl)) (fun _ _=>rfl)) au (fun _ _=>rfl)) (aN bA (aN bA (ao lz) (aN bA (ao lu) au (fun _ _=>rfl)) (fun _ _=>rfl)) au (fun _ _=>rfl))) au))),?_⟩;obtain⟨la,rfl,_,el,_⟩:=tl.left;replace el:H la=some (.lst (nv left)):=el;cases ts with
 | lst o es zs tss=>
  obtain⟨k1,e1,m1,a1⟩:=FQ lf.ne;obtain⟨k0,e0,m0,a0⟩:=FT lf.ne;obtain⟨p1,x1,y1⟩:=tss.stN (lf.lt _ m1);obtain⟨p0,x0,y0⟩:=tss.stN (lf.lt _ m0);unfold iJ at q;rw[e1,e0] at q;push_cast [el,a1,a0,es,x1,x0,y1,y0];exact q
theorem Ds (hB:∀x:Str,x∈BLs->mg x=none) (F:Fun K "plans_in" "plans_in" dO f fd):dM P w K mg base CX0 1 f fd q15_ Fg:=by
 refine F.okq rM (fun vs H Q E h=>?_) (fun cdv A outer s H vs Q E hr h=>?_)
 ·obtain⟨s,l,p,ok,ss,left,pl,rfl,_⟩:=h;rfl
 obtain⟨s,l,p,ok,ss,left,pl,rfl,hn,ts,tl,tp,hst,lf,q⟩:=h;refine⟨_,(aD (bR lV rM.nd (aN bA (ao jN) au (fun _ _=>rfl)) rfl (.inl rfl))
  (aD (cg (aW (bY hr.aZ) (ao lV) bM (aM _)) (aD (ux (NX:=jh) (kX:=(ak dO).names) ["k","plan"] [none,some 2] pH rM.nd rfl rfl ⟨rfl,ψ,ψ,ψ,ψ⟩ rfl (eG (ao lW)) (fun _ _ _ _ _=>(eZ 0 (show List.Nodup (["k","plan"]:List Str) from by decide +kernel) rfl (Or.inl rfl))) (fun _ _ _ _ _=>(jJ (aW jK (bT 0) (aN bA (bT 1) au (fun _ _=>rfl)) (aM _)))) (fun _ _ _ _ _=>(bT 0)))
  (aL (aU (cB (aj (cN (aj (ao pH) (aj (aN bA (ao jN) au (fun _ _=>rfl)) aA rfl) rfl)) (aj (cN (aj (cj rK (ao lW) (cH (bO bx zM (hB "len" cR) PySem.boot_len cT (aj (ao pH) aA rfl) rfl rfl)) cV) (aj (aN bA (ao jN) au (fun _ _=>rfl)) aA rfl) rfl)) aA rfl) rfl))))) bF)
  (aD (cg (aW (bY hr.aZ) (ao lV) bM (aM _)) (aL (aU (cB (aj (cN (aj (iw (NX:=jh) (kX:=(ak dO).names) ["k","plan","stretches"] [none,some 2,some 0] rfl rfl ⟨rfl,ψ,ψ,ψ,ψ⟩ rfl (eG (ao lW)) (fun _ _ _ _ _=>(eZ 0 (show List.Nodup (["k","plan","stretches"]:List Str) from by decide +kernel) rfl (Or.inl rfl))) (fun _ _ _ _ _=>(jJ (aW (iz hr.aZ) (aN bA (aN bA (bT 2) (bT 0) (fun _ _=>rfl)) au (fun _ _=>rfl)) (aN bA (bT 1) au (fun _ _=>rfl)) (aM _)))) (fun _ _ _ _ _=>(bT 0))) (aj (aN bA (ao jN) au (fun _ _=>rfl)) aA rfl) rfl)) aA rfl)))) bF)
  (aD (cg (aW (TF hr.un1) (ao lV) (cN (aj bM (aj bM aA rfl) rfl)) (by with_unfolding_all rfl)) (aL (aU (cB (aj (cN (aj (iw (NX:=jh) (kX:=(ak dO).names) ["k","plan"] [none,some 2] rfl rfl ⟨rfl,ψ,ψ,ψ,ψ⟩ rfl (eG (ao lW)) (fun _ _ _ _ _=>(eZ 0 (show List.Nodup (["k","plan"]:List Str) from by decide +kernel) rfl (Or.inl rfl))) (fun _ _ _ _ _=>(jJ (aW (iz hr.aZ) (bT 0) (aN bA (bT 1) au (fun _ _=>rfl)) (aM _)))) (fun _ _ _ _ _=>(bT 0))) (aj (aN bA (ao jN) au (fun _ _=>rfl)) aA rfl) rfl)) aA rfl)))) bF)
  (aL (aU (cB aA))))))),?_⟩
 obtain⟨la,rfl,okl,el,ll⟩:=tl.left;replace el:H la=some (.lst (nv left)):=el;have ts0:=ts;cases ts with
 | lst os es zs tss=>
  rename_i sa xs;cases pl with
  | odd d=>cases hst
  | pick l=>
   cases tp with
   | tup o e z tt=>
    cases tt with
    | cons t1 tt=>
     cases t1;push_cast [e,rdW];refine⟨aX δ,fun t ht=>?_⟩;have s1:=aq (o:=HO.tup [V.str "is",V.str "within"]) ht;refine⟨t,["is","within"],.str "pick",ok,rfl,aB,.str _,?_⟩;rw[show([("is" : Str), "within"].any (dj (.str "pick")))=false by decide +kernel];push_cast;exact⟨aX δ,fun r hr=>q _ _ (s1.trans (aq hr)) (.lst (hn.new (kE hr).1) aB (by show 0<=1000000;decide) .nil)⟩
  | tab=>
   cases tp with
   | tup o e z tt=>
    cases tt with
    | cons t1 tt=>
     cases t1;push_cast [e,rdW];refine⟨aX δ,fun t ht=>?_⟩;have s1:=aq (o:=HO.tup [V.str "is",V.str "within"]) ht;refine⟨t,["is","within"],.str "table",ok,rfl,aB,.str _,?_⟩;rw[show([("is" : Str), "within"].any (dj (.str "table")))=false by decide +kernel];push_cast;exact⟨aX δ,fun r hr=>q _ _ (s1.trans (aq hr)) (.lst (hn.new (kE hr).1) aB (by show 0<=1000000;decide) .nil)⟩
  | one k r=>
   cases tp with
   | tup o e z tt=>
    cases tt with
    | cons t1 tt=>
     cases t1;cases tt with
     | cons t2 tt=>
      cases t2;cases tt with
      | cons t3 tt=>
       cases tt;rename_i pa x3;push_cast [e,rdW];refine⟨aX δ,fun t ht=>?_⟩;have s1:=aq (o:=HO.tup [V.str "is",V.str "within"]) ht;refine⟨t,["is","within"],.str "is",ok,rfl,aB,.str _,?_⟩;rw[show([("is" : Str), "within"].any (dj (.str "is")))=true by decide +kernel];have e1:=s1 _ _ e;have el1:=s1 _ _ el;have t31:=t3.same s1;have hn1:=hn.same s1;generalize upd H t (HO.tup [V.str "is",V.str "within"])=H1 at s1 e1 el1 t31 hn1 |-;push_cast;refine fB fun R hR=>?_;push_cast [el1];refine dB (·≠k) (fun τ=>∃o0,τ=[o0,some (.ref pa)]) hR el1 ll ⟨_,rfl⟩ ?_ ?_
       ·rintro i k' τ acc Pn hk ⟨o0,rfl⟩ h1 h2;push_cast [e1];by_cases c:k'=k
        ·subst c;rw[decide_eq_true (show((k':Nat):Int)=(k':Int) from rfl),Bool.not_true,if_neg δ];exact h2 (by simp) _ ⟨_,rfl⟩
        rw[decide_eq_false (show ¬((k':Nat):Int)=(k:Int) by omega),Bool.not_false,if_pos rfl];exact h1 (by simpa using c) _ ⟨_,rfl⟩
       intro d hd;have s2:=aq (o:=HO.lst (nv (left.filter (·≠k)))) hd;have e2:=s2 _ _ e1;have okd:=hn1.new hd;have t32:=t31.same s2;have ed:upd H1 d (HO.lst (nv (left.filter (·≠k)))) d=_:=aB;have hn2:=hn1.same s2;generalize upd H1 d (HO.lst (nv (left.filter (·≠k))))=H2 at s2 e2 t32 ed hn2 |-;push_cast [e2];refine⟨aX δ,fun t2 ht2=>⟨aX δ,fun r2 hr2=>?_⟩⟩;have s3:=aq (o:=HO.tup [V.ref d,x3]) ht2;have s4:=aq (o:=HO.lst [V.ref t2]) hr2;have s34:=s3.trans s4;refine q _ _ ((s1.trans s2).trans s34) (.lst (hn2.new (kE hr2).1) aB (by show 1<=1000000;decide) (.cons (.tup (hn2.new ht2) (s4 _ _ aB) (by show 2<=1000000;decide) (.cons (b7 okd (s34 _ _ ed) (le_trans (length_filter_le _ _) ll)) (.cons (t32.same s34) .nil))) .nil))
  | wit k r=>
   cases tp with
   | tup o e z tt=>
    cases tt with
    | cons t1 tt=>
     cases t1;cases tt with
     | cons t2 tt=>
      cases t2;cases tt with
      | cons t3 tt=>
       cases tt;rename_i pa x3;push_cast [e,rdW];refine⟨aX δ,fun t ht=>?_⟩;have s1:=aq (o:=HO.tup [V.str "is",V.str "within"]) ht;refine⟨t,["is","within"],.str "within",ok,rfl,aB,.str _,?_⟩;rw[show([("is" : Str), "within"].any (dj (.str "within")))=true by decide +kernel];have e1:=s1 _ _ e;have el1:=s1 _ _ el;have t31:=t3.same s1;have hn1:=hn.same s1;generalize upd H t (HO.tup [V.str "is",V.str "within"])=H1 at s1 e1 el1 t31 hn1 |-;push_cast;refine fB fun R hR=>?_;push_cast [el1];refine dB (·≠k) (fun τ=>∃o0,τ=[o0,some (.ref pa)]) hR el1 ll ⟨_,rfl⟩ ?_ ?_
       ·rintro i k' τ acc Pn hk ⟨o0,rfl⟩ h1 h2;push_cast [e1];by_cases c:k'=k
        ·subst c;rw[decide_eq_true (show((k':Nat):Int)=(k':Int) from rfl),Bool.not_true,if_neg δ];exact h2 (by simp) _ ⟨_,rfl⟩
        rw[decide_eq_false (show ¬((k':Nat):Int)=(k:Int) by omega),Bool.not_false,if_pos rfl];exact h1 (by simpa using c) _ ⟨_,rfl⟩
       intro d hd;have s2:=aq (o:=HO.lst (nv (left.filter (·≠k)))) hd;have e2:=s2 _ _ e1;have okd:=hn1.new hd;have t32:=t31.same s2;have ed:upd H1 d (HO.lst (nv (left.filter (·≠k)))) d=_:=aB;have hn2:=hn1.same s2;generalize upd H1 d (HO.lst (nv (left.filter (·≠k))))=H2 at s2 e2 t32 ed hn2 |-;push_cast [e2];refine⟨aX δ,fun t2 ht2=>⟨aX δ,fun r2 hr2=>?_⟩⟩;have s3:=aq (o:=HO.tup [V.ref d,x3]) ht2;have s4:=aq (o:=HO.lst [V.ref t2]) hr2;have s34:=s3.trans s4;refine q _ _ ((s1.trans s2).trans s34) (.lst (hn2.new (kE hr2).1) aB (by show 1<=1000000;decide) (.cons (.tup (hn2.new ht2) (s4 _ _ aB) (by show 2<=1000000;decide) (.cons (b7 okd (s34 _ _ ed) (le_trans (length_filter_le _ _) ll)) (.cons (t32.same s34) .nil))) .nil))
  | low k a b=>
   cases tp with
   | tup o e z tt=>
    cases tt with
    | cons t1 tt=>
     cases t1;cases tt with
     | cons t2 tt=>
      cases t2;cases tt with
      | cons t3 tt=>
       cases tt with
       | cons t4 tt=>
        cases tt;rename_i pa x3 x4;push_cast [e,rdW];refine fB fun R hR=>?_;push_cast [el];refine dB (· < k) (fun τ=>∃o0,τ=[o0,some (.ref pa)]) hR el ll ⟨_,rfl⟩ ?_ ?_
        ·rintro i k' τ acc Pn hk ⟨o0,rfl⟩ h1 h2;push_cast [e];by_cases c:k'<k
         ·rw[if_pos (show((k':Nat):Int)<(k:Int) by omega)];exact h1 (by simpa using c) _ ⟨_,rfl⟩
         rw[if_neg (show ¬((k':Nat):Int)<(k:Int) by omega)];exact h2 (by simpa using c) _ ⟨_,rfl⟩
        intro d hd;have s2:=aq (o:=HO.lst (nv (left.filter (· < k)))) hd;have e2:=s2 _ _ e;have okd:=hn.new hd;have t32:=t3.same s2;have t42:=t4.same s2;have el2:=s2 _ _ el;have ed:upd H d (HO.lst (nv (left.filter (· < k)))) d=_:=aB;have hn2:=hn.same s2;generalize upd H d (HO.lst (nv (left.filter (· < k))))=H2 at s2 e2 t32 t42 el2 ed hn2 |-;push_cast [e2];refine⟨aX δ,fun t5 ht5=>?_⟩;have s3:=aq (o:=HO.tup [V.ref d,x3]) ht5;have e3:=s3 _ _ e2;have el3:=s3 _ _ el2;have ed3:=s3 _ _ ed;have et5:upd H2 t5 (HO.tup [V.ref d,x3]) t5=_:=aB;have ok5:=hn2.new ht5;have hn3:=hn2.same s3;have t33:=t32.same s3;have t43:=t42.same s3;generalize upd H2 t5 (HO.tup [V.ref d,x3])=H3 at s3 e3 el3 ed3 et5 hn3 t33 t43 |-;push_cast [ed3,fO,el3];intro d6 hd6;rw[Iv lf.up];have s6:=aq (o:=HO.lst (nv (left.filter (k<=·)))) hd6;have e6:=s6 _ _ e3;have ed6:upd H3 d6 (HO.lst (nv (left.filter (k<=·)))) d6=_:=aB;have ok6:=hn3.new hd6;have hn6:=hn3.same s6;have ed36:=s6 _ _ ed3;have et56:=s6 _ _ et5;have t36:=t33.same s6;have t46:=t43.same s6;generalize upd H3 d6 (HO.lst (nv (left.filter (k<=·))))=H6 at s6 e6 ed6 hn6 ed36 et56 t36 t46 |-;push_cast [e6];refine⟨aX δ,fun t7 ht7=>⟨aX δ,fun r8 hr8=>?_⟩⟩;have s7:=aq (o:=HO.tup [V.ref d6,x4]) ht7;have s8:=aq (o:=HO.lst [V.ref t5,V.ref t7]) hr8;have s78:=s7.trans s8;refine q _ _ (((s2.trans s3).trans s6).trans s78) (.lst (hn6.new (kE hr8).1) aB (by show 2<=1000000;decide) (.cons (.tup ok5 (s78 _ _ et56) (by show 2<=1000000;decide) (.cons (b7 okd (s78 _ _ ed36) (le_trans (length_filter_le _ _) ll)) (.cons (t36.same s78) .nil))) (.cons (.tup (hn6.new ht7) (s8 _ _ aB) (by show 2<=1000000;decide) (.cons (b7 ok6 (s78 _ _ ed6) (le_trans (length_filter_le _ _) ll)) (.cons (t46.same s78) .nil))) .nil)))
  | msk l r=>
   cases tp with
   | tup o e z tt=>
    cases tt with
    | cons t1 tt=>
     cases t1;cases tt with
     | cons t2 tt=>
      cases t2;cases tt with
      | cons t3 tt=>
       cases tt;rename_i pa x3;push_cast [e,rdW];refine fB fun R hR=>?_;push_cast [el];refine dB (fun k=>(bU ss k).2.2≠l) (fun τ=>∃o0,τ=[o0,some (.ref pa),some (.ref sa)]) hR el ll ⟨_,rfl⟩ ?_ ?_
       ·rintro i k' τ acc Pn hk ⟨o0,rfl⟩ h1 h2;obtain⟨sk,x1,y1⟩:=tss.stN (lf.lt _ (mem_of_getElem? hk));push_cast [e,es,x1,y1];by_cases c:(bU ss k').2.2=l
        ·rw[decide_eq_true c,Bool.not_true,if_neg δ];exact h2 (by simpa using c) _ ⟨_,rfl⟩
        rw[decide_eq_false c,Bool.not_false,if_pos rfl];exact h1 (by simpa using c) _ ⟨_,rfl⟩
       intro d hd;have s2:=aq (o:=HO.lst (nv (left.filter fun k=>(bU ss k).2.2≠l))) hd;have e2:=s2 _ _ e;have okd:=hn.new hd;have t32:=t3.same s2;have ed:upd H d (HO.lst (nv (left.filter fun k=>(bU ss k).2.2≠l))) d=_:=aB;have hn2:=hn.same s2;generalize upd H d (HO.lst (nv (left.filter fun k=>(bU ss k).2.2≠l)))=H2 at s2 e2 t32 ed hn2 |-;push_cast [e2];refine⟨aX δ,fun t2 ht2=>⟨aX δ,fun r2 hr2=>?_⟩⟩;have s3:=aq (o:=HO.tup [V.ref d,x3]) ht2;have s4:=aq (o:=HO.lst [V.ref t2]) hr2;have s34:=s3.trans s4;refine q _ _ (s2.trans s34) (.lst (hn2.new (kE hr2).1) aB (by show 1<=1000000;decide) (.cons (.tup (hn2.new ht2) (s4 _ _ aB) (by show 2<=1000000;decide) (.cons (b7 okd (s34 _ _ ed) (le_trans (length_filter_le _ _) ll)) (.cons (t32.same s34) .nil))) .nil))
noncomputable abbrev nH:List Str:=["stretches","left"]
noncomputable abbrev eY:Stmt:=top 6
theorem yD:bW nH q8_ (ak eY):=⟨rfl,rfl,rfl,ψ,rfl,ψ,ψ⟩
theorem wH:NM_ nH eY 1 "left" := .of ψ
theorem rz:Bn "labels_left" := ⟨ψ,ψ⟩
theorem Qf (hB:∀x:Str,x∈BLs->mg x=none) (F:Fun K "labels_left" "labels_left" eY f fd):dM P w K mg base CX0 1 f fd q8_ Dg:=by
 refine F.okq yD (fun vs H Q E h=>?_) (fun cdv A outer s H vs Q E hr h=>?_)
 ·obtain⟨s,l,ok,ss,left,rfl,_⟩:=h;rfl
 obtain⟨s,l,ok,ss,left,rfl,ts,tl,lf,q⟩:=h;refine⟨_,(aL (aU (iw (NX:=nH) (kX:=(ak eY).names) ["k","stretches"] [none,some 0] rfl rfl ⟨rfl,ψ,ψ,ψ,ψ⟩ rfl (eG (ao wH)) (fun _ _ _ _ _=>(eZ 0 (show List.Nodup (["k","stretches"]:List Str) from by decide +kernel) rfl (Or.inl rfl))) (fun _ _ _ _ _=>yP) (fun _ _ _ _ _=>(aN bA (aN bA (bT 1) (bT 0) (fun _ _=>rfl)) au (fun _ _=>rfl)))))),?_⟩;obtain⟨la,rfl,_,el,hll⟩:=tl.left;replace el:H la=some (.lst (nv left)):=el;cases ts with
 | lst o es zs tss=>
  push_cast;refine fB fun R hR=>?_;push_cast [el];refine oH (lbl ss) (fun τ=>∃o0,τ=[o0,some (.ref _)]) hR el hll ⟨_,rfl⟩ ?_ ?_
  ·rintro i k τ acc Pn hk ⟨o0,rfl⟩ hN;obtain⟨p1,x1,y1⟩:=tss.stN (lf.lt _ (mem_of_getElem? hk));push_cast [es,x1,y1];exact hN _ ⟨_,rfl⟩
  intro d hd;exact q d hd
noncomputable abbrev Es:List Str:=["_law_stretches_here","_law_left"]
noncomputable abbrev mO:Stmt:=top 16
theorem N7:bW Es q9_ (ak mO):=⟨rfl,rfl,rfl,ψ,rfl,ψ,ψ⟩
theorem Bs:NM_ Es mO 0 "_law_stretches_here" := .of ψ
theorem Br:NM_ Es mO 1 "_law_left" := .of ψ
theorem uJ:Bn "_law_span" := ⟨ψ,ψ⟩
noncomputable abbrev Et:List Str:=["_law_tape_here","_law_great"]
noncomputable abbrev lK:Stmt:=top 18
theorem Fo:bW Et ["_law_tape_here"] (ak lK):=⟨rfl,rfl,rfl,ψ,rfl,ψ,ψ⟩
theorem vh:NM_ Et lK 0 "_law_tape_here" := .of ψ
theorem Bw:NM_ Et lK 1 "_law_great" := .of ψ
theorem mj:GI_ lK "_law_take" := by decide +kernel
theorem Rb:Bn "_law_many" := ⟨ψ,ψ⟩
theorem Qc (hB:∀x:Str,x∈BLs->mg x=none) (F:Fun K "_law_span" "_law_span" mO f fd):dM P w K mg base CX0 1 f fd q9_ mK:=by
 refine F.okq N7 (fun vs H Q E h=>?_) (fun cdv A outer s H vs Q E hr h=>?_)
 ·obtain⟨s,l,ok,ss,left,rfl,_⟩:=h;rfl
 obtain⟨s,l,ok,ss,left,rfl,ts,tl,lf,q⟩:=h;refine⟨_,(aL (aU (aR bN (aR iT (aN bA (aN bA (ao Bs) (aN bA (ao Br) (Bc rD au) (fun _ _=>rfl)) (fun _ _=>rfl)) au (fun _ _=>rfl)) (aN bA (aN bA (ao Bs) (aN bA (ao Br) au (fun _ _=>rfl)) (fun _ _=>rfl)) au (fun _ _=>rfl))) au))),?_⟩;obtain⟨la,rfl,_,el,_⟩:=tl.left;replace el:H la=some (.lst (nv left)):=el;cases ts with
 | lst o es zs tss=>
  obtain⟨k1,e1,m1,a1⟩:=FQ lf.ne;obtain⟨k0,e0,m0,a0⟩:=FT lf.ne;obtain⟨p1,x1,y1⟩:=tss.stN (lf.lt _ m1);obtain⟨p0,x0,y0⟩:=tss.stN (lf.lt _ m0);unfold iJ at q;rw[e1,e0] at q;push_cast [el,a1,a0,es,x1,x0,y1,y0];exact q
theorem Qe (hB:∀x:Str,x∈BLs->mg x=none) (CZTake:Cal P w K mg base "_law_take" 2 q0_ (jF 2)) (F:Fun K "_law_many" "_law_many" lK f fd):dM P w K mg base CX0 3 f fd ["_law_tape_here"] JK:=by
 refine F.okq Fo (fun vs H Q E h=>?_) (fun cdv A outer s H vs Q E hr h=>?_)
 ·obtain⟨p,B,rfl,_⟩:=h;rfl
 obtain⟨p,B,rfl,tp,hB0,hB1,q⟩:=h;refine⟨_,(aD (bR Bw Fo.nd (fU (bY hr.aZ) (aY CZTake (hr.mono δ) mj bV (aj (ao vh) (aj au aA rfl) rfl) rfl rfl) au (aM _)) rfl (.inl rfl))
  (aL (aU (tL (eV (ao Bw) (fun _=>rfl)) (aR bN au (aY CZTake (hr.mono δ) mj bV (aj (ao vh) (aj au aA rfl) rfl) rfl rfl)) (aR bN au (aY CZTake (hr.mono δ) mj bV (aj (ao vh) (aj au aA rfl) rfl) rfl rfl)))))),?_⟩
 refine aQ fun k hk=>?_;push_cast;refine⟨p,8,B,rfl,tp,by show B+2<=1000100;omega,δ,δ,δ,fun z=>absurd z δ,fun r1 H1 r10 r11 s1 tp1=>?_⟩;push_cast;subst hk;push_cast;by_cases c:r1=0
 ·rw[if_pos c];refine⟨p,50,B+2,rfl,tp1,by show B+2+2<=1000100;omega,δ,δ,δ,fun z=>absurd z δ,fun r2 H2 r20 r21 s2 tp2=>?_⟩;push_cast;exact q _ _ (s1.trans s2) (tp2.le (by show B+2+2<=B+4;omega)) ω ω
 rw[if_neg c];refine⟨p,9,B+2,rfl,tp1,by show B+2+2<=1000100;omega,δ,δ,δ,fun z=>absurd z δ,fun r2 H2 r20 r21 s2 tp2=>?_⟩;push_cast;exact q _ _ (s1.trans s2) (tp2.le (by show B+2+2<=B+4;omega)) ω ω
end
noncomputable abbrev yg:List Str:=["thing"]
noncomputable abbrev fJ:Stmt:=top 1
theorem Dh:bW yg ["thing"] (ak fJ):=⟨rfl,rfl,rfl,ψ,rfl,ψ,ψ⟩
theorem tM:NM_ yg fJ 0 "thing" := .of ψ
theorem vV:GI_ fJ "bool" := by decide +kernel
theorem wU:GI_ fJ "int" := by decide +kernel
theorem jg:GI_ fJ "isinstance" := by decide +kernel
theorem Ep:Bn "is_number" := ⟨ψ,ψ⟩
noncomputable abbrev mq:List Str:=["stretches","left","label"]
noncomputable abbrev dF:Stmt:=top 7
theorem Ak:bW mq q12_ (ak dF):=⟨rfl,rfl,rfl,ψ,rfl,ψ,ψ⟩
theorem yZ:NM_ mq dF 0 "stretches" := .of ψ
theorem qG:NM_ mq dF 1 "left" := .of ψ
theorem yX:NM_ mq dF 2 "label" := .of ψ
theorem mF:GI_ dF "labels_left" := by decide +kernel
theorem vQ:GI_ dF "len" := by decide +kernel
theorem Cv:Bn "parts_some" := ⟨ψ,ψ⟩
noncomputable abbrev oM:List Str:=["stretches","left","thing","word","which"]
noncomputable abbrev dg:Stmt:=top 8
theorem uU:bW oM q13_ (ak dg):=⟨rfl,rfl,rfl,ψ,rfl,ψ,ψ⟩
theorem jC:NM_ oM dg 0 "stretches" := .of ψ
theorem gY:NM_ oM dg 1 "left" := .of ψ
theorem fK:NM_ oM dg 2 "thing" := .of ψ
theorem iW:NM_ oM dg 3 "word" := .of ψ
theorem iV:NM_ oM dg 4 "which" := .of ψ
theorem pY:GI_ dg "MOST_IN_MASK" := by decide +kernel
theorem oU:GI_ dg "MOST_IN_TABLE" := by decide +kernel
theorem sW:GI_ dg "is_number" := by decide +kernel
theorem pX:GI_ dg "isinstance" := by decide +kernel
theorem pZ:GI_ dg "labels_left" := by decide +kernel
theorem gb:GI_ dg "len" := by decide +kernel
theorem iM:GI_ dg "numbers_across" := by decide +kernel
theorem qU:GI_ dg "parts_some" := by decide +kernel
theorem wQ:GI_ dg "tuple" := by decide +kernel
theorem M7:Bn "is_step" := ⟨ψ,ψ⟩
theorem zR (left:List Nat):lG (nv left) (some 1) none=nv (left.drop 1):=by
 unfold lG;have e2:HT.sIx (nv left).length (nv left).length none=(nv left).length:=rfl;rw[e2];cases left with
 | nil=>rfl
 | cons a r=>
  have e1:HT.sIx (nv (a::r)).length 0 (some 1)=1:=by
   simp only[HT.sIx,fO,length_cons];split
   ·omega
   omega
  rw[e1];show(((nv (a::r)).drop 1).take _)=nv r;rw[take_of_length_le (by rw[length_drop];exact le_refl _)];rfl
section
variable {P:Program}{w:World}{K:PySem.W.Frag}{mg:Str->Option Value}{base:Heap}{f:Addr}{fd:FuncData}{bs:List Str}{ckMostInMask ckMostInTable:Tok}
theorem K7 (hB:∀x:Str,x∈BLs->mg x=none) (F:Fun K "is_number" "is_number" fJ f fd):dM P w K mg base CX0 1 f fd ["thing"] JH:=by
 refine F.okq Dh (fun vs H Q E h=>?_) (fun cdv A outer s H vs Q E hr h=>?_)
 ·obtain⟨v,ok,d,rfl,_⟩:=h;rfl
 obtain⟨v,ok,d,rfl,t,q⟩:=h;refine⟨_,(aL (aU (mW (bO cJ jg (hB "isinstance" bh) boot_isinstance bw (aj (ao tM) (aj (gW "int" wU (hB "int" sI) boot_int sZ) aA rfl) rfl) rfl rfl) (mV (Sq (bO cJ jg (hB "isinstance" bh) boot_isinstance bw (aj (ao tM) (aj (gW "bool" vV (hB "bool" qI) boot_bool qZ) aA rfl) rfl) rfl rfl)))))),?_⟩;cases t with
 | non=>push_cast;exact q
 | bl b=>push_cast;exact q
 | int i=>push_cast;exact q
 | str x=>push_cast;exact q
 | lst o e z t=>push_cast [e];exact q
 | tup o e z t=>push_cast [e];exact q
theorem K5 (hB:∀x:Str,x∈BLs->mg x=none) (CLabelsLeft:Cal P w K mg base "labels_left" 1 q8_ Dg) (F:Fun K "parts_some" "parts_some" dF f fd):dM P w K mg base CX0 2 f fd q12_ Fd:=by
 refine F.okq Ak (fun vs H Q E h=>?_) (fun cdv A outer s H vs Q E hr h=>?_)
 ·obtain⟨s,l,ok,ss,left,m,rfl,_⟩:=h;rfl
 obtain⟨s,l,ok,ss,left,m,rfl,ts,tl,lf,hl9,q⟩:=h;refine⟨_,(aL (aU (Km jK jK au (uF K hr.un1 (aY CLabelsLeft (hr.mono δ) mF rz (aj (ao yZ) (aj (ao qG) aA rfl) rfl) rfl rfl) (ao yX)) (bO bx vQ (hB "len" cR) PySem.boot_len cT (aj (ao qG) aA rfl) rfl rfl)))),?_⟩;obtain⟨la,rfl,okl,el,ll⟩:=tl.left;replace el:H la=some (.lst (nv left)):=el;push_cast;refine⟨s,_,ok,ss,left,rfl,ts,tl,lf,fun a ha=>?_⟩;have s1:=aq (o:=HO.lst ((left.map (lbl ss)).map V.int)) ha;have e1:upd H a (HO.lst ((left.map (lbl ss)).map V.int)) a=_:=aB;generalize upd H a (HO.lst ((left.map (lbl ss)).map V.int))=H1 at s1 e1 |-;have el1:=s1 _ _ el;push_cast [el1];refine⟨⟨_,SqL.of e1⟩,_,SqL.of e1,_,.inl ⟨_,_,rfl,rfl,rfl⟩,?_⟩;have qq:=q _ s1;rw[fO];split
 ·rename_i c;rw[decide_eq_true (show 0<gj ss left m from by have:(0:Int)<((left.map (lbl ss)).count m:Nat):=c;unfold gj;omega),Bool.true_and] at qq;rw[show decide ((((left.map (lbl ss)).count m:Nat):Int)<(left.length:Int))=decide (gj ss left m<left.length) from decide_eq_decide.mpr Int.ofNat_lt];exact qq
 rename_i c;rw[decide_eq_false (show ¬0<gj ss left m from by have:¬(0:Int)<((left.map (lbl ss)).count m:Nat):=c;unfold gj;omega),Bool.false_and] at qq;exact qq
theorem Hu (hB:∀x:Str,x∈BLs->mg x=none) (cgMostInMask:mg "MOST_IN_MASK" = some (.int 64 ckMostInMask)) (cgMostInTable:mg "MOST_IN_TABLE" = some (.int 200 ckMostInTable)) (CIsNumber:Cal P w K mg base "is_number" 1 ["thing"] JH) (CNumbersAcross:Cal P w K mg base "numbers_across" 1 q8_ mK) (CLabelsLeft:Cal P w K mg base "labels_left" 1 q8_ Dg) (CPartsSome:Cal P w K mg base "parts_some" 2 q12_ Fd) (F:Fun K "is_step" "is_step" dg f fd):dM P w K mg base CX0 3 f fd q13_ EY:=by
 refine F.okq uU (fun vs H Q E h=>?_) (fun cdv A outer s H vs Q E hr h=>?_)
 ·obtain⟨s,l,p,ok,ss,left,pl,rfl,_⟩:=h;rfl
 obtain⟨s,l,p,ok,ss,left,pl,rfl,ts,tl,tp,wf,lf,q⟩:=h;refine⟨_,(aD (cg (mR (jH (iR (eV (bO cJ pX (hB "isinstance" bh) boot_isinstance bw (aj (ao fK) (aj (gW "tuple" wQ (hB "tuple" gM) boot_tuple gO) aA rfl) rfl) rfl rfl) (fun _=>rfl))) (jG (iR (Kf (ao fK)))))) (aL (aU fP)) bF)
  (aD (bR iW uU.nd (aN bA (ao fK) au (fun _ _=>rfl)) rfl (.inl rfl))
  (aD (cg (aW (bY hr.aZ) (ao iW) bM (aM _)) (aL (aU (mW (fU (bY hr.aZ) (bO bx gb (hB "len" cR) PySem.boot_len cT (aj (ao fK) aA rfl) rfl rfl) au (aM _)) (mV (fU Bh (aY CNumbersAcross (hr.mono δ) iM mz (aj (ao jC) (aj (ao gY) aA rfl) rfl) rfl rfl) (Fv (v:=V.int 200) oU cgMostInTable ⟨_,rfl⟩ wW) (aM _)))))) bF)
  (aD (cg (mR (jH (aW jK (bO bx gb (hB "len" cR) PySem.boot_len cT (aj (ao fK) aA rfl) rfl rfl) au (aM _)) (jG (iR (eV (aY CIsNumber (hr.mono δ) sW Ep (aj (aN bA (ao fK) au (fun _ _=>rfl)) aA rfl) rfl rfl) (fun _=>rfl)))))) (aL (aU fP)) bF)
  (aD (bR iV uU.nd (aN bA (ao fK) au (fun _ _=>rfl)) rfl (.inl rfl))
  (aD (cg (aW (bY hr.aZ) (ao iW) bM (aM _)) (aL (aU (mW (fU (bY hr.aZ) (bO bx gb (hB "len" cR) PySem.boot_len cT (aj (ao fK) aA rfl) rfl rfl) au (aM _)) (mV (fU (bY hr.aZ) (uF K hr.un1 (aY CLabelsLeft (hr.mono δ) pZ rz (aj (ao jC) (aj (ao gY) aA rfl) rfl) rfl rfl) (ao iV)) (bO bx gb (hB "len" cR) PySem.boot_len cT (aj (ao gY) aA rfl) rfl rfl) (aM _)))))) bF)
  (aD (cg (aW (bY hr.aZ) (ao iW) bM (aM _)) (aL (aU (mW (fU (bY hr.aZ) (bO bx gb (hB "len" cR) PySem.boot_len cT (aj (ao fK) aA rfl) rfl rfl) au (aM _)) (mV (fU TQ (ao iV) (cj rK (ao gY) (cH au) cV) (by with_unfolding_all rfl)))))) bF)
  (aD (cg (aW (iz hr.aZ) (bO bx gb (hB "len" cR) PySem.boot_len cT (aj (ao fK) aA rfl) rfl rfl) au (aM _)) (aL (aU fP)) bF)
  (aD (cg (aW (bY hr.aZ) (ao iW) bM (aM _)) (aL (aU (mW (aY CPartsSome (hr.mono δ) qU Cv (aj (ao jC) (aj (ao gY) (aj (ao iV) aA rfl) rfl) rfl) rfl rfl) (mV (fU Bh (aY CNumbersAcross (hr.mono δ) iM mz (aj (ao jC) (aj (ao gY) aA rfl) rfl) rfl rfl) (Fv (v:=V.int 64) pY cgMostInMask ⟨_,rfl⟩ zY) (aM _)))))) bF)
  (aD (cg (mR (jH (aW nW (ao iV) (ao gY) (by with_unfolding_all rfl)) (jG (aW (bY hr.aZ) (bO bx gb (hB "len" cR) PySem.boot_len cT (aj (ao gY) aA rfl) rfl rfl) au (aM _))))) (aL (aU fP)) bF)
  (aD (cg (aW (bY hr.aZ) (ao iW) bM (aM _)) (aL (aU (fU (bY hr.aZ) (aN bA (aN bA (ao jC) (ao iV) (fun _ _=>rfl)) au (fun _ _=>rfl)) (aN bA (aN bA (ao jC) (ao iV) (fun _ _=>rfl)) au (fun _ _=>rfl)) (aM _)))) bF)
  (aL (aU (fU (bY hr.aZ) (ao iW) bM (aM _))))))))))))))),?_⟩
 obtain⟨la,rfl,okl,el,ll⟩:=tl.left;replace el:H la=some (.lst (nv left)):=el;rw[DR wf] at q;generalize pgD pl=d at tp q;refine aQ fun k hk=>?_;refine dI fun kt ke hkt hke=>?_;have kf:stepT ss left d=false->kt [some s,some (.ref la),some p,none,none] H:=fun e=>by
  subst hkt;push_cast;rw[e] at q;exact q _ (Same.refl _)
 cases tp with
 | non=>push_cast;exact kf rfl
 | bl b=>push_cast;exact kf rfl
 | int i=>push_cast;exact kf rfl
 | str x=>push_cast;exact kf rfl
 | lst o e z t=>push_cast [e];exact kf rfl
 | tup o e z tt=>
  cases tt with
  | nil=>push_cast [e];exact kf rfl
  | cons t0 tt=>
   rename_i pa x0 d0 xs ds;clear kf hkt;have hlen:=tt.length;replace q:∀H',Same H H'->Q (.bl (jc ss left d0 ds)) H':=q;unfold jc at q;push_cast [e];rw[if_neg (by simp)];subst hke;push_cast;subst hk;refine aQ fun k hk=>?_;push_cast [e];subst hk;refine aQ fun k hk=>?_;refine dI fun kt ke hkt hke=>?_;push_cast;refine lE t0 ⟨_,rfl,?_⟩;cases h1:dj d0 "table" with
   | true=>
    rw[if_pos rfl];simp only[h1,↓reduceIte] at q;subst hkt;push_cast [e];cases tt with
    | nil=>
     rw[if_pos δ];exact⟨s,_,ok,ss,left,rfl,ts,tl,lf,_,rfl,q _ (Same.refl _)⟩
    | cons _ tt=>
     rw[if_neg (by simp only[length_cons];omega)];exact q _ (Same.refl _)
   | false=>
    simp only[h1,false_eq_true,↓reduceIte] at q;rw[if_neg δ];subst hke;push_cast;subst hk;refine aQ fun k hk=>?_;refine dI fun kt ke hkt hke=>?_;push_cast [e];have kf:(∀H',Same H H'->Q (.bl false) H')->kt [some s,some (.ref la),some (.ref pa),some x0,none] H:=fun q=>by
     subst hkt;push_cast;exact q _ (Same.refl _)
    cases tt with
    | nil=>
     rw[if_pos δ];exact kf q
    | cons t1 tt=>
     rename_i x1 d1 xs ds;replace hlen:=tt.length;rw[if_neg (by simp only[length_cons];omega),show atI (x0::x1::xs) 1=some x1 from GD _ _ _];refine⟨x1,rfl,x1,ok,d1,rfl,t1,_,rfl,?_⟩;cases hn:DK d1 with
     | false=>
      rw[if_pos (show(!false)=true from rfl)];refine kf ?_;cases d1 with
      | int i=>cases hn
      | _=>exact q
     | true=>
      obtain⟨i,rfl⟩:∃i,d1=.int i:=by cases d1 <;> simp [DK] at hn;exact⟨_,rfl⟩
      cases t1;rw[if_neg δ];clear kf hkt;subst hke;push_cast;subst hk;have a1:atI (x0::V.int i::xs) 1=some (V.int i):=GD _ _ _;refine aQ fun k hk=>?_;push_cast [e,a1];subst hk;dsimp only at q;refine aQ fun k hk=>?_;refine dI fun kt ke hkt hke=>?_;push_cast;refine lE t0 ⟨_,rfl,?_⟩;cases h2:dj d0 "pick" with
      | true=>
       rw[if_pos rfl];simp only[h2,↓reduceIte] at q;subst hkt;push_cast [e];cases tt with
       | nil=>
        rw[if_pos δ];refine⟨s,_,ok,ss,left,rfl,ts,tl,lf,fun a ha=>?_⟩;have s1:=aq (o:=HO.lst ((left.map (lbl ss)).map V.int)) ha;have e1:upd H a (HO.lst ((left.map (lbl ss)).map V.int)) a=_:=aB;generalize upd H a (HO.lst ((left.map (lbl ss)).map V.int))=H1 at s1 e1 |-;have el1:=s1 _ _ el;push_cast [el1];refine⟨⟨_,SqL.of e1⟩,_,SqL.of e1,_,.inl ⟨_,_,rfl,rfl,rfl⟩,?_⟩;rw[fO,show decide ((((left.map (lbl ss)).count i:Nat):Int)=(left.length:Int))=decide (gj ss left i=left.length) from decide_eq_decide.mpr Int.ofNat_inj];exact q _ s1
       | cons _ tt=>
        rw[if_neg (by simp only[length_cons];omega)];exact q _ (Same.refl _)
      | false=>
       simp only[h2,false_eq_true,↓reduceIte] at q;rw[if_neg δ];subst hke;push_cast;subst hk;refine aQ fun k hk=>?_;refine dI fun kt ke hkt hke=>?_;push_cast;refine lE t0 ⟨_,rfl,?_⟩;cases h3:dj d0 "below" with
       | true=>
        rw[if_pos rfl];simp only[h3,↓reduceIte] at q;subst hkt;push_cast [e,el];by_cases c4:ds.length=2
        ·rw[if_pos ω];intro p1 hp1;rw[zR];refine⟨rfl,jZ _,?_⟩;rw[decide_eq_true c4,Bool.true_and] at q;exact q _ (aq hp1)
        rw[if_neg ω];rw[decide_eq_false c4,Bool.false_and] at q;exact q _ (Same.refl _)
       | false=>
        simp only[h3,false_eq_true,↓reduceIte] at q;rw[if_neg δ];subst hke;push_cast;subst hk;refine aQ fun k hk=>?_;refine dI fun kt ke hkt hke=>?_;push_cast [e];by_cases c3:ds.length=1
        ·rw[decide_eq_true (show((xs.length+1+1:Nat):Int)=3 by omega),if_neg δ];rw[if_neg (show ¬ds.length≠1 from fun z=>z c3)] at q;subst hke;push_cast;subst hk;refine aQ fun k hk=>?_;refine dI fun kt ke hkt hke=>?_;push_cast;refine lE t0 ⟨_,rfl,?_⟩;cases h4:dj d0 "mask" with
         | true=>
          rw[if_pos rfl];simp only[h4,↓reduceIte] at q;subst hkt;push_cast;refine⟨s,_,ok,ss,left,i,rfl,ts,tl,lf,ll,fun H1 s1=>⟨_,rfl,?_⟩⟩;cases hc:(decide (0<gj ss left i)&&decide (gj ss left i<left.length)) with
          | true=>
           rw[hc,Bool.true_and] at q;rw[if_pos rfl];exact⟨s,_,ok,ss,left,rfl,ts.same s1,tl.same s1,lf,_,rfl,q _ s1⟩
          | false=>
           rw[hc,Bool.false_and] at q;rw[if_neg δ];exact q _ s1
         | false=>
          simp only[h4,false_eq_true,↓reduceIte] at q;rw[if_neg δ];subst hke;push_cast;subst hk;refine aQ fun k hk=>?_;refine dI fun kt ke hkt hke=>?_;push_cast [el];refine⟨rfl,jZ _,?_⟩;have kf:(∀H',Same H H'->Q (.bl false) H')->kt [some s,some (.ref la),some (.ref pa),some x0,some (.int i)] H:=fun q=>by
           subst hkt;push_cast;exact q _ (Same.refl _)
          rw[fO];cases hc:inV (V.int i) (nv left) with
          | false=>
           rw[if_pos (show(!false)=true from rfl)];rw[if_pos (.inl hc)] at q;exact kf q
          | true=>
           rw[if_neg δ];by_cases h1l:left.length=1
           ·rw[if_pos ω];rw[if_pos (.inr h1l)] at q;exact kf q
           rw[if_neg ω];rw[if_neg (show ¬(inV (V.int i) (nv left)=false\/left.length=1) from fun z=>z.elim (fun z=>by rw[hc] at z;cases z) h1l)] at q;clear kf hkt;subst hke;push_cast;subst hk;refine aQ fun k hk=>?_;refine dI fun kt ke hkt hke=>?_;push_cast;refine lE t0 ⟨_,rfl,?_⟩;cases h5:dj d0 "is" with
           | true=>
            rw[if_pos rfl];simp only[h5,↓reduceIte] at q;subst hkt;obtain⟨k9,rfl⟩:∃k9:Nat,i=(k9:Int):=by
             rcases lt_or_le i 0 with z|z
             ·rw[oA z] at hc;cases hc
             exact eq_ofNat_of_zero_le z
            rw[pL] at hc;rw[toNat_natCast] at q;cases ts with
            | lst os es zs tss=>
             obtain⟨p1,x1,y1⟩:=tss.stN (lf.lt _ (contains_iff_mem.mp hc));push_cast [es,x1,y1];exact q _ (Same.refl _)
           | false=>
            simp only[h5,false_eq_true,↓reduceIte] at q;rw[if_neg δ];subst hke;push_cast;subst hk;push_cast;exact lE t0 (q _ (Same.refl _))
        rw[decide_eq_false (show ¬((xs.length+1+1:Nat):Int)=3 by omega),if_pos δ];rw[if_pos (show ds.length≠1 from c3)] at q;subst hkt;push_cast;exact q _ (Same.refl _)
end
noncomputable abbrev oN:List Str:=["stretches","thing","waiting","left","part"]
noncomputable abbrev eF:Stmt:=top 10
theorem qt:bW oN q14_ (ak eF):=⟨rfl,rfl,rfl,ψ,rfl,ψ,ψ⟩
theorem sE:NM_ oN eF 0 "stretches" := .of ψ
theorem HJ:NM_ oN eF 1 "thing" := .of ψ
theorem oh:NM_ oN eF 2 "waiting" := .of ψ
theorem sy:NM_ oN eF 3 "left" := .of ψ
theorem su:NM_ oN eF 4 "part" := .of ψ
theorem vU:GI_ eF "is_step" := by decide +kernel
theorem BX:GI_ eF "len" := by decide +kernel
theorem zO:GI_ eF "list" := by decide +kernel
theorem uq:GI_ eF "plans_in" := by decide +kernel
theorem wR:GI_ eF "range" := by decide +kernel
theorem Cw:Bn "is_plan" := ⟨ψ,ψ⟩
theorem Vx {ok OD:Addr->Prop}{H H':Hp}{lw:Addr}{xs:List V}(hn:cY ok H)(hOD:OD=fun x=>ok x/\x≠lw)(s:Same H H')(e:H' lw=some (.lst xs)):cY OD H':=by
 rw[hOD];exact fun H2 p s2 hp=>⟨hn H2 p (s.trans s2) hp,(aF (s2 _ _ e) hp).symm⟩
theorem Uh {ss:Sts}(h:0<ss.length):Lf ss (List.range ss.length):=by
 refine⟨fun z=>?_,fun k hk=>by simpa using hk,List.pairwise_lt_range⟩;have e:(List.range ss.length).length=0:=by rw[z];rfl
 rw[length_range] at e;omega
section
variable {P:Program}{w:World}{K:PySem.W.Frag}{mg:Str->Option Value}{base:Heap}{f:Addr}{fd:FuncData}{bs:List Str}
theorem Hv (hB:∀x:Str,x∈BLs->mg x=none) (CIsStep:Cal P w K mg base "is_step" 3 q13_ EY) (CPlansIn:Cal P w K mg base "plans_in" 1 q15_ Fg) (F:Fun K "is_plan" "is_plan" eF f fd):dM P w K mg base CX0 4 f fd q14_ nQ:=by
 refine F.okq qt (fun vs H Q E h=>?_) (fun cdv A outer s H vs Q E hr h=>?_)
 ·obtain⟨s,p,ok,ss,pl,rfl,_⟩:=h;rfl
 obtain⟨s,p,ok,ss,pl,rfl,hn,ts,tp,wf,h0,h60,hsz,q⟩:=h;refine⟨_,(aD (bR oh qt.nd (cB (aj (cN (aj (Bd rfl zO (hB "list" jb) wR (hB "range" jO) (aj (bO bx BX (hB "len" cR) PySem.boot_len cT (aj (ao sE) aA rfl) rfl rfl) aA rfl)) (aj (ao HJ) aA rfl) rfl)) aA rfl)) rfl (.inl rfl))
  (aD (Kh PassesOwn.never (Kf (ao oh)) (aD (lN (Ov (ao oh)) (yO (n:=2) rfl (je (jX sy qt.nd (.inl rfl)) (je (jX su qt.nd (.inl rfl)) uD rfl) rfl) rfl rfl) rfl rfl rfl)
  (aD (cg (iR (eV (aY CIsStep (hr.mono δ) vU M7 (aj (ao sE) (aj (ao sy) (aj (ao su) aA rfl) rfl) rfl) rfl rfl) (fun _=>rfl))) (aL (aU fP)) bF)
  (aL (uy (Fw (ao oh) (aY CPlansIn (hr.mono δ) uq Ji (aj (ao sE) (aj (ao sy) (aj (ao su) aA rfl) rfl) rfl) rfl rfl) rfl rfl rfl rfl rfl) rfl)))))
  (aL (aU fP)))),?_⟩
 refine aQ fun k hk=>?_;have ts0:=ts;cases ts with
 | lst os es zs tss=>
  rename_i sa sxs;have hsl:=tss.length;rw[length_map] at hsl;push_cast [es];refine⟨⟨ω,ω⟩,aX ω,fun la hla=>⟨aX δ,fun ta hta=>⟨aX δ,fun lw hlw=>?_⟩⟩⟩;rw[show yM 0 ((sxs.length:Int)-0).toNat=nv (List.range ss.length) by
   unfold yM nv;rw[show((sxs.length:Int)-0).toNat=ss.length by omega];refine List.map_congr_left fun k _=>?_;rw[Int.zero_add]] at hta hlw |-
  have u1:=aq (o:=HO.lst (nv (List.range ss.length))) hla;have u2:=aq (o:=HO.tup [V.ref la,p]) hta;have u3:=aq (o:=HO.lst [V.ref ta]) hlw;have f1:=(u2.trans u3) _ _ (show upd H la (HO.lst (nv (List.range ss.length))) la=_ from aB);have f2:=u3 _ _ (show upd (upd H la (HO.lst (nv (List.range ss.length)))) ta (HO.tup [V.ref la,p]) ta=_ from aB);have f3:upd (upd (upd H la (HO.lst (nv (List.range ss.length)))) ta (HO.tup [V.ref la,p])) lw (HO.lst [V.ref ta]) lw=_:=aB;have u:=(u1.trans u2).trans u3;have Hta:H ta=none:=u1.none hta;have Hlw:H lw=none:=(u1.trans u2).none hlw;have nlaw:la≠lw:=aF (u2 _ _ (show upd H la (HO.lst (nv (List.range ss.length))) la=_ from aB)) hlw;have ntaw:ta≠lw:=aF (show upd (upd H la (HO.lst (nv (List.range ss.length)))) ta (HO.tup [V.ref la,p]) ta=_ from aB) hlw;generalize upd (upd (upd H la (HO.lst (nv (List.range ss.length)))) ta (HO.tup [V.ref la,p])) lw (HO.lst [V.ref ta])=H1 at u3 f1 f2 f3 u |-;obtain⟨OD,hOD⟩:∃OD:Addr->Prop,OD=fun x=>ok x/\x≠lw:=⟨_,rfl⟩;have up:∀a o,ok a->H a=some o->OD a/\H1 a=some o:=fun a o h e=>by
   rw[hOD];exact⟨⟨h,aF e Hlw⟩,u _ _ e⟩
  have tsO:aG OD H1 (.ref sa) (.list (ss.map stD)):=ts0.keep up;have tpO:aG OD H1 p (pgD pl):=tp.keep up;have okla:OD la:=by rw[hOD];exact⟨hn.new hla,nlaw⟩
  have okta:OD ta:=by rw[hOD];exact⟨hn.new Hta,ntaw⟩
  have tw:aH OD H1 [V.ref ta] ([(List.range ss.length,pl)].map gwD):=.cons (.tup okta f2 (by show 2<=1000000;decide) (.cons (b7 okla f1 (by rw[length_range];omega)) (.cons tpO .nil))) .nil;subst hk;refine aQ fun k hk=>?_;obtain⟨Pv,hPv⟩:∃Pv:Nat->L2.St->Hp->Prop,Pv=fun m σ H'=>∃(W:List (List Nat×Pg)) (xs:List V) (o4 o5:Option V),m=gZ W/\Same H H'/\H' lw=some (.lst xs)/\aH OD H' xs (W.map gwD)/\(∀x∈W,Lf ss x.1/\WfG x.2) /\
   okG ss pl (List.range ss.length)=(W.all fun x=>okG ss x.2 x.1)/\gZ W<=4000/\aG OD H' (.ref sa) (.list (ss.map stD))/\σ=[some (.ref sa),some p,some (.ref lw),o4,o5]:=⟨_,rfl⟩
  refine⟨Pv,⟨gZ [(List.range ss.length,pl)],?_⟩,?_⟩
  ·rw[hPv];refine⟨[(List.range ss.length,pl)],_,_,_,rfl,u,f3,tw,?_,?_,?_,tsO,rfl⟩
   ·intro x hx;rw[mem_singleton.mp hx];exact⟨Uh h0,wf⟩
   ·simp
   simp [gZ];exact hsz
  intro m σ H2 pv;rw[hPv] at pv;obtain⟨W,xs,o4,o5,rfl,s2,elw,tW,okW,hall,hlen,tsO2,rfl⟩:=pv;have hxl:=tW.length;rw[length_map] at hxl;push_cast [elw];cases hx:xs.isEmpty with
  | true=>
   have hW:W=[]:=List.length_eq_zero_iff.mp (by rw[List.isEmpty_iff_length_eq_zero] at hx;omega);subst hW;push_cast;subst hk;push_cast;rw[hall] at q;exact q _ s2
  | false=>
   have hWp:0<W.length:=by
    rw[<- hxl];cases xs with
    | nil=>cases hx
    | cons a b=>simp
   obtain⟨W0,⟨left,p1⟩,rfl⟩:=sJ W hWp;push_cast;refine⟨fun σ' H'=>∃m',m'<gZ (W0++[(left,p1)])/\Pv m' σ' H',fun σ' H' h=>h,?_⟩;rw[map_append] at tW;obtain⟨tW0,y,hy,ty⟩:=aH.dropLast tW;refine⟨y,hy,?_⟩;obtain⟨lf1,wf1⟩:=okW (left,p1) (by simp);have kk:∀(H':Hp)(o':HO) a o,OD a->H' a=some o->OD a/\upd H' lw o' a=some o:=fun H' o' a o h e=>by
    refine⟨h,?_⟩;rw[hOD] at h;rw[aO h.2];exact e
   have s3:Same H (upd H2 lw (HO.lst xs.dropLast)):=jz s2 Hlw;have ty3:=ty.keep (kk H2 (HO.lst xs.dropLast));have tW3:=tW0.keep (kk H2 (HO.lst xs.dropLast));have tsO3:=tsO2.keep (kk H2 (HO.lst xs.dropLast));have elw3:upd H2 lw (HO.lst xs.dropLast) lw=_:=aB;generalize upd H2 lw (HO.lst xs.dropLast)=H3 at s3 ty3 tW3 tsO3 elw3 |-;cases ty3 with
   | tup oy ey zy tty=>
    cases tty with
    | cons tl tty=>
     cases tty with
     | cons tpl tty=>
      cases tty;rename_i ya xl xp;push_cast [ey,uN,zQ];refine⟨_,_,_,OD,ss,left,p1,rfl,tsO3,tl,tpl,wf1,lf1,fun H4 s4=>?_⟩;cases hst:dW ss left p1 with
      | false=>
       push_cast;have hf:okG ss pl (List.range ss.length)=false:=by
        rw[hall,all_append];simp only[all_cons,all_nil,Bool.and_true];rw[Bk,hst,Bool.false_and,Bool.and_false]
       rw[hf] at q;exact q _ (s3.trans s4)
      | true=>
       have elw4:=s4 _ _ elw3;have tW4:=tW3.same s4;have hn4:cY OD H4:=Vx hn hOD (s3.trans s4) elw4;push_cast [elw4,uH];refine⟨_,_,_,OD,ss,left,p1,rfl,hn4,tsO3.same s4,tl.same s4,tpl.same s4,hst,lf1,fun v H6 s6 t6=>?_⟩;cases t6 with
       | lst or er zr tr=>
        rename_i r zs;have elw6:=s6 _ _ elw4;push_cast [vW,elw6,er,Ej];have hzl:=tr.length;rw[length_map] at hzl;have hk2:(fZ ss p1 left).length<=2:=by cases p1 <;> simp [fZ]
        have hW0:=tW4.length;rw[length_map] at hW0;have hWs:W0.length<=gZ W0:=Mp W0;rw[oF] at hlen;refine⟨aX ω,gZ (W0++fZ ss p1 left),?_,?_⟩
        ·rw[oF,oF];have:=xR ss p1 left;simp only[gZ,map_cons,map_nil,sum_cons,List.sum_nil] at this |-;omega
        rw[hPv];refine⟨W0++fZ ss p1 left,_,_,_,rfl,jz ((s3.trans s4).trans s6) Hlw,aB,?_,?_,?_,?_,((tsO3.same s4).same s6).keep (kk H6 _),rfl⟩
        ·rw[map_append];exact((tW4.same s6).keep (kk H6 _)).append (tr.keep (kk H6 _))
        ·intro x hx;rcases mem_append.mp hx with z|z
         ·exact okW x (List.mem_append_left _ z)
         exact⟨jQ lf1 hst x z,wf1.kids x z⟩
        ·rw[hall,all_append,all_append];simp only[all_cons,all_nil,Bool.and_true];rw[Bk ss p1 left,hst,Bool.true_and]
        rw[oF];have:=xR ss p1 left;have h4:gZ [(left,p1)]=iy p1:=by simp [gZ]
        omega
end
noncomputable abbrev dY:List Str:=["_law_stretches_here","_law_left","_law_thing","_law_word","_law_labels","_law_one","_law_ahead","_law_behind"]
noncomputable abbrev bL:Stmt:=top 19
theorem nR:bW dY q2_ (ak bL):=⟨rfl,rfl,rfl,ψ,rfl,ψ,ψ⟩
theorem fY:NM_ dY bL 0 "_law_stretches_here" := .of ψ
theorem dZ:NM_ dY bL 1 "_law_left" := .of ψ
theorem cu:NM_ dY bL 2 "_law_thing" := .of ψ
theorem iU:NM_ dY bL 3 "_law_word" := .of ψ
theorem lQ:NM_ dY bL 4 "_law_labels" := .of ψ
theorem gP:NM_ dY bL 5 "_law_one" := .of ψ
theorem Dv:NM_ dY bL 6 "_law_ahead" := .of ψ
theorem Du:NM_ dY bL 7 "_law_behind" := .of ψ
theorem gA:GI_ bL "_law_is_plan" := by decide +kernel
theorem nu:GI_ bL "_law_span" := by decide +kernel
theorem wM:GI_ bL "bool" := by decide +kernel
theorem zH:GI_ bL "int" := by decide +kernel
theorem eN:GI_ bL "isinstance" := by decide +kernel
theorem dX:GI_ bL "len" := by decide +kernel
theorem zG:GI_ bL "str" := by decide +kernel
theorem vM:GI_ bL "tuple" := by decide +kernel
theorem jE:Bn "_law_is_plan" := ⟨ψ,ψ⟩
noncomputable def V2:Pg->List PyData
 | .pick l=>[.int l]
 | .one k r=>[.int (k:Int),pgD r]
 | .wit k r=>[.int (k:Int),pgD r]
 | .low k a b=>[.int (k:Int),pgD a,pgD b]
 | .msk l r=>[.int l,pgD r]
 | .tab=>[]
 | .odd _=>[]
noncomputable def vC:Pg->Str
 | .pick _ => "pick"
 | .one _ _ => "is"
 | .wit _ _ => "within"
 | .low _ _ _ => "below"
 | .msk _ _ => "mask"
 | .tab => "table"
 | .odd _ => ""
theorem O8 {ok:Addr->Prop}{H:Hp}{x:V}{p:Pg}(t:aG ok H x (pgD p))(hno:∀d,p≠.odd d):∃pa rest,x=.ref pa/\ok pa/\H pa=some (.tup (V.str (vC p)::rest))/\aH ok H rest (V2 p):=by
 cases p with
 | odd d=>exact absurd rfl (hno d)
 | pick l=>cases t with|tup o e z tt=>cases tt with|cons t1 tt=>cases t1;exact⟨_,_,rfl,o,e,tt⟩
 | one k r=>cases t with|tup o e z tt=>cases tt with|cons t1 tt=>cases t1;exact⟨_,_,rfl,o,e,tt⟩
 | wit k r=>cases t with|tup o e z tt=>cases tt with|cons t1 tt=>cases t1;exact⟨_,_,rfl,o,e,tt⟩
 | low k a b=>cases t with|tup o e z tt=>cases tt with|cons t1 tt=>cases t1;exact⟨_,_,rfl,o,e,tt⟩
 | msk l r=>cases t with|tup o e z tt=>cases tt with|cons t1 tt=>cases t1;exact⟨_,_,rfl,o,e,tt⟩
 | tab=>cases t with|tup o e z tt=>cases tt with|cons t1 tt=>cases t1;exact⟨_,_,rfl,o,e,tt⟩
section
variable {P:Program}{w:World}{K:PySem.W.Frag}{mg:Str->Option Value}{base:Heap}{f:Addr}{fd:FuncData}{bs:List Str}
theorem DG:dM P w K mg base CX0 2 f fd q2_ (jd 0):=by
 have no:∀vs H Q E,¬jd 0 vs H Q E:=fun vs H Q E h=>by
  obtain⟨_,_,_,_,_,_,_,_,_,_,_,_,_,_,h1,_⟩:=h;omega
 exact⟨fun vs H Q E h=>absurd h (no vs H Q E),fun A outer s H args us vs Q E _ _ _ _ h=>absurd h (no vs H Q E)⟩
theorem K6 {n:Nat}(hB:∀x:Str,x∈BLs->mg x=none) (CZSpan:Cal P w K mg base "_law_span" 1 q9_ mK) (CZIsPlan:Cal P w K mg base "_law_is_plan" (n+2) q2_ (jd n)) (F:Fun K "_law_is_plan" "_law_is_plan" bL f fd):dM P w K mg base CX0 (n+3) f fd q2_ (jd (n+1)):=by
 refine F.okq nR (fun vs H Q E h=>?_) (fun cdv A outer s H vs Q E hr h=>?_)
 ·obtain⟨s,l,p,ok,ss,left,pl,rfl,_⟩:=h;rfl
 obtain⟨s,l,p,ok,ss,left,pl,rfl,hn,ts,tl,tp,wf,lf,hdep,q⟩:=h;refine⟨_,(aD (cg (mR (jH (iR (eV (bO cJ eN (hB "isinstance" bh) boot_isinstance bw (aj (ao cu) (aj (gW "tuple" vM (hB "tuple" gM) boot_tuple gO) aA rfl) rfl) rfl rfl) (fun _=>rfl))) (jH (aW (TV hr.aZ) (ao cu) (cN aA) (aM _)) (jG (iR (eV (bO cJ eN (hB "isinstance" bh) boot_isinstance bw (aj (aN bA (ao cu) au (fun _ _=>rfl)) (aj (gW "str" zG (hB "str" zf) boot_str zW) aA rfl) rfl) rfl rfl) (fun _=>rfl))))))) (aL (aU fP)) bF)
  (aD (Kl (i:=3) (j:=4) rfl nR.nd rfl rfl δ rfl rfl (aj (aN bA (ao cu) au (fun _ _=>rfl)) (aj (iw (NX:=dY) (kX:=(ak bL).names) ["_law_k","_law_stretches_here"] [none,some 0] rfl rfl ⟨rfl,ψ,ψ,ψ,ψ⟩ rfl (eG (ao dZ)) (fun _ _ _ _ _=>(eZ 0 (show List.Nodup (["_law_k","_law_stretches_here"]:List Str) from by decide +kernel) rfl (Or.inl rfl))) (fun _ _ _ _ _=>yP) (fun _ _ _ _ _=>(aN bA (aN bA (bT 1) (bT 0) (fun _ _=>rfl)) au (fun _ _=>rfl)))) aA rfl) rfl) (by rfl))
  (aD (cg (aW (bY hr.aZ) (ao iU) bM (aM _)) (aL (aU (mW (fU (bY hr.aZ) (bO bx dX (hB "len" cR) PySem.boot_len cT (aj (ao cu) aA rfl) rfl rfl) au (aM _)) (mV (fU Bh (aY CZSpan (hr.mono ω) nu uJ (aj (ao fY) (aj (ao dZ) aA rfl) rfl) rfl rfl) au (aM _)))))) bF)
  (aD (cg (mR (jH (aW jK (bO bx dX (hB "len" cR) PySem.boot_len cT (aj (ao cu) aA rfl) rfl rfl) au (aM _)) (jH (iR (eV (bO cJ eN (hB "isinstance" bh) boot_isinstance bw (aj (aN bA (ao cu) au (fun _ _=>rfl)) (aj (gW "int" zH (hB "int" sI) boot_int sZ) aA rfl) rfl) rfl rfl) (fun _=>rfl))) (jG (eV (bO cJ eN (hB "isinstance" bh) boot_isinstance bw (aj (aN bA (ao cu) au (fun _ _=>rfl)) (aj (gW "bool" wM (hB "bool" qI) boot_bool qZ) aA rfl) rfl) rfl rfl) (fun _=>rfl)))))) (aL (aU fP)) bF)
  (aD (bR gP nR.nd (aN bA (ao cu) au (fun _ _=>rfl)) rfl (.inl rfl))
  (aD (cg (aW (bY hr.aZ) (ao iU) bM (aM _)) (aL (aU (mW (fU (bY hr.aZ) (bO bx dX (hB "len" cR) PySem.boot_len cT (aj (ao cu) aA rfl) rfl rfl) au (aM _)) (mV (fU (bY hr.aZ) (uF K hr.un1 (ao lQ) (ao gP)) (bO bx dX (hB "len" cR) PySem.boot_len cT (aj (ao lQ) aA rfl) rfl rfl) (aM _)))))) bF)
  (aD (cg (aW (bY hr.aZ) (ao iU) bM (aM _)) (aD (cg (mR (jH (aW (iz hr.aZ) (bO bx dX (hB "len" cR) PySem.boot_len cT (aj (ao cu) aA rfl) rfl rfl) au (aM _)) (jG (aW nW (ao gP) (cj rK (ao dZ) (cH au) cV) (by with_unfolding_all rfl))))) (aL (aU fP)) bF)
  (aD (Kl (i:=6) (j:=7) rfl nR.nd rfl rfl δ rfl rfl (aj (iw (NX:=dY) (kX:=(ak bL).names) ["_law_k","_law_one"] [none,some 5] rfl rfl ⟨rfl,ψ,ψ,ψ,ψ⟩ rfl (eG (ao dZ)) (fun _ _ _ _ _=>(eZ 0 (show List.Nodup (["_law_k","_law_one"]:List Str) from by decide +kernel) rfl (Or.inl rfl))) (fun _ _ _ _ _=>(jJ (aW jK (bT 0) (bT 1) (aM _)))) (fun _ _ _ _ _=>(bT 0))) (aj (iw (NX:=dY) (kX:=(ak bL).names) ["_law_k","_law_one"] [none,some 5] rfl rfl ⟨rfl,ψ,ψ,ψ,ψ⟩ rfl (eG (ao dZ)) (fun _ _ _ _ _=>(eZ 0 (show List.Nodup (["_law_k","_law_one"]:List Str) from by decide +kernel) rfl (Or.inl rfl))) (fun _ _ _ _ _=>(jJ (aW KZ (bT 0) (bT 1) (aM _)))) (fun _ _ _ _ _=>(bT 0))) aA rfl) rfl) (by rfl))
  (aL (aU (mW (aY CZIsPlan (hr.mono ω) gA jE (aj (ao fY) (aj (ao Dv) (aj (aN bA (ao cu) au (fun _ _=>rfl)) aA rfl) rfl) rfl) rfl rfl) (mV (aY CZIsPlan (hr.mono ω) gA jE (aj (ao fY) (aj (ao Du) (aj (aN bA (ao cu) au (fun _ _=>rfl)) aA rfl) rfl) rfl) rfl rfl))))))) bF)
  (aD (cg (aW (iz hr.aZ) (bO bx dX (hB "len" cR) PySem.boot_len cT (aj (ao cu) aA rfl) rfl rfl) au (aM _)) (aL (aU fP)) bF)
  (aD (cg (aW (bY hr.aZ) (ao iU) bM (aM _)) (aD (cg (mR (jH (iR (Kg jK jK au (uF K hr.un1 (ao lQ) (ao gP)) (bO bx dX (hB "len" cR) PySem.boot_len cT (aj (ao lQ) aA rfl) rfl rfl))) (jG (aW KY (aY CZSpan (hr.mono ω) nu uJ (aj (ao fY) (aj (ao dZ) aA rfl) rfl) rfl rfl) au (aM _))))) (aL (aU fP)) bF)
  (aL (aU (aY CZIsPlan (hr.mono ω) gA jE (aj (ao fY) (aj (iw (NX:=dY) (kX:=(ak bL).names) ["_law_k","_law_one","_law_stretches_here"] [none,some 5,some 0] rfl rfl ⟨rfl,ψ,ψ,ψ,ψ⟩ rfl (eG (ao dZ)) (fun _ _ _ _ _=>(eZ 0 (show List.Nodup (["_law_k","_law_one","_law_stretches_here"]:List Str) from by decide +kernel) rfl (Or.inl rfl))) (fun _ _ _ _ _=>(jJ (aW (iz hr.aZ) (aN bA (aN bA (bT 2) (bT 0) (fun _ _=>rfl)) au (fun _ _=>rfl)) (bT 1) (aM _)))) (fun _ _ _ _ _=>(bT 0))) (aj (aN bA (ao cu) au (fun _ _=>rfl)) aA rfl) rfl) rfl) rfl rfl)))) bF)
  (aD (cg (mR (jH (aW nW (ao iU) (cN (aj bM (aj bM aA rfl) rfl)) (by with_unfolding_all rfl)) (jH (aW nW (ao gP) (ao dZ) (by with_unfolding_all rfl)) (jG (aW (bY hr.aZ) (bO bx dX (hB "len" cR) PySem.boot_len cT (aj (ao dZ) aA rfl) rfl rfl) au (aM _)))))) (aL (aU fP)) bF)
  (aD (cg (mR (pD (aW (bY hr.aZ) (ao iU) bM (aM _)) (nT (aW (iz hr.aZ) (aN bA (aN bA (ao fY) (ao gP) (fun _ _=>rfl)) au (fun _ _=>rfl)) (aN bA (aN bA (ao fY) (ao gP) (fun _ _=>rfl)) au (fun _ _=>rfl)) (aM _))))) (aL (aU fP)) bF)
  (aL (aU (aY CZIsPlan (hr.mono ω) gA jE (aj (ao fY) (aj (iw (NX:=dY) (kX:=(ak bL).names) ["_law_k","_law_one"] [none,some 5] rfl rfl ⟨rfl,ψ,ψ,ψ,ψ⟩ rfl (eG (ao dZ)) (fun _ _ _ _ _=>(eZ 0 (show List.Nodup (["_law_k","_law_one"]:List Str) from by decide +kernel) rfl (Or.inl rfl))) (fun _ _ _ _ _=>(jJ (aW (iz hr.aZ) (bT 0) (bT 1) (aM _)))) (fun _ _ _ _ _=>(bT 0))) (aj (aN bA (ao cu) au (fun _ _=>rfl)) aA rfl) rfl) rfl) rfl rfl)))))))))))))),?_⟩
 obtain⟨la,rfl,okl,el,ll⟩:=tl.left;replace el:H la=some (.lst (nv left)):=el;have ts0:=ts;cases ts with
 | lst os es zs tss=>
  rename_i sa sxs;by_cases hodd:∃d,pl=.odd d
  ·obtain⟨d,rfl⟩:=hodd;have qf:∀H',Same H H'->Q (.bl false) H':=q;replace wf:Np d:=wf;replace tp:aG ok H p d:=tp;clear q hdep;refine aQ fun k hk=>?_;refine dI fun kt ke hkt hke=>?_;have kf:∀H',Same H H'->kt [some (.ref sa),some (.ref la),some p,none,none,none,none,none] H':=fun H' sH=>by
    subst hkt;push_cast;exact qf _ sH
   cases tp with
   | non=>push_cast;exact kf _ (Same.refl _)
   | bl b=>push_cast;exact kf _ (Same.refl _)
   | int i=>push_cast;exact kf _ (Same.refl _)
   | str x=>push_cast;exact kf _ (Same.refl _)
   | lst o e z t=>push_cast [e];exact kf _ (Same.refl _)
   | tup o e z tt=>
    push_cast [e];refine⟨zero_le _,fun t0 ht0=>?_⟩;have s0:=aq (o:=HO.tup []) ht0;refine⟨_,t0,_,rfl,rfl,s0 _ _ e,aB,_,rfl,?_⟩;generalize upd H t0 (HO.tup [])=H0 at s0 |-;cases tt with
    | nil=>
     rw[if_pos (show([]:List V).isEmpty=true from rfl)];exact kf _ s0
    | cons t1 tt=>
     rename_i pa x0 d0 xs ds;rw[if_neg (by simp)];have e0:=s0 _ _ e;cases t1 with
     | non=>push_cast [e0];exact kf _ s0
     | bl b=>push_cast [e0];exact kf _ s0
     | int i=>push_cast [e0];exact kf _ s0
     | lst o1 e1 z1 t1=>have e1:=s0 _ _ e1;push_cast [e0,e1];exact kf _ s0
     | tup o1 e1 z1 t1=>have e1:=s0 _ _ e1;push_cast [e0,e1];exact kf _ s0
     | str wd=>
      push_cast [e0];clear kf hkt;subst hke;push_cast;subst hk;refine aQ fun k hk=>?_;push_cast [e0];refine fB fun R hR=>?_;have el0:=s0 _ _ el;have es0:=s0 _ _ es;push_cast [el0];refine oH (lbl ss) (fun τ=>∃o0,τ=[o0,some (.ref sa)]) hR el0 ll ⟨_,rfl⟩ ?_ ?_
      ·rintro i k τ acc Pn hk ⟨o0,rfl⟩ hN;obtain⟨p1,x1,y1⟩:=(tss.same s0).stN (lf.lt _ (mem_of_getElem? hk));push_cast [es0,x1,y1];exact hN _ ⟨_,rfl⟩
      intro lb hlb;have s1:=s0.trans (aq (o:=HO.lst ((left.map (lbl ss)).map V.int)) hlb);generalize upd H0 lb (HO.lst ((left.map (lbl ss)).map V.int))=H1 at s1 |-;have e1:=s1 _ _ e;have el1:=s1 _ _ el;have tt1:=tt.same s1;have hlen:=tt1.length;have qf1:=qf _ s1;subst hk;refine aQ fun k hk=>?_;refine dI fun kt ke hkt hke=>?_;push_cast;by_cases h1:wd = "table"
      ·subst h1;rw[if_pos rfl];subst hkt;push_cast [e1];rw[if_neg (show ¬((xs.length+1:Nat):Int)=1 from fun z=>?_)]
       ·exact qf1
       have z2:ds=[]:=List.length_eq_zero_iff.mp ω;subst z2;exact wf.tab rfl
      rw[if_neg h1];subst hke;push_cast;subst hk;refine aQ fun k hk=>?_;refine dI fun kt ke hkt hke=>?_;push_cast [e1];have kf:kt [some (.ref sa),some (.ref la),some (.ref pa),some (.str wd),some (.ref lb),none,none,none] H1:=by
       subst hkt;push_cast;exact qf1
      cases tt1 with
      | nil=>
       rw[if_pos (show(((([]:List V).length+1:Nat):Int)<2) by decide)];exact kf
      | cons t2 tt2=>
       rename_i x1 d1 xs ds;replace hlen:=tt2.length;rw[if_neg (show ¬(((x1::xs).length+1:Nat):Int)<2 by rw[length_cons];omega)];have a1:atI (V.str wd::x1::xs) 1=some x1:=GD _ _ _;cases t2 with
       | non=>push_cast [e1,a1];exact kf
       | bl b=>push_cast [e1,a1];exact kf
       | str wd2=>push_cast [e1,a1];exact kf
       | lst o2 e2 z2 t2=>push_cast [e1,a1,e2];exact kf
       | tup o2 e2 z2 t2=>push_cast [e1,a1,e2];exact kf
       | int i=>
        push_cast [e1,a1];clear kf hkt;subst hke;push_cast;subst hk;refine aQ fun k hk=>?_;push_cast [e1,a1];subst hk;refine aQ fun k hk=>?_;refine dI fun kt ke hkt hke=>?_;push_cast;by_cases h2:wd = "pick"
        ·subst h2;rw[if_pos rfl];subst hkt;push_cast [e1];rw[if_neg (show ¬((xs.length+1+1:Nat):Int)=2 from fun z=>?_)]
         ·exact qf1
         have z2:ds=[]:=List.length_eq_zero_iff.mp ω;subst z2;exact wf.pick _ rfl
        rw[if_neg h2];subst hke;push_cast;subst hk;push_cast [e1];by_cases h3:wd = "below"
        ·subst h3;rw[if_pos rfl];by_cases c4:((xs.length+1+1:Nat):Int)=4
         ·rw[decide_eq_true c4,if_neg δ];push_cast [el1];intro p1 hp1;rw[zR];refine⟨rfl,jZ _,?_⟩;have hi:i<0:=by
           rcases lt_or_le i 0 with z|z
           ·exact z
           obtain⟨k,rfl⟩:=eq_ofNat_of_zero_le z
           match ds,hlen with
           | [],h=>exact absurd h (by simp only[length_nil];omega)
           | [_],h=>exact absurd h (by simp only[length_cons,length_nil];omega)
           | [a,b],_=>exact absurd rfl (wf.low k a b)
           | _::_::_::_,h=>exact absurd h (by simp only[length_cons];omega)
          rw[oA hi];push_cast;exact qf _ (s1.trans (aq hp1))
         rw[decide_eq_false c4,if_pos δ];exact qf1
        rw[if_neg h3];by_cases c3:((xs.length+1+1:Nat):Int)=3
        ·rw[decide_eq_true c3,if_neg δ];obtain⟨d2,rfl⟩:∃d2,ds=[d2]:=by
          match ds,hlen with
          | [],h=>exact absurd h (by simp only[length_nil];omega)
          | [x],_=>exact⟨x,rfl⟩
          | _::_::_,h=>exact absurd h (by simp only[length_cons];omega)
         by_cases h4:wd = "mask"
         ·subst h4;exact absurd rfl (wf.msk i d2)
         rw[if_neg h4];refine⟨aX δ,fun p1 hp1=>⟨rfl,rfl,?_⟩⟩;have u2:=aq (o:=HO.tup [V.str "is",V.str "within"]) hp1;have s2:=s1.trans u2;have el2:=u2 _ _ el1;generalize upd H1 p1 (HO.tup [V.str "is",V.str "within"])=H2 at s2 el2 |-;cases h5:inV (V.str wd) [V.str "is",V.str "within"] with
         | false=>
          rw[if_pos δ];exact qf _ s2
         | true=>
          rw[if_neg δ];push_cast [el2];refine⟨rfl,jZ _,?_⟩;have hi:i<0:=by
           rcases lt_or_le i 0 with z|z
           ·exact z
           obtain⟨k,rfl⟩:=eq_ofNat_of_zero_le z;unfold inV at h5;rw[any_cons,any_cons,List.any_nil,Bool.or_false] at h5;rcases(Bool.or_eq_true _ _).mp h5 with h|h
           ·obtain rfl:("is" : Str)=wd:=of_decide_eq_true h;exact absurd rfl (wf.one k d2)
           obtain rfl:("within" : Str)=wd:=of_decide_eq_true h;exact absurd rfl (wf.wit k d2)
          rw[oA hi];push_cast;exact qf _ s2
        rw[decide_eq_false c3,if_pos δ];exact qf1
  have hno:∀d,pl≠.odd d:=fun d z=>hodd ⟨d,z⟩;obtain⟨pa,rest,rfl,opa,epa,trest⟩:=O8 tp hno;refine aQ fun k hk=>?_;push_cast [epa];refine⟨zero_le _,fun t0 ht0=>?_⟩;have s0:=aq (o:=HO.tup []) ht0;refine⟨pa,t0,_,rfl,rfl,s0 _ _ epa,aB,_,rfl,?_⟩;generalize upd H t0 (HO.tup [])=H0 at s0 |-;have epa0:=s0 _ _ epa;have el0:=s0 _ _ el;have es0:=s0 _ _ es;rw[if_neg (by simp)];push_cast [epa0];subst hk;refine aQ fun k hk=>?_;push_cast [epa0];refine fB fun R hR=>?_;push_cast [el0];refine oH (lbl ss) (fun τ=>∃o0,τ=[o0,some (.ref sa)]) hR el0 ll ⟨_,rfl⟩ ?_ ?_
  ·rintro i k τ acc Pn hk ⟨o0,rfl⟩ hN;obtain⟨p1,x1,y1⟩:=(tss.same s0).stN (lf.lt _ (mem_of_getElem? hk));push_cast [es0,x1,y1];exact hN _ ⟨_,rfl⟩
  intro lb hlb;have s1:=s0.trans (aq (o:=HO.lst ((left.map (lbl ss)).map V.int)) hlb);have elb:upd H0 lb (HO.lst ((left.map (lbl ss)).map V.int)) lb=_:=aB;generalize upd H0 lb (HO.lst ((left.map (lbl ss)).map V.int))=H1 at s1 elb |-;have epa1:=s1 _ _ epa;have el1:=s1 _ _ el;have es1:=s1 _ _ es;have hn1:=hn.same s1;have ts1:=ts0.same s1;have tl1:=tl.same s1;have tr1:=trest.same s1;have tss1:=tss.same s1;subst hk;have stp:∀(Hx:Hp),Same H Hx->∀b:Bool,okG ss pl left=b->Q (.bl b) Hx:=fun Hx sx b e=>e ▸ q _ sx;cases pl with
  | odd d=>exact absurd rfl (hno d)
  | tab=>
   cases tr1;replace epa1:H1 pa=some (.tup [V.str "table"]):=epa1;push_cast [epa1];rw[show vC Pg.tab = "table" from rfl,if_pos rfl,if_pos δ];exact⟨_,_,ok,ss,left,rfl,ts1,tl1,lf,_,rfl,q _ s1⟩
  | pick l=>
   cases tr1 with
   | cons t2 tt=>
    cases t2;cases tt;replace epa1:H1 pa=some (.tup [V.str "pick",V.int l]):=epa1;push_cast [epa1,elb];rw[show vC (Pg.pick l) = "pick" from rfl,if_neg (show ¬("pick" : Str) = "table" by decide +kernel),if_neg δ,if_pos rfl,if_pos δ];push_cast [Ew,elb];refine⟨⟨_,SqL.of elb⟩,_,SqL.of elb,_,.inl ⟨_,_,rfl,rfl,rfl⟩,?_⟩;have qq:=q _ s1;rw[length_map,length_map];rw[show decide ((((left.map (lbl ss)).count l:Nat):Int)=(left.length:Int))=decide (gj ss left l=left.length) from decide_eq_decide.mpr Int.ofNat_inj];exact qq
  | low k a b=>
   cases tr1 with
   | cons t2 tt=>
    cases t2;cases tt with
    | cons t3 tt=>
     cases tt with
     | cons t4 tt=>
      cases tt;rename_i x3 x4;replace epa1:H1 pa=some (.tup [V.str "below",V.int (k:Int),x3,x4]):=epa1;push_cast [epa1,elb,el1];rw[show vC (Pg.low k a b) = "below" from rfl,if_neg (show ¬("below" : Str) = "table" by decide +kernel),if_neg δ,if_neg (show ¬("below" : Str) = "pick" by decide +kernel),if_pos rfl,if_neg δ];intro p1 hp1;rw[zR];refine⟨rfl,jZ _,?_⟩;rw[pL];have s2:=s1.trans (aq (o:=HO.lst (nv (left.drop 1))) hp1);have u2:=aq (o:=HO.lst (nv (left.drop 1))) hp1;cases hc:(left.drop 1).contains k with
      | false=>
       rw[if_pos (show(!false)=true from rfl)];refine stp _ s2 _ ?_;show((left.drop 1).contains k&&_)=false;rw[hc,Bool.false_and]
      | true=>
       rw[if_neg δ];generalize upd H1 p1 (HO.lst (nv (left.drop 1)))=H2 at s2 u2 |-;have el2:=s2 _ _ el;have hst:dW ss left (.low k a b)=true:=hc;have hk:=jQ lf hst;have lfa:Lf ss (left.filter (· < k)):=hk (_,a) (by simp [fZ]);have lfb:Lf ss (left.filter (k<=·)):=hk (_,b) (by simp [fZ]);refine fB fun R hR=>?_;push_cast [el2];refine dB (· < k) (fun τ=>∃o0,τ=[o0,some (.int (k:Int))]) hR el2 ll ⟨_,rfl⟩ ?_ ?_
       ·rintro i k' τ acc Pn hk' ⟨o0,rfl⟩ h1 h2;push_cast;by_cases c:k'<k
        ·rw[if_pos ω];exact h1 (by simpa using c) _ ⟨_,rfl⟩
        rw[if_neg ω];exact h2 (by simpa using c) _ ⟨_,rfl⟩
       intro d1 hd1;have s3:=s2.trans (aq (o:=HO.lst (nv (left.filter (· < k)))) hd1);have u3:=u2.trans (aq (o:=HO.lst (nv (left.filter (· < k)))) hd1);have ed1:upd H2 d1 (HO.lst (nv (left.filter (· < k)))) d1=_:=aB;have od1:=hn.new (s2.none hd1);generalize upd H2 d1 (HO.lst (nv (left.filter (· < k))))=H3 at s3 u3 ed1 |-;have el3:=s3 _ _ el;refine fB fun R hR=>?_;push_cast [el3];refine dB (k<=·) (fun τ=>∃o0,τ=[o0,some (.int (k:Int))]) hR el3 ll ⟨_,rfl⟩ ?_ ?_
       ·rintro i k' τ acc Pn hk' ⟨o0,rfl⟩ h1 h2;push_cast;by_cases c:k<=k'
        ·rw[if_pos ω];exact h1 (by simpa using c) _ ⟨_,rfl⟩
        rw[if_neg ω];exact h2 (by simpa using c) _ ⟨_,rfl⟩
       intro d2 hd2;have s4:=s3.trans (aq (o:=HO.lst (nv (left.filter (k<=·)))) hd2);have u4:=u3.trans (aq (o:=HO.lst (nv (left.filter (k<=·)))) hd2);have ed2:upd H3 d2 (HO.lst (nv (left.filter (k<=·)))) d2=_:=aB;have ed14:=(aq (o:=HO.lst (nv (left.filter (k<=·)))) hd2) _ _ ed1;have od2:=hn.new (s3.none hd2);generalize upd H3 d2 (HO.lst (nv (left.filter (k<=·))))=H4 at s4 u4 ed2 ed14 |-;have epa4:=u4 _ _ epa1;push_cast [epa4];have dd:gC a<n/\gC b<n:=by have:gC (.low k a b)<n+1:=hdep;simp only[gC] at this;omega
       refine⟨_,_,_,ok,ss,_,a,rfl,hn.same s4,ts0.same s4,b7 od1 ed14 (le_trans (length_filter_le ..) ll),t3.same u4,wf.1,lfa,dd.1,fun H5 s5=>⟨_,rfl,?_⟩⟩;cases hca:okG ss a (left.filter (· < k)) with
       | false=>
        rw[if_neg δ];refine stp _ (s4.trans s5) _ ?_;show(_&&(okG ss a _&&okG ss b _))=false;rw[hca,Bool.false_and,Bool.and_false]
       | true=>
        rw[if_pos rfl];have epa5:=s5 _ _ epa4;push_cast [epa5];refine⟨_,_,_,ok,ss,_,b,rfl,hn.same (s4.trans s5),ts0.same (s4.trans s5),b7 od2 (s5 _ _ ed2) (le_trans (length_filter_le ..) ll),t4.same (u4.trans s5),wf.2,lfb,dd.2,fun H6 s6=>?_⟩;refine stp _ ((s4.trans s5).trans s6) _ ?_;show((left.drop 1).contains k&&(okG ss a _&&okG ss b _))=_;rw[hca,hc,Bool.true_and,Bool.true_and]
  | msk l r=>
   cases tr1 with
   | cons t2 tt=>
    cases t2;cases tt with
    | cons t3 tt=>
     cases tt;rename_i x3;replace epa1:H1 pa=some (.tup [V.str "mask",V.int l,x3]):=epa1;push_cast [epa1,elb,el1];rw[show vC (Pg.msk l r) = "mask" from rfl,if_neg (show ¬("mask" : Str) = "table" by decide +kernel),if_neg δ,if_neg (show ¬("mask" : Str) = "pick" by decide +kernel),if_neg (show ¬("mask" : Str) = "below" by decide +kernel),if_neg δ,if_pos rfl];push_cast [Ew,elb];refine⟨⟨_,SqL.of elb⟩,_,SqL.of elb,_,.inl ⟨_,_,rfl,rfl,rfl⟩,?_⟩;have hcnt:(((left.map (lbl ss)).count l:Nat):Int)=(gj ss left l:Nat):=rfl;rw[hcnt,length_map,length_map];have no:∀Hx,Same H Hx->dW ss left (.msk l r)=false->Q (V.bl false) Hx:=fun Hx sx hf=>stp _ sx _ (by
      show(dW ss left (.msk l r)&&_)=false;rw[hf,Bool.false_and])
     by_cases c1:0<gj ss left l
     ·rw[if_pos ω];by_cases c2:gj ss left l<left.length
      ·rw[if_neg (by rw[decide_eq_true (show((gj ss left l:Nat):Int)<(left.length:Int) by omega)];decide)];refine⟨_,_,ok,ss,left,rfl,ts1,tl1,lf,_,rfl,?_⟩;by_cases c3:iJ ss left<=64
       ·rw[if_neg ω];have hst:dW ss left (.msk l r)=true:=by
         show((decide (0<gj ss left l)&&decide (gj ss left l<left.length))&&decide (iJ ss left<=64))=true;rw[decide_eq_true c1,decide_eq_true c2,decide_eq_true c3];rfl
        have lfr:Lf ss (left.filter fun k=>(bU ss k).2.2≠l):=jQ lf hst (_,r) (by simp [fZ]);refine fB fun R hR=>?_;push_cast [el1];refine dB (fun k=>(bU ss k).2.2≠l) (fun τ=>∃o0,τ=[o0,some (.int l),some (.ref sa)]) hR el1 ll ⟨_,rfl⟩ ?_ ?_
        ·rintro i k' τ acc Pn hk' ⟨o0,rfl⟩ h1 h2;obtain⟨p1,x1,y1⟩:=tss1.stN (lf.lt _ (mem_of_getElem? hk'));push_cast [es1,x1,y1];by_cases c:(bU ss k').2.2=l
         ·rw[decide_eq_true c,if_neg δ];exact h2 (by simpa using c) _ ⟨_,rfl⟩
         rw[decide_eq_false c,if_pos (show(!false)=true from rfl)];exact h1 (by simpa using c) _ ⟨_,rfl⟩
        intro d1 hd1;have s3:=s1.trans (aq (o:=HO.lst (nv (left.filter fun k=>(bU ss k).2.2≠l))) hd1);have u3:=aq (o:=HO.lst (nv (left.filter fun k=>(bU ss k).2.2≠l))) hd1;have ed1:upd H1 d1 (HO.lst (nv (left.filter fun k=>(bU ss k).2.2≠l))) d1=_:=aB;have od1:=hn.new (s1.none hd1);generalize upd H1 d1 (HO.lst (nv (left.filter fun k=>(bU ss k).2.2≠l)))=H3 at s3 u3 ed1 |-;have epa3:=u3 _ _ epa1;push_cast [epa3];refine⟨_,_,_,ok,ss,_,r,rfl,hn.same s3,ts0.same s3,b7 od1 ed1 (le_trans (length_filter_le ..) ll),t3.same u3,(show WfG r from wf),lfr,by have:gC (.msk l r)<n+1:=hdep;simp only[gC] at this;omega,fun H5 s5=>?_⟩;refine stp _ (s3.trans s5) _ ?_;show(dW ss left (.msk l r)&&okG ss r _)=_;rw[hst,Bool.true_and]
       rw[if_pos ω];refine no _ s1 ?_;show((decide (0<gj ss left l)&&decide (gj ss left l<left.length))&&decide (iJ ss left<=64))=false;rw[decide_eq_false c3,Bool.and_false]
      rw[if_pos (by rw[decide_eq_false (show ¬((gj ss left l:Nat):Int)<(left.length:Int) by omega)];rfl)];refine no _ s1 ?_;show((decide (0<gj ss left l)&&decide (gj ss left l<left.length))&&decide (iJ ss left<=64))=false;rw[decide_eq_false c2,Bool.and_false,Bool.false_and]
     rw[if_neg ω];refine no _ s1 ?_;show((decide (0<gj ss left l)&&decide (gj ss left l<left.length))&&decide (iJ ss left<=64))=false;rw[decide_eq_false c1,Bool.false_and,Bool.false_and]
  | one k r=>
   cases tr1 with
   | cons t2 tt=>
    cases t2;cases tt with
    | cons t3 tt=>
     cases tt;rename_i x3;replace epa1:H1 pa=some (.tup [V.str "is",V.int (k:Int),x3]):=epa1;push_cast [epa1,elb,el1];rw[show vC (Pg.one k r) = "is" from rfl,if_neg (show ¬("is" : Str) = "table" by decide +kernel),if_neg δ,if_neg (show ¬("is" : Str) = "pick" by decide +kernel),if_neg (show ¬("is" : Str) = "below" by decide +kernel),if_neg δ,if_neg (show ¬("is" : Str) = "mask" by decide +kernel)];refine⟨aX δ,fun p1 hp1=>⟨rfl,rfl,?_⟩⟩;rw[show inV (V.str "is") [V.str "is",V.str "within"]=true by decide +kernel,if_neg δ];have s2:=s1.trans (aq (o:=HO.tup [V.str "is",V.str "within"]) hp1);have u2:=aq (o:=HO.tup [V.str "is",V.str "within"]) hp1;generalize upd H1 p1 (HO.tup [V.str "is",V.str "within"])=H2 at s2 u2 |-;have el2:=s2 _ _ el;have es2:=s2 _ _ es;push_cast [el2];refine⟨rfl,jZ _,?_⟩;rw[pL,fO];have no:∀Hx,Same H Hx->dW ss left (.one k r)=false->Q (V.bl false) Hx:=fun Hx sx hf=>stp _ sx _ (by
      show(dW ss left (.one k r)&&_)=false;rw[hf,Bool.false_and])
     have fin:dW ss left (.one k r)=true->∀(σ':L2.St),True:=fun _ _=>trivial;cases hc:left.contains k with
     | false=>
      rw[if_pos (show(!false)=true from rfl)];refine no _ s2 ?_;show((left.contains k&&decide (left.length≠1))&&decide ((bU ss k).1=(bU ss k).2.1))=false;rw[hc];rfl
     | true=>
      rw[if_neg δ];have hk:=contains_iff_mem.mp hc;by_cases h1:left.length=1
      ·rw[if_pos ω];refine no _ s2 ?_;show((left.contains k&&decide (left.length≠1))&&decide ((bU ss k).1=(bU ss k).2.1))=false;rw[decide_eq_false (show ¬left.length≠1 from fun z=>z h1),Bool.and_false];rfl
      rw[if_neg ω];obtain⟨p2,x1,y1⟩:=(tss.same s2).stN (lf.lt _ hk);push_cast [es2,x1,y1];by_cases ce:(bU ss k).1=(bU ss k).2.1
      ·rw[decide_eq_true ce,if_neg δ];have hst:dW ss left (.one k r)=true:=by
        show((left.contains k&&decide (left.length≠1))&&decide ((bU ss k).1=(bU ss k).2.1))=true;rw[hc,decide_eq_true h1,decide_eq_true ce];rfl
       have lfr:Lf ss (left.filter (·≠k)):=jQ lf hst (_,r) (by simp [fZ]);refine fB fun R hR=>?_;push_cast [el2];refine dB (·≠k) (fun τ=>∃o0,τ=[o0,some (.int (k:Int))]) hR el2 ll ⟨_,rfl⟩ ?_ ?_
       ·rintro i k' τ acc Pn hk' ⟨o0,rfl⟩ h1 h2;push_cast;by_cases c:k'=k
        ·subst c;rw[decide_eq_true (show((k':Nat):Int)=(k':Int) from rfl),if_neg δ];exact h2 (by simp) _ ⟨_,rfl⟩
        rw[decide_eq_false (show ¬((k':Nat):Int)=(k:Int) by omega),if_pos (show(!false)=true from rfl)];exact h1 (by simpa using c) _ ⟨_,rfl⟩
       intro d1 hd1;have s3:=s2.trans (aq (o:=HO.lst (nv (left.filter (·≠k)))) hd1);have u3:=u2.trans (aq (o:=HO.lst (nv (left.filter (·≠k)))) hd1);have ed1:upd H2 d1 (HO.lst (nv (left.filter (·≠k)))) d1=_:=aB;have od1:=hn.new (s2.none hd1);generalize upd H2 d1 (HO.lst (nv (left.filter (·≠k))))=H3 at s3 u3 ed1 |-;have epa3:=u3 _ _ epa1;push_cast [epa3];refine⟨_,_,_,ok,ss,_,r,rfl,hn.same s3,ts0.same s3,b7 od1 ed1 (le_trans (length_filter_le ..) ll),t3.same u3,(show WfG r from wf),lfr,by have:gC (.one k r)<n+1:=hdep;simp only[gC] at this;omega,fun H5 s5=>?_⟩;refine stp _ (s3.trans s5) _ ?_;show(dW ss left (.one k r)&&okG ss r _)=_;rw[hst,Bool.true_and]
      rw[decide_eq_false ce,if_pos (show(!false)=true from rfl)];refine no _ s2 ?_;show((left.contains k&&decide (left.length≠1))&&decide ((bU ss k).1=(bU ss k).2.1))=false;rw[decide_eq_false ce,Bool.and_false]
  | wit k r=>
   cases tr1 with
   | cons t2 tt=>
    cases t2;cases tt with
    | cons t3 tt=>
     cases tt;rename_i x3;replace epa1:H1 pa=some (.tup [V.str "within",V.int (k:Int),x3]):=epa1;push_cast [epa1,elb,el1];rw[show vC (Pg.wit k r) = "within" from rfl,if_neg (show ¬("within" : Str) = "table" by decide +kernel),if_neg δ,if_neg (show ¬("within" : Str) = "pick" by decide +kernel),if_neg (show ¬("within" : Str) = "below" by decide +kernel),if_neg δ,if_neg (show ¬("within" : Str) = "mask" by decide +kernel)];refine⟨aX δ,fun p1 hp1=>⟨rfl,rfl,?_⟩⟩;rw[show inV (V.str "within") [V.str "is",V.str "within"]=true by decide +kernel,if_neg δ];have s2:=s1.trans (aq (o:=HO.tup [V.str "is",V.str "within"]) hp1);have u2:=aq (o:=HO.tup [V.str "is",V.str "within"]) hp1;generalize upd H1 p1 (HO.tup [V.str "is",V.str "within"])=H2 at s2 u2 |-;have el2:=s2 _ _ el;have es2:=s2 _ _ es;push_cast [el2];refine⟨rfl,jZ _,?_⟩;rw[pL,fO];have no:∀Hx,Same H Hx->dW ss left (.wit k r)=false->Q (V.bl false) Hx:=fun Hx sx hf=>stp _ sx _ (by
      show(dW ss left (.wit k r)&&_)=false;rw[hf,Bool.false_and])
     have fin:dW ss left (.wit k r)=true->∀(σ':L2.St),True:=fun _ _=>trivial;cases hc:left.contains k with
     | false=>
      rw[if_pos (show(!false)=true from rfl)];refine no _ s2 ?_;show(left.contains k&&decide (left.length≠1))=false;rw[hc];rfl
     | true=>
      rw[if_neg δ];have hk:=contains_iff_mem.mp hc;by_cases h1:left.length=1
      ·rw[if_pos ω];refine no _ s2 ?_;show(left.contains k&&decide (left.length≠1))=false;rw[decide_eq_false (show ¬left.length≠1 from fun z=>z h1),Bool.and_false]
      rw[if_neg ω];rw[if_neg (show ¬("within" : Str) = "is" by decide +kernel)];have hst:dW ss left (.wit k r)=true:=by
       show(left.contains k&&decide (left.length≠1))=true;rw[hc,decide_eq_true h1];rfl
      have lfr:Lf ss (left.filter (·≠k)):=jQ lf hst (_,r) (by simp [fZ]);refine fB fun R hR=>?_;push_cast [el2];refine dB (·≠k) (fun τ=>∃o0,τ=[o0,some (.int (k:Int))]) hR el2 ll ⟨_,rfl⟩ ?_ ?_
      ·rintro i k' τ acc Pn hk' ⟨o0,rfl⟩ h1 h2;push_cast;by_cases c:k'=k
       ·subst c;rw[decide_eq_true (show((k':Nat):Int)=(k':Int) from rfl),if_neg δ];exact h2 (by simp) _ ⟨_,rfl⟩
       rw[decide_eq_false (show ¬((k':Nat):Int)=(k:Int) by omega),if_pos (show(!false)=true from rfl)];exact h1 (by simpa using c) _ ⟨_,rfl⟩
      intro d1 hd1;have s3:=s2.trans (aq (o:=HO.lst (nv (left.filter (·≠k)))) hd1);have u3:=u2.trans (aq (o:=HO.lst (nv (left.filter (·≠k)))) hd1);have ed1:upd H2 d1 (HO.lst (nv (left.filter (·≠k)))) d1=_:=aB;have od1:=hn.new (s2.none hd1);generalize upd H2 d1 (HO.lst (nv (left.filter (·≠k))))=H3 at s3 u3 ed1 |-;have epa3:=u3 _ _ epa1;push_cast [epa3];refine⟨_,_,_,ok,ss,_,r,rfl,hn.same s3,ts0.same s3,b7 od1 ed1 (le_trans (length_filter_le ..) ll),t3.same u3,(show WfG r from wf),lfr,by have:gC (.wit k r)<n+1:=hdep;simp only[gC] at this;omega,fun H5 s5=>?_⟩;refine stp _ (s3.trans s5) _ ?_;show(dW ss left (.wit k r)&&okG ss r _)=_;rw[hst,Bool.true_and]
end
noncomputable abbrev oK:List Str:=["_law_thing","_law_found","_law_at","_law_one"]
noncomputable abbrev eE:Stmt:=top 20
theorem ql:bW oK q16_ (ak eE):=⟨rfl,rfl,rfl,ψ,rfl,ψ,ψ⟩
theorem xH:NM_ oK eE 0 "_law_thing" := .of ψ
theorem n6:NM_ oK eE 1 "_law_found" := .of ψ
theorem xG:NM_ oK eE 2 "_law_at" := .of ψ
theorem xu:NM_ oK eE 3 "_law_one" := .of ψ
theorem vK:GI_ eE "_law_spots" := by decide +kernel
theorem qP:GI_ eE "enumerate" := by decide +kernel
theorem pP:GI_ eE "isinstance" := by decide +kernel
theorem zB:GI_ eE "list" := by decide +kernel
theorem wJ:GI_ eE "tuple" := by decide +kernel
theorem Cr:Bn "_law_spots" := ⟨ψ,ψ⟩
noncomputable def kJ (n:Nat):Sp:=fun vs H Q _=>∃v ok d,vs=[v]/\aG ok H v d/\d.depth<n/\nodes d<=20000 /\
 ∀(l:Addr)(xs:List V)(ps:List (List Nat)) H',Same H H'->H' l=some (.lst xs)->bK H' xs ps->(∀p∈ps,valid d p/\p≠[])->ps.length+1=nodes d->Q (.ref l) H'
section
variable {P:Program}{w:World}{K:PySem.W.Frag}{mg:Str->Option Value}{base:Heap}{f:Addr}{fd:FuncData}{bs:List Str}
theorem K1 {n:Nat}(hn9:n<=100) (hB:∀x:Str,x∈BLs->mg x=none) (CZSpots:Cal P w K mg base "_law_spots" n q16_ (kJ n)) (F:Fun K "_law_spots" "_law_spots" eE f fd):dM P w K mg base CX0 (n+1) f fd q16_ (kJ (n+1)):=by
 refine F.okq ql (fun vs H Q E h=>?_) (fun cdv A outer s H vs Q E hr h=>?_)
 ·obtain⟨v,ok,d,rfl,_⟩:=h;rfl
 obtain⟨v,ok,d,rfl,t,hd,hn,q⟩:=h;refine⟨_,(aD (bR n6 ql.nd (cB aA) rfl (.inl rfl))
  (aD (cg (eV (bO xW pP (hB "isinstance" bh) boot_isinstance bw (aj (ao xH) (aj (cN (aj (gW "list" zB (hB "list" jb) boot_list j6) (aj (gW "tuple" wJ (hB "tuple" gM) boot_tuple gO) aA rfl) rfl)) aA rfl) rfl) rfl rfl) (fun _=>rfl)) (aL (mU PassesOwn.never rfl (Bb qP (hB "enumerate" qH) (aj (ao xH) aA rfl) rfl) (yO (n:=2) rfl (je (jX xG ql.nd (.inl rfl)) (je (jX xu ql.nd (.inl rfl)) uD rfl) rfl) rfl rfl)
  (aD (uy (Fx (ao n6) (cN (aj (ao xG) aA rfl)) rfl rfl rfl rfl rfl) rfl)
  (aL (uy (Fw (ao n6) (iw (NX:=oK) (kX:=(ak eE).names) ["_law_spot","_law_at"] [none,some 2] rfl rfl ⟨rfl,ψ,ψ,ψ,ψ⟩ rfl (eG (aY CZSpots (hr.mono ω) vK Cr (aj (ao xu) aA rfl) rfl rfl)) (fun _ _ _ _ _=>(eZ 0 (show List.Nodup (["_law_spot","_law_at"]:List Str) from by decide +kernel) rfl (Or.inl rfl))) (fun _ _ _ _ _=>yP) (fun _ _ _ _ _=>(aR FJ (cN (aj (bT 1) aA rfl)) (bT 0)))) rfl rfl rfl rfl rfl) rfl))) (fun _=>rfl))) bF)
  (aL (aU (ao n6))))),?_⟩
 refine aQ fun k hk=>?_;push_cast;refine⟨aX δ,fun l hl=>?_⟩;have s1:=aq (o:=HO.lst []) hl;have el:upd H l (HO.lst []) l=some (HO.lst []):=aB;have Hl:=hl;generalize upd H l (HO.lst [])=H1 at s1 el |-;have p1:bK H1 [] []:=.nil;subst hk;refine aQ fun k hk=>?_;refine dI fun kt ke hkt hke=>?_;have leaf:∀H',Same H H'->H' l=some (HO.lst [])->bK H' [] []->nodes d=1->ke [some v,some (V.ref l),none,none] H':=fun H' sH e p hn1=>by
  subst hke;subst hk;push_cast;exact q l _ _ H' sH e p (fun x hx=>nomatch hx) (by rw[hn1];rfl)
 cases t with
 | non=>push_cast;exact⟨aX δ,fun t2 ht2=>leaf _ (s1.trans (aq ht2)) (aq ht2 _ _ el) (p1.same (aq ht2)) rfl⟩
 | bl b=>push_cast;exact⟨aX δ,fun t2 ht2=>leaf _ (s1.trans (aq ht2)) (aq ht2 _ _ el) (p1.same (aq ht2)) rfl⟩
 | int i=>push_cast;exact⟨aX δ,fun t2 ht2=>leaf _ (s1.trans (aq ht2)) (aq ht2 _ _ el) (p1.same (aq ht2)) rfl⟩
 | str x=>push_cast;exact⟨aX δ,fun t2 ht2=>leaf _ (s1.trans (aq ht2)) (aq ht2 _ _ el) (p1.same (aq ht2)) rfl⟩
 | lst o e z ts=>
  rename_i p xs0 ds;push_cast;refine⟨aX δ,fun t2 ht2=>?_⟩;have s2:=s1.trans (aq (o:=HO.tup [V.ty "list",V.ty "tuple"]) ht2);have e2:=s2 _ _ e;have el2:=aq (o:=HO.tup [V.ty "list",V.ty "tuple"]) ht2 _ _ el;have p2:=p1.same (aq (o:=HO.tup [V.ty "list",V.ty "tuple"]) ht2);generalize upd H1 t2 (HO.tup [V.ty "list",V.ty "tuple"])=H2 at s2 e2 el2 p2 |-;push_cast [e2];have hlen:=ts.length;have hdep:PyData.depthAll ds+1<n+1:=by rw[<- PyData.depth.eq_1];exact hd
  have hnod:1+aJ ds<=20000:=hn;subst hkt;refine qW fun R hR=>?_;push_cast [sO,zp,e2,Qz];obtain⟨Pv,hPv⟩:∃Pv:Nat->L2.St->Hp->Prop,Pv=fun(i:Nat) σ H'=>∃(ps:List (List Nat)) (xs:List V) (o2 o3:Option V),Same H H'/\aV l H2 H'/\H' l=some (HO.lst xs)/\bK H' xs ps/\(∀pp∈ps,valid (.list ds) pp/\pp≠[])/\ps.length=aJ (ds.take i)/\σ=[some (V.ref p),some (V.ref l),o2,o3]:=⟨_,rfl⟩;have pl:p≠l:=aF e Hl;refine zP hR xs0.length Pv (by rw[hPv];exact⟨[],_,_,_,s2,aV.refl _ _,el2,p2,(fun x hx=>nomatch hx),rfl,rfl⟩) ?_ ?_ ?_ ?_
  ·intro i σ H3 hi pv;rw[hPv] at pv;obtain⟨ps,xs,o2,o3,_,sx,_,_,_,_,rfl⟩:=pv;exact⟨_,_,SqL.of (sx _ _ pl e2),getElem?_eq_getElem hi⟩
  ·intro σ H3 pv;rw[hPv] at pv;obtain⟨ps,xs,o2,o3,_,sx,_,_,_,_,rfl⟩:=pv;exact⟨_,SqL.of (sx _ _ pl e2),List.getElem?_eq_none (le_refl _)⟩
  ·intro i σ H3 y H4 hi pv yl;rw[hPv] at pv;obtain⟨ps,xs,o2,o3,s3,sx3,e3,p3,v3,n3,rfl⟩:=pv;obtain⟨q1,x,rfl,hq1,rfl,hx⟩:=yl;have hx:=hx _ (SqL.of (sx3 _ _ pl e2));obtain⟨dx,hdx,tx⟩:=ts.get hx;have s4:=aq (o:=HO.tup [V.int (i:Nat),x]) hq1;have e4:=s4 _ _ e3;have p4:=p3.same s4;have sH4:=s3.trans s4;have sx4:=sx3.trans s4.x;have eq4:upd H3 q1 (HO.tup [V.int (i:Nat),x]) q1=some (HO.tup [V.int (i:Nat),x]):=aB;generalize upd H3 q1 (HO.tup [V.int (i:Nat),x])=H4 at s4 e4 p4 sH4 sx4 eq4 |-;have tx4:=tx.same sH4;have dmem:=mem_of_getElem? hdx;have dd:=bJ dmem;have nn:=iC dmem;have lx4:=p4.length;have ntk0:=gF i ds;push_cast [eq4,e4];refine⟨aX δ,fun qa hqa=>?_⟩;have sa:=aq (o:=HO.tup [V.int (i:Nat)]) hqa;have ea:=sa _ _ e4;have eqa:upd H4 qa (HO.tup [V.int (i:Nat)]) qa=some (HO.tup (jU [i])):=aB;have pa:=(p4.same sa).append (.cons eqa .nil);have sHa:=sH4.trans sa;have sxa:=sx4.trans sa.x;generalize upd H4 qa (HO.tup [V.int (i:Nat)])=Ha at sa ea eqa pa sHa sxa |-;push_cast [ea];refine⟨Ro ω,?_⟩;have eb:upd Ha l (HO.lst (xs++[V.ref qa])) l=_:=aB;have pb:=pa.GK (ys:=xs++[V.ref qa]) ea;have sHb:=jz (o:=HO.lst (xs++[V.ref qa])) sHa Hl;have sxb:=sxa.trans (aV.upd (p:=l) (o:=HO.lst (xs++[V.ref qa])));have e4:=eb;have p4:=pb;have sH4:=sHb;have sx4:=sxb;have tx4:=tx.same sHb;have v3b:∀pp∈ps++[[i]],valid (.list ds) pp/\pp≠[]:=fun pp hpp=>by
    rcases mem_append.mp hpp with z|z
    ·exact v3 pp z
    rw[mem_singleton.mp z];exact⟨(nJ hdx (by cases dx <;> trivial)).1,by simp⟩
   have n3b:(ps++[[i]]).length=aJ (ds.take i)+1:=by rw[length_append,length_singleton,n3]
   generalize upd Ha l (HO.lst (xs++[V.ref qa]))=H4 at e4 p4 sH4 sx4 tx4 |-;clear eb pb sHb sxb;generalize hxs:xs++[V.ref qa]=xs at e4 p4 |-;generalize hps:ps++[[i]]=ps at p4 v3b n3b |-;push_cast [uN,zQ,e4,uH];refine fB fun R2 hR2=>?_;push_cast;refine⟨x,ok,dx,rfl,tx4,ω,ω,fun l2 xs2 ps2 H5 s5 e5 p5 v5 n5=>?_⟩;push_cast [e5];have pl5:=p5.length;obtain⟨Pc,hPc⟩:∃Pv:Nat->List V->L2.St->Hp->Prop,Pv=fun(j:Nat) acc τ H'=>∃(o1:Option V),Same H5 H'/\bK H' acc ((ps2.take j).map fun pp=>i::pp)/\τ=[o1,some (V.int (i:Nat))]:=⟨_,rfl⟩;refine zT hR2 (xs:=xs2) (yx ω) Pc (by rw[hPc];exact⟨none,Same.refl _,.nil,rfl⟩) ?_ ?_ ?_ ?_
   ·intro j acc τ H6 pc;rw[hPc] at pc;obtain⟨o1,s6,p6,rfl⟩:=pc;have:=p6.length;rw[length_map,length_take] at this;omega
   ·intro j acc τ H6 pc;rw[hPc] at pc;obtain⟨o1,s6,p6,rfl⟩:=pc;exact SqL.of (s6 _ _ e5)
   ·intro j x2 acc τ H6 hx2 pc;rw[hPc] at pc;obtain⟨o1,s6,p6,rfl⟩:=pc;obtain⟨t7,pth,rfl,hp7,e7⟩:=p5.get hx2;have e7':=s6 _ _ e7;have nxt:∀(acc':V)(H':Hp),Same H6 H'->(∃tt,acc'=V.ref tt/\H' tt=some (HO.tup (jU (i::pth))))->Pc (j+1) (acc++[acc']) [some (V.ref t7),some (V.int (i:Nat))] H':=fun acc' H' sH ⟨tt,ha,ht⟩=>by
     rw[hPc,ha];refine⟨_,s6.trans sH,?_,rfl⟩;rw[take_snoc hp7,map_append];exact(p6.same sH).append (.cons ht .nil)
    push_cast;refine⟨aX δ,fun q7 hq7=>?_⟩;have s7:=aq (o:=HO.tup [V.int (i:Nat)]) hq7;have e7q:upd H6 q7 (HO.tup [V.int (i:Nat)]) q7=some (HO.tup [V.int (i:Nat)]):=aB;have e7t:=s7 _ _ e7';generalize upd H6 q7 (HO.tup [V.int (i:Nat)])=H7 at s7 e7q e7t |-;rw[yN,e7q,e7t,El];refine⟨by simp,?_,fun z=>?_,fun z p8 hp8=>?_⟩
    ·have:=kj pth dx (v5 pth (mem_of_getElem? hp7)).1;refine aX ?_;rw[Bp];show 1+pth.length<=1000000;omega
    ·refine nxt _ _ s7 ⟨q7,rfl,?_⟩;rw[e7q];cases pth with
     | nil=>rfl
     | cons a b=>cases z
    exact nxt _ _ (s7.trans (aq hp8)) ⟨p8,rfl,aB⟩
   intro acc τ H6 d6 pc hd6;rw[hPc] at pc;obtain⟨o1,s6,p6,rfl⟩:=pc;rw[pl5,take_length] at p6;have s7:=aq (o:=HO.lst acc) hd6;have el7:upd H6 d6 (HO.lst acc) l=some (HO.lst xs):=s7 _ _ (s6 _ _ (s5 _ _ e4));have ed7:upd H6 d6 (HO.lst acc) d6=some (HO.lst acc):=aB;have p7:=p6.same s7;have px7:=((p4.same s5).same s6).same s7;have sH7:=((sH4.trans s5).trans s6).trans s7;have sx7:=((sx4.trans s5.x).trans s6.x).trans s7.x;generalize upd H6 d6 (HO.lst acc)=H7 at s7 el7 ed7 p7 px7 sH7 sx7 |-;have la:=p7.length;have lx:=px7.length;rw[length_map] at la;have ntk:=gF (i+1) ds;rw[cQ hdx] at ntk;rw[vW,el7,ed7,Ej];refine⟨yx ω,?_⟩;show Pv _ _ _;rw[hPv];refine⟨ps++ps2.map (fun pp=>i::pp),_,_,_,jz sH7 Hl,sx7.trans aV.upd,aB,(px7.GK el7).append (p7.GK el7),?_,?_,rfl⟩
   ·intro pp hpp;rcases mem_append.mp hpp with z|z
    ·exact v3b pp z
    obtain⟨p9,hp9,rfl⟩:=mem_map.mp z;exact⟨(nJ hdx (v5 p9 hp9).1).1,by simp⟩
   rw[length_append,length_map,n3b,cQ hdx];omega
  intro σ H3 pv;rw[hPv] at pv;obtain⟨ps,xs,o2,o3,s3,sx3,e3,p3,v3,n3,rfl⟩:=pv;show k _ _;subst hk;push_cast;refine q l _ _ H3 s3 e3 p3 v3 ?_;rw[hlen,take_length] at n3;rw[n3];exact add_comm _ _
 | tup o e z ts=>
  rename_i p xs0 ds;push_cast;refine⟨aX δ,fun t2 ht2=>?_⟩;have s2:=s1.trans (aq (o:=HO.tup [V.ty "list",V.ty "tuple"]) ht2);have e2:=s2 _ _ e;have el2:=aq (o:=HO.tup [V.ty "list",V.ty "tuple"]) ht2 _ _ el;have p2:=p1.same (aq (o:=HO.tup [V.ty "list",V.ty "tuple"]) ht2);generalize upd H1 t2 (HO.tup [V.ty "list",V.ty "tuple"])=H2 at s2 e2 el2 p2 |-;push_cast [e2];have hlen:=ts.length;have hdep:PyData.depthAll ds+1<n+1:=by rw[<- PyData.depth.eq_2];exact hd
  have hnod:1+aJ ds<=20000:=hn;subst hkt;refine qW fun R hR=>?_;push_cast [sO,zp,e2,Gj];obtain⟨Pv,hPv⟩:∃Pv:Nat->L2.St->Hp->Prop,Pv=fun(i:Nat) σ H'=>∃(ps:List (List Nat)) (xs:List V) (o2 o3:Option V),Same H H'/\aV l H2 H'/\H' l=some (HO.lst xs)/\bK H' xs ps/\(∀pp∈ps,valid (.tuple ds) pp/\pp≠[])/\ps.length=aJ (ds.take i)/\σ=[some (V.ref p),some (V.ref l),o2,o3]:=⟨_,rfl⟩;have pl:p≠l:=aF e Hl;refine zP hR xs0.length Pv (by rw[hPv];exact⟨[],_,_,_,s2,aV.refl _ _,el2,p2,(fun x hx=>nomatch hx),rfl,rfl⟩) ?_ ?_ ?_ ?_
  ·intro i σ H3 hi pv;rw[hPv] at pv;obtain⟨ps,xs,o2,o3,_,sx,_,_,_,_,rfl⟩:=pv;exact⟨_,_,SqT.of (sx _ _ pl e2),getElem?_eq_getElem hi⟩
  ·intro σ H3 pv;rw[hPv] at pv;obtain⟨ps,xs,o2,o3,_,sx,_,_,_,_,rfl⟩:=pv;exact⟨_,SqT.of (sx _ _ pl e2),rfl⟩
  ·intro i σ H3 y H4 hi pv yl;rw[hPv] at pv;obtain⟨ps,xs,o2,o3,s3,sx3,e3,p3,v3,n3,rfl⟩:=pv;obtain⟨q1,x,rfl,hq1,rfl,hx⟩:=yl;have hx:=hx _ (SqT.of (sx3 _ _ pl e2));obtain⟨dx,hdx,tx⟩:=ts.get hx;have s4:=aq (o:=HO.tup [V.int (i:Nat),x]) hq1;have e4:=s4 _ _ e3;have p4:=p3.same s4;have sH4:=s3.trans s4;have sx4:=sx3.trans s4.x;have eq4:upd H3 q1 (HO.tup [V.int (i:Nat),x]) q1=some (HO.tup [V.int (i:Nat),x]):=aB;generalize upd H3 q1 (HO.tup [V.int (i:Nat),x])=H4 at s4 e4 p4 sH4 sx4 eq4 |-;have tx4:=tx.same sH4;have dmem:=mem_of_getElem? hdx;have dd:=bJ dmem;have nn:=iC dmem;have lx4:=p4.length;have ntk0:=gF i ds;push_cast [eq4,e4];refine⟨aX δ,fun qa hqa=>?_⟩;have sa:=aq (o:=HO.tup [V.int (i:Nat)]) hqa;have ea:=sa _ _ e4;have eqa:upd H4 qa (HO.tup [V.int (i:Nat)]) qa=some (HO.tup (jU [i])):=aB;have pa:=(p4.same sa).append (.cons eqa .nil);have sHa:=sH4.trans sa;have sxa:=sx4.trans sa.x;generalize upd H4 qa (HO.tup [V.int (i:Nat)])=Ha at sa ea eqa pa sHa sxa |-;push_cast [ea];refine⟨Ro ω,?_⟩;have eb:upd Ha l (HO.lst (xs++[V.ref qa])) l=_:=aB;have pb:=pa.GK (ys:=xs++[V.ref qa]) ea;have sHb:=jz (o:=HO.lst (xs++[V.ref qa])) sHa Hl;have sxb:=sxa.trans (aV.upd (p:=l) (o:=HO.lst (xs++[V.ref qa])));have e4:=eb;have p4:=pb;have sH4:=sHb;have sx4:=sxb;have tx4:=tx.same sHb;have v3b:∀pp∈ps++[[i]],valid (.tuple ds) pp/\pp≠[]:=fun pp hpp=>by
    rcases mem_append.mp hpp with z|z
    ·exact v3 pp z
    rw[mem_singleton.mp z];exact⟨(nJ hdx (by cases dx <;> trivial)).2,by simp⟩
   have n3b:(ps++[[i]]).length=aJ (ds.take i)+1:=by rw[length_append,length_singleton,n3]
   generalize upd Ha l (HO.lst (xs++[V.ref qa]))=H4 at e4 p4 sH4 sx4 tx4 |-;clear eb pb sHb sxb;generalize hxs:xs++[V.ref qa]=xs at e4 p4 |-;generalize hps:ps++[[i]]=ps at p4 v3b n3b |-;push_cast [uN,zQ,e4,uH];refine fB fun R2 hR2=>?_;push_cast;refine⟨x,ok,dx,rfl,tx4,ω,ω,fun l2 xs2 ps2 H5 s5 e5 p5 v5 n5=>?_⟩;push_cast [e5];have pl5:=p5.length;obtain⟨Pc,hPc⟩:∃Pv:Nat->List V->L2.St->Hp->Prop,Pv=fun(j:Nat) acc τ H'=>∃(o1:Option V),Same H5 H'/\bK H' acc ((ps2.take j).map fun pp=>i::pp)/\τ=[o1,some (V.int (i:Nat))]:=⟨_,rfl⟩;refine zT hR2 (xs:=xs2) (yx ω) Pc (by rw[hPc];exact⟨none,Same.refl _,.nil,rfl⟩) ?_ ?_ ?_ ?_
   ·intro j acc τ H6 pc;rw[hPc] at pc;obtain⟨o1,s6,p6,rfl⟩:=pc;have:=p6.length;rw[length_map,length_take] at this;omega
   ·intro j acc τ H6 pc;rw[hPc] at pc;obtain⟨o1,s6,p6,rfl⟩:=pc;exact SqL.of (s6 _ _ e5)
   ·intro j x2 acc τ H6 hx2 pc;rw[hPc] at pc;obtain⟨o1,s6,p6,rfl⟩:=pc;obtain⟨t7,pth,rfl,hp7,e7⟩:=p5.get hx2;have e7':=s6 _ _ e7;have nxt:∀(acc':V)(H':Hp),Same H6 H'->(∃tt,acc'=V.ref tt/\H' tt=some (HO.tup (jU (i::pth))))->Pc (j+1) (acc++[acc']) [some (V.ref t7),some (V.int (i:Nat))] H':=fun acc' H' sH ⟨tt,ha,ht⟩=>by
     rw[hPc,ha];refine⟨_,s6.trans sH,?_,rfl⟩;rw[take_snoc hp7,map_append];exact(p6.same sH).append (.cons ht .nil)
    push_cast;refine⟨aX δ,fun q7 hq7=>?_⟩;have s7:=aq (o:=HO.tup [V.int (i:Nat)]) hq7;have e7q:upd H6 q7 (HO.tup [V.int (i:Nat)]) q7=some (HO.tup [V.int (i:Nat)]):=aB;have e7t:=s7 _ _ e7';generalize upd H6 q7 (HO.tup [V.int (i:Nat)])=H7 at s7 e7q e7t |-;rw[yN,e7q,e7t,El];refine⟨by simp,?_,fun z=>?_,fun z p8 hp8=>?_⟩
    ·have:=kj pth dx (v5 pth (mem_of_getElem? hp7)).1;refine aX ?_;rw[Bp];show 1+pth.length<=1000000;omega
    ·refine nxt _ _ s7 ⟨q7,rfl,?_⟩;rw[e7q];cases pth with
     | nil=>rfl
     | cons a b=>cases z
    exact nxt _ _ (s7.trans (aq hp8)) ⟨p8,rfl,aB⟩
   intro acc τ H6 d6 pc hd6;rw[hPc] at pc;obtain⟨o1,s6,p6,rfl⟩:=pc;rw[pl5,take_length] at p6;have s7:=aq (o:=HO.lst acc) hd6;have el7:upd H6 d6 (HO.lst acc) l=some (HO.lst xs):=s7 _ _ (s6 _ _ (s5 _ _ e4));have ed7:upd H6 d6 (HO.lst acc) d6=some (HO.lst acc):=aB;have p7:=p6.same s7;have px7:=((p4.same s5).same s6).same s7;have sH7:=((sH4.trans s5).trans s6).trans s7;have sx7:=((sx4.trans s5.x).trans s6.x).trans s7.x;generalize upd H6 d6 (HO.lst acc)=H7 at s7 el7 ed7 p7 px7 sH7 sx7 |-;have la:=p7.length;have lx:=px7.length;rw[length_map] at la;have ntk:=gF (i+1) ds;rw[cQ hdx] at ntk;rw[vW,el7,ed7,Ej];refine⟨yx ω,?_⟩;show Pv _ _ _;rw[hPv];refine⟨ps++ps2.map (fun pp=>i::pp),_,_,_,jz sH7 Hl,sx7.trans aV.upd,aB,(px7.GK el7).append (p7.GK el7),?_,?_,rfl⟩
   ·intro pp hpp;rcases mem_append.mp hpp with z|z
    ·exact v3b pp z
    obtain⟨p9,hp9,rfl⟩:=mem_map.mp z;exact⟨(nJ hdx (v5 p9 hp9).1).2,by simp⟩
   rw[length_append,length_map,n3b,cQ hdx];omega
  intro σ H3 pv;rw[hPv] at pv;obtain⟨ps,xs,o2,o3,s3,sx3,e3,p3,v3,n3,rfl⟩:=pv;show k _ _;subst hk;push_cast;refine q l _ _ H3 s3 e3 p3 v3 ?_;rw[hlen,take_length] at n3;rw[n3];exact add_comm _ _
theorem Df:dM P w K mg base CX0 0 f fd q16_ (kJ 0):=by
 have no:∀vs H Q E,¬kJ 0 vs H Q E:=fun vs H Q E h=>by
  obtain⟨_,_,_,_,_,h1,_⟩:=h;omega
 exact⟨fun vs H Q E h=>absurd h (no vs H Q E),fun A outer s H args us vs Q E _ _ _ _ h=>absurd h (no vs H Q E)⟩
end
noncomputable abbrev U4:List Str:=["_law_thing","_law_inner"]
noncomputable abbrev wz:Stmt:=top 21
theorem U9:bW U4 q10_ (ak wz):=⟨rfl,rfl,rfl,ψ,rfl,ψ,ψ⟩
theorem Ua:NM_ U4 wz 0 "_law_thing" := .of ψ
theorem Li:NM_ U4 wz 1 "_law_inner" := .of ψ
theorem uh:GI_ wz "isinstance" := by decide +kernel
theorem vP:GI_ wz "tuple" := by decide +kernel
theorem Cu:Bn "_law_as" := ⟨ψ,ψ⟩
noncomputable def NQ:Sp:=fun vs H Q _=>∃(th l:Addr)(xs ys:List V),vs=[.ref th,.ref l]/\H l=some (.lst xs)/\((H th=some (.tup ys)/\∀p,H p=none->Q (.ref p) (upd H p (.tup xs)))\/(H th=some (.lst ys)/\Q (.ref l) H))
section
variable {P:Program}{w:World}{K:PySem.W.Frag}{mg:Str->Option Value}{base:Heap}{f:Addr}{fd:FuncData}{bs:List Str}
theorem Vu (hB:∀x:Str,x∈BLs->mg x=none) (F:Fun K "_law_as" "_law_as" wz f fd):dM P w K mg base CX0 1 f fd q10_ NQ:=by
 refine F.okq U9 (fun vs H Q E h=>?_) (fun cdv A outer s H vs Q E hr h=>?_)
 ·obtain⟨th,l,xs,ys,rfl,_⟩:=h;rfl
 obtain⟨th,l,xs,ys,rfl,el,h⟩:=h;refine⟨_,(aL (aU (tL (eV (bO cJ uh (hB "isinstance" bh) boot_isinstance bw (aj (ao Ua) (aj (gW "tuple" vP (hB "tuple" gM) boot_tuple gO) aA rfl) rfl) rfl rfl) (fun _=>rfl)) (kY kh vP (hB "tuple" gM) boot_tuple gO (aj (ao Li) aA rfl) rfl rfl) (ao Li)))),?_⟩;rcases h with⟨e,q⟩|⟨e,q⟩
 ·push_cast [e];exact⟨xs,.inl ⟨SqL.of el,q⟩⟩
 push_cast [e];exact q
end
noncomputable abbrev tE:List Str:=["_law_tape_here","_law_thing","_law_way","_law_at","_law_some"]
noncomputable abbrev eU:Stmt:=top 23
theorem qj:bW tE q5_ (ak eU):=⟨rfl,rfl,rfl,ψ,rfl,ψ,ψ⟩
theorem vf:NM_ tE eU 0 "_law_tape_here" := .of ψ
theorem bZ:NM_ tE eU 1 "_law_thing" := .of ψ
theorem qz:NM_ tE eU 2 "_law_way" := .of ψ
theorem fX:NM_ tE eU 3 "_law_at" := .of ψ
theorem qy:NM_ tE eU 4 "_law_some" := .of ψ
theorem pO:GI_ eU "_law_step_of_many" := by decide +kernel
theorem qN:GI_ eU "_law_take" := by decide +kernel
theorem BL:GI_ eU "bool" := by decide +kernel
theorem DY:GI_ eU "int" := by decide +kernel
theorem fQ:GI_ eU "isinstance" := by decide +kernel
theorem DX:GI_ eU "len" := by decide +kernel
theorem BK:GI_ eU "list" := by decide +kernel
theorem vJ:GI_ eU "str" := by decide +kernel
theorem zA:GI_ eU "tuple" := by decide +kernel
theorem Ra:Bn "_law_step" := ⟨ψ,ψ⟩
noncomputable abbrev nG:List Str:=["_law_tape_here","_law_thing","_law_spot","_law_inner"]
noncomputable abbrev dN:Stmt:=top 24
theorem xq:bW nG q4_ (ak dN):=⟨rfl,rfl,rfl,ψ,rfl,ψ,ψ⟩
theorem vy:NM_ nG dN 0 "_law_tape_here" := .of ψ
theorem pG:NM_ nG dN 1 "_law_thing" := .of ψ
theorem lU:NM_ nG dN 2 "_law_spot" := .of ψ
theorem lR:NM_ nG dN 3 "_law_inner" := .of ψ
theorem zL:GI_ dN "_law_as" := by decide +kernel
theorem sV:GI_ dN "_law_bent_at" := by decide +kernel
theorem vO:GI_ dN "_law_step" := by decide +kernel
theorem wO:GI_ dN "list" := by decide +kernel
theorem xY:Bn "_law_bent_at" := ⟨ψ,ψ⟩
noncomputable def jy (n:Nat):Sp:=fun vs H Q _=>∃(p:Addr)(B:Int)(v:V)(d:PyData)(a:Nat)(ok:Addr->Prop)(t:Addr)(path:List Nat),vs=[.ref p,v,.ref t]/\aP H p B/\0<=B/\B<=900000/\cY ok H/\(∀a,ok a->a≠p)/\aG ok H v d/\szD a d/\a<=1 /\
 H t=some (.tup (jU path))/\valid d path/\path.length<n/\path.length<=100/\∀v' d' H',aV p H H'->aP H' p (B+10)->aG ok H' v' d'->tK a d d'->(∀ds,d=.list ds->path≠[]->∃ds',d'=.list ds'/\ds'.length=ds.length)->Q v' H'
section
variable {P:Program}{w:World}{K:PySem.W.Frag}{mg:Str->Option Value}{base:Heap}{f:Addr}{fd:FuncData}{bs:List Str}
theorem Hw {n:Nat}(hB:∀x:Str,x∈BLs->mg x=none) (CZStep:Cal P w K mg base "_law_step" (n+4) q5_ (qg false)) (CZAs:Cal P w K mg base "_law_as" 1 q10_ NQ) (CZBentAt:Cal P w K mg base "_law_bent_at" (n+4) q4_ (jy n)) (F:Fun K "_law_bent_at" "_law_bent_at" dN f fd):dM P w K mg base CX0 (n+1+4) f fd q4_ (jy (n+1)):=by
 refine F.okq xq (fun vs H Q E h=>?_) (fun cdv A outer s H vs Q E hr h=>?_)
 ·obtain⟨p,B,v,d,a,ok,t,path,rfl,_⟩:=h;rfl
 obtain⟨p,B,v,d,a,ok,t,path,rfl,tp,hB0,hB1,hnw,hok,tr,sz,ha,et,hv,hpl,hp100,q⟩:=h;refine⟨_,(aD (cg (aW (TX hr.aZ) (ao lU) (cN aA) (aM _)) (aL (aU (aY CZStep (hr.mono ω) vO Ra (aj (ao vy) (aj (ao pG) aA rfl) rfl) rfl rfl))) bF)
  (aD (bR lR xq.nd (kY gB wO (hB "list" jb) boot_list j6 (aj (ao pG) aA rfl) rfl rfl) rfl (.inl rfl))
  (aD (lN (aY CZBentAt (hr.mono ω) sV xY (aj (ao vy) (aj (aN bA (ao lR) (aN bA (ao lU) au (fun _ _=>rfl)) (fun _ _=>rfl)) (aj (cj rK (ao lU) (cH au) cV) aA rfl) rfl) rfl) rfl rfl) (Ou (ao lR) (aN bA (ao lU) au (fun _ _=>rfl)) uT) rfl rfl rfl)
  (aL (aU (aY CZAs (hr.mono ω) zL Cu (aj (ao pG) (aj (ao lR) aA rfl) rfl) rfl rfl)))))),?_⟩
 refine aQ fun k hk=>?_;refine dI fun kt ke hkt hke=>?_;push_cast;refine⟨aX δ,fun q1 hq1=>?_⟩;have s1:=aq (o:=HO.tup []) hq1;refine⟨t,q1,jU path,[],rfl,rfl,s1 _ _ et,aB,Hz _,rfl,?_⟩;generalize upd H q1 (HO.tup [])=H1 at s1 |-;push_cast;cases path with
 | nil=>
  rw[show(jU []).isEmpty=true from rfl,if_pos rfl];subst hkt;push_cast;exact⟨p,B,v,d,a,ok,rfl,tp.same s1,hB0,hB1,hnw.same s1,hok,tr.same s1,sz,ha,fun z=>(by cases z),fun v' d' H' sx tp' t' b'=>q v' d' H' (s1.x.trans sx) tp' t' b' fun _ _ z=>absurd rfl z⟩
 | cons i r=>
  rw[if_neg (by simp [jU])];subst hke;push_cast;subst hk;refine aQ fun k hk=>?_;have et1:H t=some (HO.tup (V.int (i:Nat)::jU r)):=et;have hpl':r.length<n:=by rw[length_cons] at hpl;omega
  have hp100':r.length<=100:=by rw[length_cons] at hp100;omega
  have e1':=et1;cases tr with
  | lst oo e z ts=>
   rename_i th xs0 ds;obtain⟨dc,hdc,vdc⟩:=hv;have hsd:ds.length<=210*5^a/\kI a ds:=sz;have hall:=eO.mp hsd.2;have hn0:nodes (.list ds)=1+aJ ds:=rfl;have hd0:(PyData.list ds).depth=PyData.depthAll ds+1:=PyData.depth.eq_1 ds;have hlx:=ts.length;obtain⟨x,hx⟩:∃x,xs0[i]?=some x:=⟨xs0[i]'(by have:=(List.getElem?_eq_some_iff.mp hdc).1;omega),getElem?_eq_getElem _⟩;obtain⟨dc',hdc',tx⟩:=ts.get hx;rw[hdc] at hdc';cases hdc';have hil:i<xs0.length:=(List.getElem?_eq_some_iff.mp hx).1;push_cast;refine⟨_,.inl (SqL.of (s1 _ _ e)),fun l hl=>?_⟩;have s2:=(aq (o:=HO.lst xs0) hl);have okl:ok l:=(hnw.same s1).new hl;obtain⟨ok2,hok2⟩:∃ok2:Addr->Prop,ok2=fun a=>ok a/\a≠l:=⟨_,rfl⟩;have el2:upd H1 l (HO.lst xs0) l=some (HO.lst xs0):=aB;have ts2:aH ok2 (upd H1 l (HO.lst xs0)) xs0 ds:=(ts.same s1).keep fun a o h e=>by rw[hok2];exact⟨⟨h,aF e hl⟩,s2 _ _ e⟩
   have hnw2:cY ok2 (upd H1 l (HO.lst xs0)):=fun H' q s' hq=>by
    rw[hok2];exact⟨((hnw.same s1).same s2) H' q s' hq,(aF (s' _ _ el2) hq).symm⟩
   have hok2p:∀a,ok2 a->a≠p:=fun a h=>by rw[hok2] at h;exact hok a h.1
   have et2:=s2 _ _ (s1 _ _ et1);have eth2:=s2 _ _ (s1 _ _ e);have tp2:=(tp.same s1).same s2;have sx2:aV p H (upd H1 l (HO.lst xs0)):=(s1.trans s2).x;generalize upd H1 l (HO.lst xs0)=H2 at s2 el2 ts2 hnw2 et2 eth2 tp2 sx2 |-;subst hk;refine aQ fun k hk=>?_;have ex2:atI xs0 (i:Int)=some x:=dw hx;push_cast [et2,el2,ex2,Cj];refine⟨MJ (V.int (i:Nat)) (jU r),fun t9 ht9=>?_⟩;have s9:=aq (o:=HO.tup (jU r)) ht9;have tx9:aG ok2 (upd H2 t9 (HO.tup (jU r))) x dc:=by
    obtain⟨dd,h1,h2⟩:=ts2.get hx;rw[hdc] at h1;cases h1;exact h2.same s9
   refine⟨p,B,x,dc,a,ok2,t9,r,rfl,tp2.same s9,hB0,hB1,hnw2.same s9,hok2p,tx9,hall dc (mem_of_getElem? hdc),ha,aB,vdc,ω,ω,fun v3 d3 H3 s3 tp3 t3 bc _=>?_⟩;have lp:l≠p:=hok l okl;have el3:=s3 _ _ lp (s9 _ _ el2);have tnp:t≠p:=tp2.net et2;have et3:=s3 _ _ tnp (s9 _ _ et2);have eth3:=s3 _ _ (hok _ oo) (s9 _ _ eth2);push_cast [el3,et3];refine⟨i,ou (natCast_nonneg i) ω,?_⟩;subst hk;have thl:th≠l:=aF (s1 _ _ e) hl;have kk:∀a o,ok2 a->H3 a=some o->ok a/\upd H3 l (HO.lst (xs0.set i v3)) a=some o:=fun a o h e=>by
    rw[hok2] at h;exact⟨h.1,by rw[aO h.2];exact e⟩
   have t4:aH ok (upd H3 l (HO.lst (xs0.set i v3))) (xs0.set i v3) (ds.set i d3):=(aH.set t3 i ((ts2.same s9).lJ hok2p s3)).keep kk;have el4:upd H3 l (HO.lst (xs0.set i v3)) l=some (HO.lst (xs0.set i v3)):=aB;have eth4:upd H3 l (HO.lst (xs0.set i v3)) th=_:=(aO thl).trans eth3;have tp4:=tp3.upd (o:=HO.lst (xs0.set i v3)) lp;have Hl:H l=none:=by
    cases eh:H l with
    | none=>rfl
    | some o9=>rw[s1 _ _ eh] at hl;cases hl
   have sx4':aV p H (upd H3 l (HO.lst (xs0.set i v3))):=kO ((sx2.trans s9.x).trans s3) Hl;have hnw4:cY ok (upd H3 l (HO.lst (xs0.set i v3))):=hnw.cU sx4' tp4;generalize upd H3 l (HO.lst (xs0.set i v3))=H4 at t4 el4 eth4 tp4 sx4' hnw4 |-;push_cast;refine⟨th,l,_,_,rfl,el4,.inr ⟨eth4,?_⟩⟩;exact q _ _ _ sx4' tp4 (.lst okl el4 (by rw[length_set];exact z) t4) (Cz hn0 hd0 hsd.1 hall hdc bc).1 fun ds9 e9 _=>⟨_,rfl,by cases e9;rw[length_set]⟩
  | tup oo e z ts=>
   rename_i th xs0 ds;obtain⟨dc,hdc,vdc⟩:=hv;have hsd:ds.length<=210*5^a/\kI a ds:=sz;have hall:=eO.mp hsd.2;have hn0:nodes (.tuple ds)=1+aJ ds:=rfl;have hd0:(PyData.tuple ds).depth=PyData.depthAll ds+1:=PyData.depth.eq_2 ds;have hlx:=ts.length;obtain⟨x,hx⟩:∃x,xs0[i]?=some x:=⟨xs0[i]'(by have:=(List.getElem?_eq_some_iff.mp hdc).1;omega),getElem?_eq_getElem _⟩;obtain⟨dc',hdc',tx⟩:=ts.get hx;rw[hdc] at hdc';cases hdc';have hil:i<xs0.length:=(List.getElem?_eq_some_iff.mp hx).1;push_cast;refine⟨_,.inr (SqT.of (s1 _ _ e)),fun l hl=>?_⟩;have s2:=(aq (o:=HO.lst xs0) hl);have okl:ok l:=(hnw.same s1).new hl;obtain⟨ok2,hok2⟩:∃ok2:Addr->Prop,ok2=fun a=>ok a/\a≠l:=⟨_,rfl⟩;have el2:upd H1 l (HO.lst xs0) l=some (HO.lst xs0):=aB;have ts2:aH ok2 (upd H1 l (HO.lst xs0)) xs0 ds:=(ts.same s1).keep fun a o h e=>by rw[hok2];exact⟨⟨h,aF e hl⟩,s2 _ _ e⟩
   have hnw2:cY ok2 (upd H1 l (HO.lst xs0)):=fun H' q s' hq=>by
    rw[hok2];exact⟨((hnw.same s1).same s2) H' q s' hq,(aF (s' _ _ el2) hq).symm⟩
   have hok2p:∀a,ok2 a->a≠p:=fun a h=>by rw[hok2] at h;exact hok a h.1
   have et2:=s2 _ _ (s1 _ _ et1);have eth2:=s2 _ _ (s1 _ _ e);have tp2:=(tp.same s1).same s2;have sx2:aV p H (upd H1 l (HO.lst xs0)):=(s1.trans s2).x;generalize upd H1 l (HO.lst xs0)=H2 at s2 el2 ts2 hnw2 et2 eth2 tp2 sx2 |-;subst hk;refine aQ fun k hk=>?_;have ex2:atI xs0 (i:Int)=some x:=dw hx;push_cast [et2,el2,ex2,Cj];refine⟨MJ (V.int (i:Nat)) (jU r),fun t9 ht9=>?_⟩;have s9:=aq (o:=HO.tup (jU r)) ht9;have tx9:aG ok2 (upd H2 t9 (HO.tup (jU r))) x dc:=by
    obtain⟨dd,h1,h2⟩:=ts2.get hx;rw[hdc] at h1;cases h1;exact h2.same s9
   refine⟨p,B,x,dc,a,ok2,t9,r,rfl,tp2.same s9,hB0,hB1,hnw2.same s9,hok2p,tx9,hall dc (mem_of_getElem? hdc),ha,aB,vdc,ω,ω,fun v3 d3 H3 s3 tp3 t3 bc _=>?_⟩;have lp:l≠p:=hok l okl;have el3:=s3 _ _ lp (s9 _ _ el2);have tnp:t≠p:=tp2.net et2;have et3:=s3 _ _ tnp (s9 _ _ et2);have eth3:=s3 _ _ (hok _ oo) (s9 _ _ eth2);push_cast [el3,et3];refine⟨i,ou (natCast_nonneg i) ω,?_⟩;subst hk;have thl:th≠l:=aF (s1 _ _ e) hl;have kk:∀a o,ok2 a->H3 a=some o->ok a/\upd H3 l (HO.lst (xs0.set i v3)) a=some o:=fun a o h e=>by
    rw[hok2] at h;exact⟨h.1,by rw[aO h.2];exact e⟩
   have t4:aH ok (upd H3 l (HO.lst (xs0.set i v3))) (xs0.set i v3) (ds.set i d3):=(aH.set t3 i ((ts2.same s9).lJ hok2p s3)).keep kk;have el4:upd H3 l (HO.lst (xs0.set i v3)) l=some (HO.lst (xs0.set i v3)):=aB;have eth4:upd H3 l (HO.lst (xs0.set i v3)) th=_:=(aO thl).trans eth3;have tp4:=tp3.upd (o:=HO.lst (xs0.set i v3)) lp;have Hl:H l=none:=by
    cases eh:H l with
    | none=>rfl
    | some o9=>rw[s1 _ _ eh] at hl;cases hl
   have sx4':aV p H (upd H3 l (HO.lst (xs0.set i v3))):=kO ((sx2.trans s9.x).trans s3) Hl;have hnw4:cY ok (upd H3 l (HO.lst (xs0.set i v3))):=hnw.cU sx4' tp4;generalize upd H3 l (HO.lst (xs0.set i v3))=H4 at t4 el4 eth4 tp4 sx4' hnw4 |-;push_cast;refine⟨th,l,_,_,rfl,el4,.inl ⟨eth4,fun l9 hl9=>?_⟩⟩;have s9':=aq (o:=HO.tup (xs0.set i v3)) hl9;exact q _ _ _ (sx4'.trans s9'.x) (tp4.same s9') (.tup (hnw4.new hl9) aB (by rw[length_set];exact z) (t4.same s9')) (Cz hn0 hd0 hsd.1 hall hdc bc).2 fun ds9 e9 _=>by cases e9
  | _=>exact hv.elim
theorem Cy:dM P w K mg base CX0 4 f fd q4_ (jy 0):=by
 have no:∀vs H Q E,¬jy 0 vs H Q E:=fun vs H Q E h=>by
  obtain⟨_,_,_,_,_,_,_,_,_,_,_,_,_,_,_,_,_,_,_,h1,_⟩:=h;omega
 exact⟨fun vs H Q E h=>absurd h (no vs H Q E),fun A outer s H args us vs Q E _ _ _ _ h=>absurd h (no vs H Q E)⟩
end
noncomputable abbrev tG:List Str:=["_law_tape_here","_law_handed","_law_found","_law_turn","_law_spots_here"]
noncomputable abbrev fM:Stmt:=top 25
theorem qm:bW tG q11_ (ak fM):=⟨rfl,rfl,rfl,ψ,rfl,ψ,ψ⟩
theorem vq:NM_ tG fM 0 "_law_tape_here" := .of ψ
theorem Lh:NM_ tG fM 1 "_law_handed" := .of ψ
theorem m8:NM_ tG fM 2 "_law_found" := .of ψ
theorem Lg:NM_ tG fM 3 "_law_turn" := .of ψ
theorem vp:NM_ tG fM 4 "_law_spots_here" := .of ψ
theorem vN:GI_ fM "_law_bent_at" := by decide +kernel
theorem wN:GI_ fM "_law_spots" := by decide +kernel
theorem qT:GI_ fM "_law_take" := by decide +kernel
theorem Ef:GI_ fM "int" := by decide +kernel
theorem Ed:GI_ fM "len" := by decide +kernel
theorem BP:GI_ fM "list" := by decide +kernel
theorem zK:GI_ fM "range" := by decide +kernel
theorem Rc:Bn "_law_bent" := ⟨ψ,ψ⟩
structure Bnt (d0:PyData)(j:Nat)(d:PyData):Prop where
 sz:szD j (.list [d])
 nd:nodes (.list [d])<=4^j*nodes (.list [d0])+20*5^j
 dp:(PyData.list [d]).depth<=(PyData.list [d0]).depth+2*j
noncomputable def Fi:Sp:=fun vs H Q _=>∃(p h:Addr)(B:Int)(v0:V)(d0:PyData),vs=[.ref p,.ref h]/\aP H p B/\0<=B/\B<=800000/\h≠p/\H h=some (.lst [v0])/\aG (·≠p) H v0 d0/\szD 0 d0/\(PyData.list [d0]).depth<=70/\nodes (.list [d0])<=1000 /\
 ∀(l:Addr)(d:PyData)(j:Nat) H',aV p H H'->aP H' p (B+40)->aG (·≠p) H' (.ref l) (.list [d])->1<=j->j<=2->Bnt d0 j d->Q (.ref l) H'
section
variable {P:Program}{w:World}{K:PySem.W.Frag}{mg:Str->Option Value}{base:Heap}{f:Addr}{fd:FuncData}{bs:List Str}
theorem Qh (hB:∀x:Str,x∈BLs->mg x=none) (CZTake:Cal P w K mg base "_law_take" 2 q0_ (jF 2)) (CZSpots:Cal P w K mg base "_law_spots" 81 q16_ (kJ 81)) (CZBentAt:Cal P w K mg base "_law_bent_at" 85 q4_ (jy 81)) (F:Fun K "_law_bent" "_law_bent" fM f fd):dM P w K mg base CX0 86 f fd q11_ Fi:=by
 refine F.okq qm (fun vs H Q E h=>?_) (fun cdv A outer s H vs Q E hr h=>?_)
 ·obtain⟨p,h,B,v0,d0,rfl,_⟩:=h;rfl
 obtain⟨p,h,B,v0,d0,rfl,tp,hB0,hB1,nh,eh,t0,sz0,hdp,hnd,q⟩:=h;refine⟨_,(aD (bR m8 qm.nd (kY gB BP (hB "list" jb) boot_list j6 (aj (ao Lh) aA rfl) rfl rfl) rfl (.inl rfl))
  (aD (mU PassesOwn.never rfl (kW zK (hB "range" jO) (aj (aR bN au (kY qb Ef (hB "int" sI) boot_int sZ (aj (fU (bY hr.aZ) (aY CZTake (hr.mono δ) qT bV (aj (ao vq) (aj au aA rfl) rfl) rfl rfl) au (aM _)) aA rfl) rfl rfl)) aA rfl) rfl) (jX Lg qm.nd (.inl rfl))
  (aD (bR vp qm.nd (aY CZSpots (hr.mono δ) wN Cr (aj (ao m8) aA rfl) rfl rfl) rfl (.inl rfl))
  (aL (bR m8 qm.nd (aY CZBentAt (hr.mono δ) vN xY (aj (ao vq) (aj (ao m8) (aj (aN bA (ao vp) (aY CZTake (hr.mono δ) qT bV (aj (ao vq) (aj (bO bx Ed (hB "len" cR) PySem.boot_len cT (aj (ao vp) aA rfl) rfl rfl) aA rfl) rfl) rfl rfl) (fun _ _=>rfl)) aA rfl) rfl) rfl) rfl rfl) rfl (.inl rfl)))) (fun _=>rfl))
  (aL (aU (ao m8))))),?_⟩
 refine aQ fun k hk=>?_;push_cast [eh];refine⟨_,.inl (SqL.of eh),fun l0 hl0=>?_⟩;have s1:=aq (o:=HO.lst [v0]) hl0;have tp1:=tp.same s1;have t1:aG (·≠p) (upd H l0 (HO.lst [v0])) (.ref l0) (.list [d0]):=.lst (tp.ne hl0) aB (by show 1<=1000000;decide) (.cons (t0.same s1) .nil);generalize upd H l0 (HO.lst [v0])=H1 at s1 tp1 t1 |-;subst hk;refine aQ fun k hk=>?_;refine qW fun R hR=>?_;push_cast [vB];refine⟨p,4,B,rfl,tp1,by show B+2<=1000100;omega,δ,δ,δ,fun z=>absurd z δ,fun r1 H2 r10 r11 s2 tp2=>?_⟩;push_cast;obtain⟨m,hm1,hm2,hm⟩:∃m:Nat,1<=m/\m<=2/\(1+if r1=0 then 1 else 0:Int)=(m:Int):=by
  split
  ·exact⟨2,δ,δ,rfl⟩
  exact⟨1,δ,δ,rfl⟩
 rw[hm];refine⟨ω,ω,?_⟩;rw[toNat_natCast];have bn0:Bnt d0 0 d0:=⟨⟨by show 1<=210*5^0;decide,sz0,trivial⟩,by rw[pow_zero,one_mul];exact Nat.le_add_right _ _,le_refl _⟩;obtain⟨Pv,hPv⟩:∃Pv:Nat->L2.St->Hp->Prop,Pv=fun(j:Nat) σ H'=>∃(l:Addr)(d:PyData)(o3 o4:Option V),aV p H H'/\aP H' p (B+2+12*(j:Int))/\aG (·≠p) H' (.ref l) (.list [d])/\Bnt d0 j d/\σ=[some (.ref p),some (.ref h),some (.ref l),o3,o4]:=⟨_,rfl⟩;refine BZ hR Pv (by rw[hPv];exact⟨l0,d0,_,_,s1.x.trans s2,tp2.le (by show B+2<=B+2+12*((0:Nat):Int);omega),t1.cU s2,bn0,rfl⟩) ?_ ?_
 ·intro j σ H3 hj pv;rw[hPv] at pv;obtain⟨l,d,o3,o4,s3,tp3,t3,bn,rfl⟩:=pv;have hj1:j=0\/j=1:=ω;have hnd3:nodes (.list [d])<=4100:=by
   have:=bn.nd;rcases hj1 with rfl|rfl
   ·simp only[pow_zero,one_mul] at this;omega
   simp only[pow_one] at this;omega
  have hdp3:(PyData.list [d]).depth<=74:=by have:=bn.dp;omega
  refine aQ fun k3 hk3=>?_;push_cast;refine⟨.ref l,_,_,rfl,t3,ω,ω,fun ls xs ps H4 s4 e4 p4 v4 n4=>?_⟩;push_cast;subst hk3;have tp4:=tp3.same s4;have np:2<=nodes (.list [d]):=by
   have:=kZ d;show 2<=1+(nodes d+0);omega
  have lp:=p4.nt tp4 e4 ω;have xl:=p4.length;push_cast [e4];refine⟨p,(xs.length:Int),B+2+12*(j:Int),rfl,tp4,ω,ω,ω,δ,fun z=>absurd z ω,fun at0 H5 a0 a1 s5 tp5=>?_⟩;have e5:=s5 _ _ lp e4;have p5:=p4.GX tp4 s5;have hj5:at0.toNat<xs.length:=ω;have hx:xs[at0.toNat]?=some xs[at0.toNat]:=getElem?_eq_getElem hj5;have hxl:atI xs at0=some xs[at0.toNat]:=by
   have:=dw hx;rw[show((at0.toNat:Nat):Int)=at0 by omega] at this;exact this
  push_cast [e5,hxl];obtain⟨tt,pth,ett,hp,et⟩:=p5.get hx;rw[ett];obtain⟨vl,vne⟩:=v4 pth (mem_of_getElem? hp);have pl:=kj pth _ vl;refine⟨p,_,.ref l,_,j,_,tt,pth,rfl,tp5,ω,ω,tp5.newOk,fun _ h=>h,(t3.same s4).cU s5,bn.sz,ω,et,vl,ω,ω,fun v' d' H6 s6 tp6 t6 b6 hl6=>?_⟩;obtain⟨ds',rfl,hl'⟩:=hl6 _ rfl vne;obtain⟨d2,rfl⟩:=List.length_eq_one_iff.mp hl';cases t6 with
  | lst o6 e6 z6 ts6=>
   rename_i l6 ys;show Pv _ _ _;rw[hPv];refine⟨l6,d2,_,_,((s3.trans s4.x).trans s5).trans s6,tp6.le ω,.lst o6 e6 z6 ts6,⟨b6.sz,?_,?_⟩,rfl⟩
   ·have h1:=b6.nd;have h2:=bn.nd;rcases hj1 with rfl|rfl
    ·simp only[pow_zero,one_mul,Nat.zero_add,pow_one] at h2 |-;omega
    simp only[pow_one] at h2;show nodes (.list [d2])<=16*nodes (.list [d0])+500;omega
   have h1:=b6.dp;have h2:=bn.dp;omega
 intro σ H3 pv;rw[hPv] at pv;obtain⟨l,d,o3,o4,s3,tp3,t3,bn,rfl⟩:=pv;show k _ _;subst hk;push_cast;exact q l d m H3 s3 (tp3.le ω) t3 hm1 hm2 bn
end
noncomputable abbrev fC:List Str:=["_law_tape_here","_law_thing","_law_inner","_law_at","_law_way","_law_more"]
noncomputable abbrev bB:Stmt:=top 22
theorem gD:bW fC q5_ (ak bB):=⟨rfl,rfl,rfl,ψ,rfl,ψ,ψ⟩
theorem jL:NM_ fC bB 0 "_law_tape_here" := .of ψ
theorem eX:NM_ fC bB 1 "_law_thing" := .of ψ
theorem bG:NM_ fC bB 2 "_law_inner" := .of ψ
theorem cI:NM_ fC bB 3 "_law_at" := .of ψ
theorem dH:NM_ fC bB 4 "_law_way" := .of ψ
theorem m5:NM_ fC bB 5 "_law_more" := .of ψ
theorem gw:GI_ bB "_law_as" := by decide +kernel
theorem gR:GI_ bB "_law_take" := by decide +kernel
theorem lB:GI_ bB "isinstance" := by decide +kernel
theorem sU:GI_ bB "len" := by decide +kernel
theorem qO:GI_ bB "list" := by decide +kernel
theorem jR:GI_ bB "tuple" := by decide +kernel
theorem wV:Bn "_law_step_of_many" := ⟨ψ,ψ⟩
theorem Ac {ok:Addr->Prop}{σ:L2.St}{H:Hp}{D:Ends}{te:TE}{th:Addr}{xs0:List V}{ds':List PyData}(n:cY ok H)(h1:σ[1]?=some (some (.ref th)))(e:H th=some (.lst xs0)\/H th=some (.tup xs0))(h:Gv ok te σ H (.list ds'))
  (q:∀v' d' H',Same H H'->aG ok H' v' d'->(d'=.list ds'\/d'=.tuple ds')->D.rt v' H'):CZ (mJ NQ [] E0 (jl (tV 1) (jl te rE))) D σ H:=by
 unfold CZ mJ jl;refine Jo h1 ?_;refine h H (Same.refl _) _ fun v1 H1 s1 t1=>?_;cases t1 with
 | lst o e1 z ts=>
  rename_i l1 ys;refine⟨th,_,_,xs0,rfl,e1,?_⟩;rcases e with e|e
  ·exact .inr ⟨s1 _ _ e,q _ _ _ s1 (.lst o e1 z ts) (.inl rfl)⟩
  refine .inl ⟨s1 _ _ e,fun p hp=>?_⟩;have s2:=aq (o:=HO.tup ys) hp;exact q _ _ _ (s1.trans s2) (.tup (n _ _ s1 hp) aB z (ts.same s2)) (.inr rfl)
section
variable {P:Program}{w:World}{K:PySem.W.Frag}{mg:Str->Option Value}{base:Heap}{f:Addr}{fd:FuncData}{bs:List Str}
theorem K3 (hB:∀x:Str,x∈BLs->mg x=none) (CZTake:Cal P w K mg base "_law_take" 2 q0_ (jF 2)) (CZAs:Cal P w K mg base "_law_as" 1 q10_ NQ) (F:Fun K "_law_step_of_many" "_law_step_of_many" bB f fd):dM P w K mg base CX0 3 f fd q5_ (qg true):=by
 refine F.okq gD (fun vs H Q E h=>?_) (fun cdv A outer s H vs Q E hr h=>?_)
 ·obtain⟨p,B,v,d,a,ok,rfl,_⟩:=h;rfl
 obtain⟨p,B,v,d,a,ok,rfl,tp,hB0,hB1,hnw,hok,t,sz,ha,hsq,q⟩:=h;refine⟨_,(aD (bR bG gD.nd (kY gB qO (hB "list" jb) boot_list j6 (aj (ao eX) aA rfl) rfl rfl) rfl (.inl rfl))
  (aD (bR cI gD.nd (aY CZTake (hr.mono δ) gR bV (aj (ao jL) (aj (aR bN (bO bx sU (hB "len" cR) PySem.boot_len cT (aj (ao bG) aA rfl) rfl rfl) au) aA rfl) rfl) rfl rfl) rfl (.inl rfl))
  (aD (bR dH gD.nd (aY CZTake (hr.mono δ) gR bV (aj (ao jL) (aj au aA rfl) rfl) rfl rfl) rfl (.inl rfl))
  (aD (bR m5 gD.nd (aN bA (cB (aj au (aj au (aj rP (aj fP (aj (cN aA) (aj (tL (aW (KR hr.aZ) (ao bG) (cB aA) (aM _)) (aN bA (ao bG) (Bc rD au) (fun _ _=>rfl)) (Bc rD au)) aA rfl) rfl) rfl) rfl) rfl) rfl)) (aY CZTake (hr.mono δ) gR bV (aj (ao jL) (aj au aA rfl) rfl) rfl rfl) (fun _ _=>rfl)) rfl (.inl rfl))
  (aD (cg (aW jK (ao dH) au (aM _)) (aL (aU (aY CZAs (hr.mono δ) gw Cu (aj (ao eX) (aj (aR bN (cj rK (ao bG) cV (cH (ao cI))) (cj rK (ao bG) (cH (aR bN (ao cI) au)) cV)) aA rfl) rfl) rfl rfl))) bF)
  (aD (cg (aW (bY hr.aZ) (ao dH) au (aM _)) (aL (aU (aY CZAs (hr.mono δ) gw Cu (aj (ao eX) (aj (aR bN (aR bN (cj rK (ao bG) cV (cH (ao cI))) (cj rK (ao bG) (cH (ao cI)) (cH (aR bN (ao cI) au)))) (cj rK (ao bG) (cH (ao cI)) cV)) aA rfl) rfl) rfl rfl))) bF)
  (aD (cg (aW (bY hr.aZ) (ao dH) au (aM _)) (aL (aU (aY CZAs (hr.mono δ) gw Cu (aj (ao eX) (aj (Sh (ao bG)) aA rfl) rfl) rfl rfl))) bF)
  (aD (cg (aW (bY hr.aZ) (ao dH) au (aM _)) (aL (aU (tL (eV (bO cJ lB (hB "isinstance" bh) boot_isinstance bw (aj (ao eX) (aj (gW "tuple" jR (hB "tuple" gM) boot_tuple gO) aA rfl) rfl) rfl rfl) (fun _=>rfl)) (ao bG) (kY kh jR (hB "tuple" gM) boot_tuple gO (aj (ao bG) aA rfl) rfl rfl)))) bF)
  (aD (cg (aW jK (ao dH) au (aM _)) (aL (aU (aY CZAs (hr.mono δ) gw Cu (aj (ao eX) (aj (aR bN (aR bN (cj rK (ao bG) cV (cH (ao cI))) (cB (aj (ao m5) aA rfl))) (cj rK (ao bG) (cH (ao cI)) cV)) aA rfl) rfl) rfl rfl))) bF)
  (aL (aU (aN bA (cB (aj (cN aA) (aj rP aA rfl) rfl)) (aR iT (ao dH) au) (fun _ _=>rfl))))))))))))),?_⟩
 replace hsq:=hsq rfl;obtain⟨th,xs0,ds,rfl,oo,esq,z,ts,hsd,hn0,hd0⟩:∃(th:Addr)(xs0:List V)(ds:List PyData),v=.ref th/\ok th/\(H th=some (.lst xs0)\/H th=some (.tup xs0))/\xs0.length<=1000000/\aH ok H xs0 ds/\(ds.length<=210*5^a/\kI a ds)/\nodes d=1+aJ ds/\d.depth=PyData.depthAll ds+1:=by
  cases t with
  | lst oo e z ts=>exact⟨_,_,_,rfl,oo,.inl e,z,ts,sz,rfl,PyData.depth.eq_1 _⟩
  | tup oo e z ts=>exact⟨_,_,_,rfl,oo,.inr e,z,ts,sz,rfl,PyData.depth.eq_2 _⟩
  | _=>cases hsq
 have hlx:=ts.length;have pw:=Kr ha;have l1:=hsd.1;have hall:=eO.mp hsd.2;refine aQ fun k hk=>?_;push_cast;refine⟨xs0,esq.imp SqL.of SqT.of,fun li hli=>?_⟩;have s1:=aq (o:=HO.lst xs0) hli;have e1:upd H li (HO.lst xs0) li=some (HO.lst xs0):=aB;have okl:=hnw.new hli;have tin1:aG ok (upd H li (HO.lst xs0)) (.ref li) (.list ds):=.lst okl aB z (ts.same s1);have esq1:upd H li (HO.lst xs0) th=some (.lst xs0)\/upd H li (HO.lst xs0) th=some (.tup xs0):=esq.imp (s1 _ _) (s1 _ _);have tp1:=tp.same s1;have hn1:=hnw.same s1;generalize upd H li (HO.lst xs0)=H1 at s1 e1 tin1 esq1 tp1 hn1 |-;subst hk;refine aQ fun k hk=>?_;push_cast [e1];refine⟨p,(xs0.length:Int)+1,B,rfl,tp1,by show B+2<=1000100;omega,ω,ω,δ,fun z=>absurd z ω,fun at0 H2 a0 a1 s2 tp2=>?_⟩;push_cast;subst hk;refine aQ fun k hk=>?_;push_cast;refine⟨p,9,B+2,rfl,tp2,by show B+2+2<=1000100;omega,δ,δ,δ,fun z=>absurd z δ,fun way H3 w0 w1 s3 tp3=>?_⟩;push_cast;subst hk;have sx3:aV p H H3:=(s1.x.trans s2).trans s3;have tin3:=(tin1.lJ hok s2).lJ hok s3;have hn3:=(hn1.cU s2 tp2).cU s3 tp3;have esq3:H3 th=some (.lst xs0)\/H3 th=some (.tup xs0):=esq1.imp (fun e=>s3 _ _ (hok _ oo) (s2 _ _ (hok _ oo) e)) (fun e=>s3 _ _ (hok _ oo) (s2 _ _ (hok _ oo) e))
 -- the one put in
 refine aQ fun k hk=>?_;obtain⟨dl,hdl,gl⟩:=Ij (ok:=ok) (i:=2) (σ:=[some (.ref p),some (.ref th),some (.ref li),some (.int at0),some (.int way),none]) hn3 rfl tin3;refine LR (ok:=ok) (.list [.int 0,.int 1,.none,.bool true,.tuple [],dl]) rfl ?_ fun po xso H4 s4 e4 po4 t4=>?_
 ·exact iH hn3 (aK gQ (aK gQ (aK pN (aK tO (aK (ni hn3 cO (by show 0<=1000000;decide)) (aK gl cO)))))) (by show 6<=1000000;decide)
 have tp4:=tp3.same s4;push_cast;refine⟨p,6,B+2+2,rfl,tp4,by show B+2+2+2<=1000100;omega,δ,δ,δ,fun z=>absurd z δ,fun r5 H5 r50 r51 s5 tp5=>?_⟩;have e5:=s5 _ _ (hok _ po4) e4;obtain⟨xo,od,hxo,hod,todd⟩:=(t4.lJ hok s5).at r50 (show r5<6 by omega);push_cast [e5,hxo];subst hk;have upo:szD (a+1) od/\od.depth<=PyData.depthAll ds+2/\nodes od<=aJ ds+4:=by
  have odd:∀{d:PyData},tu d->szD (a+1) d/\d.depth<=PyData.depthAll ds+2/\nodes d<=aJ ds+4:=fun h=>⟨yr h.sz,by have:=h.dp;omega,by have:=h.nd;omega⟩;rcases mem_cons.mp hod with rfl|hod
  ·exact odd (jY δ)
  rcases mem_cons.mp hod with rfl|hod
  ·exact odd (jY δ)
  rcases mem_cons.mp hod with rfl|hod
  ·exact odd nY
  rcases mem_cons.mp hod with rfl|hod
  ·exact odd rW
  rcases mem_cons.mp hod with rfl|hod
  ·exact odd nZ.2
  rw[mem_singleton.mp hod];rcases hdl with rfl|hm
  ·exact odd (jY δ)
  exact⟨pC (hall _ hm),by have:=bJ hm;omega,by have:=iC hm;omega⟩
 have sx5:aV p H H5:=(sx3.trans s4.x).trans s5;have tin:=(tin3.same s4).lJ hok s5;have hn:=(hn3.same s4).cU s5 tp5;have esq5:H5 th=some (.lst xs0)\/H5 th=some (.tup xs0):=esq3.imp (fun e=>s5 _ _ (hok _ oo) (s4 _ _ e)) (fun e=>s5 _ _ (hok _ oo) (s4 _ _ e));have tp5':aP H5 p (B+10):=tp5.le (by show B+2+2+2<=B+10;omega);have c0:=qY ds none (some at0);have n0:=jm ds none (some at0);have c1:=qY ds (some (at0+1)) none;have n1:=jm ds (some (at0+1)) none;have c3:=qY ds (some at0) none;have n3:=jm ds (some at0) none;have c5:=qY ds (some at0) (some (at0+1));have n5:=jm ds (some at0) (some (at0+1));have up:∀x∈ds,szD (a+1) x/\x.depth<=PyData.depthAll ds+2:=fun x hx=>⟨pC (hall x hx),by have:=bJ hx;omega⟩;have upc:∀{lo hi:Option Int},∀x∈cutD ds lo hi,szD (a+1) x/\x.depth<=PyData.depthAll ds+2:=fun x hx=>up x (MK hx);have app:∀{A1 A2:List PyData},(∀x∈A1,szD (a+1) x/\x.depth<=PyData.depthAll ds+2)->(∀x∈A2,szD (a+1) x/\x.depth<=PyData.depthAll ds+2)->∀x∈A1++A2,szD (a+1) x/\x.depth<=PyData.depthAll ds+2:=fun h1 h2 x hx=>(mem_append.mp hx).elim (h1 x) (h2 x);have zZ:∀{ds':List PyData},(∀x∈ds',szD (a+1) x/\x.depth<=PyData.depthAll ds+2)->ds'.length<=4*ds.length+1->aJ ds'<=4*aJ ds+10->tK a d (.list ds')/\tK a d (.tuple ds'):=fun hx hl hn=>Rf hn0 hd0 (fun x h=>(hx x h).1) ω hn (fun x h=>(hx x h).2);have go:∀{ds':List PyData}(v':V)(d':PyData)(H':Hp),Same H5 H'->aG ok H' v' d'->(d'=.list ds'\/d'=.tuple ds')->(∀x∈ds',szD (a+1) x/\x.depth<=PyData.depthAll ds+2)->ds'.length<=4*ds.length+1->aJ ds'<=4*aJ ds+10->Q v' H':=fun v' d' H' sH t' hd' hx hl hn=>by
  have b:=zZ hx hl hn;refine q v' d' H' (sx5.trans sH.x) (tp5'.same sH) t' ?_;rcases hd' with rfl|rfl
  ·exact b.1
  exact b.2
 have g2:Gv ok (tV 2) [some (.ref p),some (.ref th),some (.ref li),some (.int at0),some (.int way),some xo] H5 (.list ds):=vD rfl tin;refine aQ fun k hk=>?_;refine dI fun kt ke hkt hke=>?_;push_cast;split
 ·subst hkt;refine Ac hn rfl esq5 (vG hn (jP hn g2 (fun H Q q=>q) (fun H Q q=>⟨at0,rfl,q⟩)) (jP hn g2 (fun H Q q=>⟨at0+1,rfl,q⟩) (fun H Q q=>q)) ω) fun v' d' H' sH t' hd'=>?_;exact go v' d' H' sH t' hd' (app upc upc) (by rw[length_append];omega) (by rw[bD];omega)
 subst hke;push_cast;subst hk;refine aQ fun k hk=>?_;refine dI fun kt ke hkt hke=>?_;push_cast;split
 ·subst hkt;refine Ac hn rfl esq5 (vG hn (vG hn (jP hn g2 (fun H Q q=>q) (fun H Q q=>⟨at0,rfl,q⟩)) (jP hn g2 (fun H Q q=>⟨at0,rfl,q⟩) (fun H Q q=>⟨at0+1,rfl,q⟩)) ω) (jP hn g2 (fun H Q q=>⟨at0,rfl,q⟩) (fun H Q q=>q)) (by rw[length_append];omega)) fun v' d' H' sH t' hd'=>?_;exact go v' d' H' sH t' hd' (app (app upc upc) upc) (by rw[length_append,length_append];omega) (by rw[bD,bD];omega)
 subst hke;push_cast;subst hk;refine aQ fun k hk=>?_;refine dI fun kt ke hkt hke=>?_;push_cast;split
 ·subst hkt;refine Ac hn rfl esq5 (Uw hn g2) fun v' d' H' sH t' hd'=>?_;exact go v' d' H' sH t' hd' (fun x hx=>up x (List.mem_reverse.mp hx)) (by rw[length_reverse];omega) (by rw[lg];omega)
 subst hke;push_cast;subst hk;refine aQ fun k hk=>?_;refine dI fun kt ke hkt hke=>?_;push_cast;split
 ·subst hkt;have bt:=zZ up ω ω;rcases esq5 with e|e
  ·push_cast [e];cases tin with
   | lst o' e' z' ts'=>
    rename_i ys;refine⟨_,.inl ⟨SqL.of e',fun l9 hl9=>?_⟩⟩;have s9:=aq (o:=HO.tup ys) hl9;exact q _ _ _ (sx5.trans s9.x) (tp5'.same s9) (.tup (hn.new hl9) aB z' (ts'.same s9)) bt.2
  push_cast [e];exact q _ _ _ sx5 tp5' tin bt.1
 subst hke;push_cast;subst hk;refine aQ fun k hk=>?_;refine dI fun kt ke hkt hke=>?_;push_cast;split
 ·subst hkt;refine Ac hn rfl esq5 (vG hn (vG hn (jP hn g2 (fun H Q q=>q) (fun H Q q=>⟨at0,rfl,q⟩)) (iH hn (aK (vD (i:=5) rfl todd) cO) (by show 1<=1000000;decide)) (by rw[length_singleton];omega)) (jP hn g2 (fun H Q q=>⟨at0,rfl,q⟩) (fun H Q q=>q)) (by rw[length_append,length_singleton];omega)) fun v' d' H' sH t' hd'=>?_;exact go v' d' H' sH t' hd' (app (app upc (fun x hx=>by rw[mem_singleton.mp hx];exact⟨upo.1,upo.2.1⟩)) upc) (by rw[length_append,length_append,length_singleton];omega) (by rw[bD,bD,aJ,aJ];omega)
 subst hke;push_cast;subst hk;refine LR (ok:=ok) (.list [.tuple [],.none]) rfl ?_ fun p6 xs6 H6 s6 e6 po6 t6=>?_
 ·exact iH hn (aK (ni hn cO (by show 0<=1000000;decide)) (aK pN cO)) (by show 2<=1000000;decide)
 obtain⟨x7,d7,hx7,hd7,t7⟩:=t6.at (show 0<=way-7 by omega) (show way-7<2 by omega);push_cast [e6,hx7];have o7:tu d7:=by
  rcases mem_cons.mp hd7 with rfl|hd7
  ·exact nZ.2
  rw[mem_singleton.mp hd7];exact nY
 exact q _ _ _ (sx5.trans s6.x) (tp5'.same s6) t7 o7.zZ
theorem Qa (hB:∀x:Str,x∈BLs->mg x=none) (CZTake:Cal P w K mg base "_law_take" 2 q0_ (jF 2)) (CZStepOfMany:Cal P w K mg base "_law_step_of_many" 3 q5_ (qg true)) (F:Fun K "_law_step" "_law_step" eU f fd):dM P w K mg base CX0 4 f fd q5_ (qg false):=by
 refine F.okq qj (fun vs H Q E h=>?_) (fun cdv A outer s H vs Q E hr h=>?_)
 ·obtain⟨p,B,v,d,a,ok,rfl,_⟩:=h;rfl
 obtain⟨p,B,v,d,a,ok,rfl,tp,hB0,hB1,hnw,hok,t,sz,ha,_,q⟩:=h;refine⟨_,(aD (cg (eV (bO xW fQ (hB "isinstance" bh) boot_isinstance bw (aj (ao bZ) (aj (cN (aj (gW "list" BK (hB "list" jb) boot_list j6) (aj (gW "tuple" zA (hB "tuple" gM) boot_tuple gO) aA rfl) rfl)) aA rfl) rfl) rfl rfl) (fun _=>rfl)) (aL (aU (aY CZStepOfMany (hr.mono δ) pO wV (aj (ao vf) (aj (ao bZ) aA rfl) rfl) rfl rfl))) bF)
  (aD (bR qz qj.nd (aY CZTake (hr.mono δ) qN bV (aj (ao vf) (aj au aA rfl) rfl) rfl rfl) rfl (.inl rfl))
  (aD (cg (eV (bO cJ fQ (hB "isinstance" bh) boot_isinstance bw (aj (ao bZ) (aj (gW "str" vJ (hB "str" zf) boot_str zW) aA rfl) rfl) rfl rfl) (fun _=>rfl)) (aD (bR fX qj.nd (aY CZTake (hr.mono δ) qN bV (aj (ao vf) (aj (aR eH (bO Jd DX (hB "len" cR) PySem.boot_len cT (aj (ao bZ) aA rfl) rfl rfl) au) aA rfl) rfl) rfl rfl) rfl (.inl rfl))
  (aD (bR qy qj.nd (cB (aj (aR eH (aR eH (cj v9 (ao bZ) cV (cH (ao fX))) bM) (cj v9 (ao bZ) (cH (aR eH (ao fX) au)) cV)) (aj (aR eH (aR eH (cj v9 (ao bZ) cV (cH (ao fX))) bM) (cj v9 (ao bZ) (cH (aR eH (ao fX) au)) cV)) (aj (aR eH (aR eH (cj v9 (ao bZ) cV (cH (ao fX))) bM) (cj v9 (ao bZ) (cH (ao fX)) cV)) aA rfl) rfl) rfl)) rfl (.inl rfl))
  (aD (bR qy qj.nd (aR eH (ao qy) (cB (aj (aR eH (cj v9 (ao bZ) cV (cH (ao fX))) (cj v9 (ao bZ) (cH (aR eH (ao fX) au)) cV)) (aj (aR eH (aR eH (cj v9 (ao bZ) cV (cH (ao fX))) bM) (cj v9 (ao bZ) (cH (aR eH (ao fX) au)) cV)) (aj bM (aj rP (aj au (aj (cN (aj (ao bZ) aA rfl)) aA rfl) rfl) rfl) rfl) rfl) rfl))) rfl (.inl rfl))
  (aL (aU (aN Us (ao qy) (ao qz) (fun _ _=>rfl))))))) bF)
  (aD (cg (mR (pD (eV (bO cJ fQ (hB "isinstance" bh) boot_isinstance bw (aj (ao bZ) (aj (gW "int" DY (hB "int" sI) boot_int sZ) aA rfl) rfl) rfl rfl) (fun _=>rfl)) (nT (iR (eV (bO cJ fQ (hB "isinstance" bh) boot_isinstance bw (aj (ao bZ) (aj (gW "bool" BL (hB "bool" qI) boot_bool qZ) aA rfl) rfl) rfl rfl) (fun _=>rfl)))))) (aL (aU (aN Us (cB (aj (aR eH (ao bZ) au) (aj (aR iT (ao bZ) au) (aj (aR iT au (ao bZ)) (aj (aR iB au (ao bZ)) (aj fP (aj rP (aj (kY zU vJ (hB "str" zf) boot_str zW (aj (ao bZ) aA rfl) rfl rfl) (aj (cB (aj (ao bZ) aA rfl)) (aj fP aA rfl) rfl) rfl) rfl) rfl) rfl) rfl) rfl) rfl)) (ao qz) (fun _ _=>rfl)))) bF)
  (aL (aU (aN Us (cB (aj au (aj au (aj (cN aA) (aj bM (aj rP (aj fP (aj fP (aj (cB aA) (aj au aA rfl) rfl) rfl) rfl) rfl) rfl) rfl) rfl) rfl)) (ao qz) (fun _ _=>rfl)))))))),?_⟩
 have p2:=S7 ha;refine aQ fun k hk=>?_;refine dI fun kt ke hkt hke=>?_;have tt:=t;have all9:∀d∈([.int 0,.int 1,.tuple [],.str "",.none,.bool true,.bool false,.list [],.int 2]:List PyData),Sm3 a d:=b8 (jY δ).sm3 (b8 (jY δ).sm3 (b8 nZ.2.sm3 (b8 (uG "" δ).sm3 (b8 nY.sm3 (b8 rW.sm3 (b8 rW.sm3 (b8 nZ.1.sm3 (b8 (jY δ).sm3 Dm))))))));cases t with
 | lst o e z ts=>
  push_cast;refine⟨aX δ,fun t2 ht2=>?_⟩;have s2:=aq (o:=HO.tup [V.ty "list",V.ty "tuple"]) ht2;have e2:=s2 _ _ e;push_cast [e2];subst hkt;push_cast;exact⟨p,B,_,_,a,ok,rfl,tp.same s2,hB0,hB1,hnw.same s2,hok,tt.same s2,sz,ha,fun _=>rfl,fun v' d' H' sx tp' t' b'=>q v' d' H' (s2.x.trans sx) tp' t' b'⟩
 | tup o e z ts=>
  push_cast;refine⟨aX δ,fun t2 ht2=>?_⟩;have s2:=aq (o:=HO.tup [V.ty "list",V.ty "tuple"]) ht2;have e2:=s2 _ _ e;push_cast [e2];subst hkt;push_cast;exact⟨p,B,_,_,a,ok,rfl,tp.same s2,hB0,hB1,hnw.same s2,hok,tt.same s2,sz,ha,fun _=>rfl,fun v' d' H' sx tp' t' b'=>q v' d' H' (s2.x.trans sx) tp' t' b'⟩
 | str x=>
  push_cast;refine⟨aX δ,fun t2 ht2=>?_⟩;have s2:=aq (o:=HO.tup [V.ty "list",V.ty "tuple"]) ht2;have tp2:=tp.same s2;generalize upd H t2 (HO.tup [V.ty "list",V.ty "tuple"])=H2 at s2 tp2 |-;subst hke;push_cast;subst hk;refine aQ fun k hk=>?_;push_cast;refine⟨p,9,B,rfl,tp2,by show B+2<=1000100;omega,δ,δ,δ,fun z=>absurd z δ,fun way H3 w0 w1 s3 tp3=>?_⟩;push_cast;subst hk;have tp3':aP H3 p (B+2):=tp3;have sx3:aV p H H3:=s2.x.trans s3;have hn:=(hnw.same s2).cU s3 tp3;refine aQ fun k hk=>?_;refine dI fun kt ke hkt hke=>?_;push_cast;subst hkt;have hx:okS a x:=sz;have hxl:=hx.1;have hxs:x.length<=sizeLine:=aX ω;refine aQ fun k2 hk2=>?_;push_cast [rdX];refine⟨hxs,p,(x.length:Int)+1,B+2,rfl,tp3',by show B+2+2<=1000100;omega,ω,ω,δ,fun z=>absurd z ω,fun at0 H4 a0 a1 s4 tp4=>?_⟩;push_cast;subst hk2;have sx4:aV p H H4:=sx3.trans s4;have hn4:=hn.cU s4 tp4;have tx:∀{H5:Hp},aG ok H5 (.str x) (.str x):=.str x;refine aQ fun k2 hk2=>?_;have hx1:x.length<=1000:=ω;refine Ni (ok:=ok) (d:=.list [.str (Txt.slice x none (some at0)++("0" : Str)++Txt.slice x (some (at0+1)) none),.str (Txt.slice x none (some at0)++("1" : Str)++Txt.slice x (some (at0+1)) none),.str (Txt.slice x none (some at0)++("1" : Str)++Txt.slice x (some (at0)) none)]) ?_ fun v5 H5 s5 t5=>?_
  ·exact iH hn4 (aK (uI (qK rfl rfl hx1) (qJ rfl rfl hx1) hx1 δ) (aK (uI (qK rfl rfl hx1) (qJ rfl rfl hx1) hx1 δ) (aK (uI (qK rfl rfl hx1) (Mi rfl rfl hx1) hx1 δ) cO))) (by show 3<=1000000;decide)
  show k2 _ _;simp only[set_cons_succ,set_cons_zero];subst hk2;have hn5:=hn4.same s5;refine aQ fun k2 hk2=>?_;refine Ni (ok:=ok) (d:=.list ([.str (Txt.slice x none (some at0)++("0" : Str)++Txt.slice x (some (at0+1)) none),.str (Txt.slice x none (some at0)++("1" : Str)++Txt.slice x (some (at0+1)) none),.str (Txt.slice x none (some at0)++("1" : Str)++Txt.slice x (some (at0)) none)]++[.str (Txt.slice x none (some at0)++Txt.slice x (some (at0+1)) none),.str (Txt.slice x none (some at0)++("2" : Str)++Txt.slice x (some (at0+1)) none),.str "",.none,.int 0,.tuple [.str x]])) ?_ fun v6 H6 s6 t6=>?_
  ·exact QJ hn5 (vD rfl t5) (iH hn5 (aK (Mj (qK rfl rfl hx1) (qJ rfl rfl hx1) hx1) (aK (uI (qK rfl rfl hx1) (qJ rfl rfl hx1) hx1 δ) (aK sS (aK pN (aK gQ (aK (ni hn5 (aK (vD rfl (.str x)) cO) (by show 1<=1000000;decide)) cO)))))) (by show 6<=1000000;decide)) (by show 3+6<=1000000;decide)
  show k2 _ _;simp only[set_cons_succ,set_cons_zero];subst hk2;refine zm (ok:=ok) (.list [.str (Txt.slice x none (some at0)++("0" : Str)++Txt.slice x (some (at0+1)) none),.str (Txt.slice x none (some at0)++("1" : Str)++Txt.slice x (some (at0+1)) none),.str (Txt.slice x none (some at0)++("1" : Str)++Txt.slice x (some (at0)) none),.str (Txt.slice x none (some at0)++Txt.slice x (some (at0+1)) none),.str (Txt.slice x none (some at0)++("2" : Str)++Txt.slice x (some (at0+1)) none),.str "",.none,.int 0,.tuple [.str x]]) rfl (vD rfl t6) fun p7 xs7 H7 s7 e7 po7 t7=>?_;obtain⟨x8,d8,hx8,hd8,t8⟩:=t7.at w0 (show way<9 by omega);push_cast [rdX,e7,hx8];have b1:∀(m:Str),okS 0 m->m.length<=1->okS (a+1) (Txt.slice x none (some at0)++m++Txt.slice x (some (at0+1)) none):=fun m hm hl=>(uZ hx a0 ω hm hl).1;have b0:okS (a+1) (Txt.slice x none (some at0)++("1" : Str)++Txt.slice x (some at0) none):=(uZ hx a0 ω (fj "1" 0 δ) ψ).1;have b2:okS (a+1) (Txt.slice x none (some at0)++Txt.slice x (some (at0+1)) none):=(uZ (m := "1") hx a0 ω (fj "1" 0 δ) ψ).2;have pw:=Kr ha;have st:Sm3 a (.tuple [.str x]):=⟨⟨by show 1<=210*5^(a+1);omega,(pC sz:szD (a+1) (.str x)),trivial⟩,by show 2<=20;decide,by show max 0 0+1<=2;decide⟩;have all8:∀d∈([.str (Txt.slice x none (some at0)++("0" : Str)++Txt.slice x (some (at0+1)) none),.str (Txt.slice x none (some at0)++("1" : Str)++Txt.slice x (some (at0+1)) none),.str (Txt.slice x none (some at0)++("1" : Str)++Txt.slice x (some (at0)) none),.str (Txt.slice x none (some at0)++Txt.slice x (some (at0+1)) none),.str (Txt.slice x none (some at0)++("2" : Str)++Txt.slice x (some (at0+1)) none),.str "",.none,.int 0,.tuple [.str x]]:List PyData),Sm3 a d:=b8 (rH (b1 "0" (fj "0" 0 δ) ψ)) (b8 (rH (b1 "1" (fj "1" 0 δ) ψ)) (b8 (rH b0) (b8 (rH b2) (b8 (rH (b1 "2" (fj "2" 0 δ) ψ)) (b8 (uG "" δ).sm3 (b8 nY.sm3 (b8 (jY δ).sm3 (b8 st Dm))))))));exact q _ _ _ (((sx4.trans s5.x).trans s6.x).trans s7.x) ((((tp4.same s5).same s6).same s7).le (by show B+2+2<=B+10;omega)) t8 (all8 d8 hd8).zZ
 | int i=>
  push_cast;refine⟨aX δ,fun t2 ht2=>?_⟩;have s2:=aq (o:=HO.tup [V.ty "list",V.ty "tuple"]) ht2;have tp2:=tp.same s2;generalize upd H t2 (HO.tup [V.ty "list",V.ty "tuple"])=H2 at s2 tp2 |-;subst hke;push_cast;subst hk;refine aQ fun k hk=>?_;push_cast;refine⟨p,9,B,rfl,tp2,by show B+2<=1000100;omega,δ,δ,δ,fun z=>absurd z δ,fun way H3 w0 w1 s3 tp3=>?_⟩;push_cast;subst hk;have tp3':aP H3 p (B+2):=tp3;have sx3:aV p H H3:=s2.x.trans s3;have hn:=(hnw.same s2).cU s3 tp3;refine aQ fun k hk=>?_;refine dI fun kt ke hkt hke=>?_;push_cast;subst hke;push_cast;subst hk;refine aQ fun k hk=>?_;refine dI fun kt ke hkt hke=>?_;push_cast;subst hkt;have hi:i.natAbs<=10^20*2^a:=sz;have hlog:i.natAbs.log2<1920:=by
   by_cases z:i.natAbs=0
   ·rw[z];decide
   have:=(log2_lt (k:=70) z).mpr ω;omega
  have hts:okS (a+1) (Str.ofString (toString i)):=fj _ _ (by have:=PySem.int_text_length_le10 (a:=i) (k:=21) δ ω;omega);have gi:Gv ok (tV 1) [some (.ref p),some (.int i),some (.int way),none,none] H3 (.int i):=vD rfl (.int i);refine zm (ok:=ok) (.list [.int (i+1),.int (i-1),.int (0-i),.int (2*i),.bool true,.none,.str (toString i),.list [.int i],.bool false]) rfl ?_ fun p6 xs6 H6 s6 e6 po6 t6=>?_
  ·exact iH hn (aK (zq gi gQ (fun H Q q=>q)) (aK (zq gi gQ (fun H Q q=>⟨_,_,rfl,rfl,q⟩)) (aK (zq gQ gi (fun H Q q=>⟨_,_,rfl,rfl,q⟩)) (aK (zq gQ gi (fun H Q q=>⟨_,_,rfl,rfl,.inl ⟨δ,δ⟩,q⟩)) (aK tO (aK pN (aK (Ih gi hlog) (aK (iH hn (aK gi cO) (by show 1<=1000000;decide)) (aK tO cO))))))))) (by show 9<=1000000;decide)
  obtain⟨x7,d7,hx7,hd7,t7⟩:=t6.at w0 (show way<9 by omega);push_cast [rdX,e6,hx7];have all7:∀d∈([.int (i+1),.int (i-1),.int (0-i),.int (2*i),.bool true,.none,.str (toString i),.list [.int i],.bool false]:List PyData),Sm3 a d:=b8 (yt ω) (b8 (yt ω) (b8 (yt ω) (b8 (yt ω) (b8 rW.sm3 (b8 nY.sm3 (b8 (rH hts) (b8 (NT ω).1 (b8 rW.sm3 Dm))))))));exact q _ _ _ (sx3.trans s6.x) ((tp3'.same s6).le ω) t7 (all7 d7 hd7).zZ
 | non=>
  push_cast;refine⟨aX δ,fun t2 ht2=>?_⟩;have s2:=aq (o:=HO.tup [V.ty "list",V.ty "tuple"]) ht2;have tp2:=tp.same s2;generalize upd H t2 (HO.tup [V.ty "list",V.ty "tuple"])=H2 at s2 tp2 |-;subst hke;push_cast;subst hk;refine aQ fun k hk=>?_;push_cast;refine⟨p,9,B,rfl,tp2,by show B+2<=1000100;omega,δ,δ,δ,fun z=>absurd z δ,fun way H3 w0 w1 s3 tp3=>?_⟩;push_cast;subst hk;have tp3':aP H3 p (B+2):=tp3;have sx3:aV p H H3:=s2.x.trans s3;have hn:=(hnw.same s2).cU s3 tp3;refine aQ fun k hk=>?_;refine dI fun kt ke hkt hke=>?_;push_cast;subst hke;push_cast;subst hk;refine aQ fun k hk=>?_;refine dI fun kt ke hkt hke=>?_;push_cast;subst hke;push_cast;subst hk;refine zm (ok:=ok) (.list [.int 0,.int 1,.tuple [],.str "",.none,.bool true,.bool false,.list [],.int 2]) rfl ?_ fun p6 xs6 H6 s6 e6 po6 t6=>?_
  ·exact iH hn (aK gQ (aK gQ (aK (ni hn cO (by show 0<=1000000;decide)) (aK sS (aK pN (aK tO (aK tO (aK (iH hn cO (by show 0<=1000000;decide)) (aK gQ cO))))))))) (by show 9<=1000000;decide)
  obtain⟨x7,d7,hx7,hd7,t7⟩:=t6.at w0 (show way<9 by omega);push_cast [rdX,e6,hx7];exact q _ _ _ (sx3.trans s6.x) ((tp3'.same s6).le ω) t7 (all9 d7 hd7).zZ
 | bl b=>
  push_cast;refine⟨aX δ,fun t2 ht2=>?_⟩;have s2:=aq (o:=HO.tup [V.ty "list",V.ty "tuple"]) ht2;have tp2:=tp.same s2;generalize upd H t2 (HO.tup [V.ty "list",V.ty "tuple"])=H2 at s2 tp2 |-;subst hke;push_cast;subst hk;refine aQ fun k hk=>?_;push_cast;refine⟨p,9,B,rfl,tp2,by show B+2<=1000100;omega,δ,δ,δ,fun z=>absurd z δ,fun way H3 w0 w1 s3 tp3=>?_⟩;push_cast;subst hk;have tp3':aP H3 p (B+2):=tp3;have sx3:aV p H H3:=s2.x.trans s3;have hn:=(hnw.same s2).cU s3 tp3;refine aQ fun k hk=>?_;refine dI fun kt ke hkt hke=>?_;push_cast;subst hke;push_cast;subst hk;refine aQ fun k hk=>?_;refine dI fun kt ke hkt hke=>?_;push_cast;subst hke;push_cast;subst hk;refine zm (ok:=ok) (.list [.int 0,.int 1,.tuple [],.str "",.none,.bool true,.bool false,.list [],.int 2]) rfl ?_ fun p6 xs6 H6 s6 e6 po6 t6=>?_
  ·exact iH hn (aK gQ (aK gQ (aK (ni hn cO (by show 0<=1000000;decide)) (aK sS (aK pN (aK tO (aK tO (aK (iH hn cO (by show 0<=1000000;decide)) (aK gQ cO))))))))) (by show 9<=1000000;decide)
  obtain⟨x7,d7,hx7,hd7,t7⟩:=t6.at w0 (show way<9 by omega);push_cast [rdX,e6,hx7];exact q _ _ _ (sx3.trans s6.x) ((tp3'.same s6).le ω) t7 (all9 d7 hd7).zZ
end
noncomputable abbrev gn:List Str:=["_law_tape_here","_law_plan_here","_law_word","_law_at","_law_made","_law_k","_law_part"]
noncomputable abbrev bQ:Stmt:=top 27
theorem jV:bW gn q1_ (ak bQ):=⟨rfl,rfl,rfl,ψ,rfl,ψ,ψ⟩
theorem yW:NM_ gn bQ 0 "_law_tape_here" := .of ψ
theorem jr:NM_ gn bQ 1 "_law_plan_here" := .of ψ
theorem qC:NM_ gn bQ 2 "_law_word" := .of ψ
theorem jq:NM_ gn bQ 3 "_law_at" := .of ψ
theorem jo:NM_ gn bQ 4 "_law_made" := .of ψ
theorem lO:NM_ gn bQ 5 "_law_k" := .of ψ
theorem jn:NM_ gn bQ 6 "_law_part" := .of ψ
theorem nq:GI_ bQ "_law_reworded" := by decide +kernel
theorem nj:GI_ bQ "enumerate" := by decide +kernel
theorem iK:GI_ bQ "isinstance" := by decide +kernel
theorem ug:GI_ bQ "list" := by decide +kernel
theorem vL:GI_ bQ "str" := by decide +kernel
theorem lD:GI_ bQ "tuple" := by decide +kernel
theorem tR:Bn "_law_reworded" := ⟨ψ,ψ⟩
theorem yC {vs xs:List V}{i:Nat}{v:V}(hl:vs.length=i)(hi:i<xs.length):(vs++xs.drop i).set i v=(vs++[v])++xs.drop (i+1):=by
 rw[List.drop_eq_getElem_cons hi,List.set_append_right _ _ ω,hl,sub_self,set_cons_zero,List.append_assoc];rfl
structure Rew (d d':PyData):Prop where
 sz:szD 0 d'
 nd:nodes d'=nodes d
 dp:d'.depth<=d.depth
noncomputable def xj (n:Nat):Sp:=fun vs H Q _=>∃(x0 v:V)(d:PyData)(wd:Str)(c:Addr)(i:Int)(ok:Addr->Prop),vs=[x0,v,.str wd,.ref c]/\H c=some (.lst [.int i])/\cY ok H/\(∀a,ok a->a≠c)/\aG ok H v d/\szD 0 d/\okS 0 wd/\d.depth<n /\
 ∀v' d' (j:Int) H',aV c H H'->H' c=some (.lst [.int j])->aG ok H' v' d'->Rew d d'->Q v' H'
section
variable {P:Program}{w:World}{K:PySem.W.Frag}{mg:Str->Option Value}{base:Heap}{f:Addr}{fd:FuncData}{bs:List Str}
theorem T5 {n:Nat}(hB:∀x:Str,x∈BLs->mg x=none) (CZReworded:Cal P w K mg base "_law_reworded" n q1_ (xj n)) (F:Fun K "_law_reworded" "_law_reworded" bQ f fd):dM P w K mg base CX0 (n+1) f fd q1_ (xj (n+1)):=by
 refine F.okq jV (fun vs H Q E h=>?_) (fun cdv A outer s H vs Q E hr h=>?_)
 ·obtain⟨x0,v,d,wd,c,i,ok,rfl,_⟩:=h;rfl
 obtain⟨x0,v,d,wd,c,i0,ok,rfl,ec,hnw,hok,t,sz,hw,hd,q⟩:=h;refine⟨_,(aD (cg (iR (eV (bO cJ iK (hB "isinstance" bh) boot_isinstance bw (aj (ao jr) (aj (gW "tuple" lD (hB "tuple" gM) boot_tuple gO) aA rfl) rfl) rfl rfl) (fun _=>rfl))) (aL (aU (ao jr))) bF)
  (aD (bR jo jV.nd (kY gB ug (hB "list" jb) boot_list j6 (aj (ao jr) aA rfl) rfl rfl) rfl (.inl rfl))
  (aD (mU PassesOwn.never rfl (Bb nj (hB "enumerate" qH) (aj (ao jr) aA rfl) rfl) (yO (n:=2) rfl (je (jX lO jV.nd (.inl rfl)) (je (jX jn jV.nd (.inl rfl)) uD rfl) rfl) rfl rfl)
  (aL (cg (eV (bO cJ iK (hB "isinstance" bh) boot_isinstance bw (aj (ao jn) (aj (gW "str" vL (hB "str" zf) boot_str zW) aA rfl) rfl) rfl rfl) (fun _=>rfl)) (aD (lN (tL (aW (bY hr.aZ) (aN bA (ao jq) au (fun _ _=>rfl)) au (aM _)) (ao qC) (ao jn)) (Fq (ao jo) (ao lO) uT) rfl rfl rfl)
  (aL (lN (aR iT (aN bA (ao jq) au (fun _ _=>rfl)) au) (uE (ao jq) au uT) rfl rfl rfl))) (aL (lN (aY CZReworded (hr.mono ω) nq tR (aj (ao yW) (aj (ao jn) (aj (ao qC) (aj (ao jq) aA rfl) rfl) rfl) rfl) rfl rfl) (Fq (ao jo) (ao lO) uT) rfl rfl rfl)))) (fun _=>rfl))
  (aL (aU (kY kh lD (hB "tuple" gM) boot_tuple gO (aj (ao jo) aA rfl) rfl rfl)))))),?_⟩
 refine aQ fun k hk=>?_;refine dI fun kt ke hkt hke=>?_;have tt:=t;have stay:kt [some x0,some v,some (.str wd),some (.ref c),none,none,none] H:=by
  subst hkt;push_cast;exact q v d i0 H (aV.refl _ _) ec tt ⟨sz,rfl,le_refl _⟩
 cases t with
 | non=>push_cast;exact stay
 | bl b=>push_cast;exact stay
 | int i=>push_cast;exact stay
 | str y=>push_cast;exact stay
 | lst o e z ts=>push_cast [e];exact stay
 | tup o e z ts=>
  rename_i p xs0 ds;push_cast [e];clear stay;subst hke;push_cast;subst hk;have hsd:ds.length<=210*5^0/\kI 0 ds:=sz;have hall:=eO.mp hsd.2;have hlen:=ts.length;have hd0:(PyData.tuple ds).depth=PyData.depthAll ds+1:=PyData.depth.eq_2 ds;refine aQ fun k hk=>?_;push_cast;refine⟨_,.inr (SqT.of e),fun l hl=>?_⟩;have s1:=aq (o:=HO.lst xs0) hl;have okl:=hnw.new hl;obtain⟨ok2,hok2⟩:∃ok2:Addr->Prop,ok2=fun a=>ok a/\a≠l:=⟨_,rfl⟩;have ok2p:∀a,ok2 a->a≠c:=fun a h=>by rw[hok2] at h;exact hok a h.1
  have ok2l:∀a,ok2 a->a≠l:=fun a h=>by rw[hok2] at h;exact h.2
  have lc:l≠c:=hok l okl;have pl:p≠l:=aF e hl;have pc:p≠c:=hok p o;have el1:upd H l (HO.lst xs0) l=some (HO.lst xs0):=aB;have ts1:aH ok2 (upd H l (HO.lst xs0)) xs0 ds:=ts.keep fun a o h e=>by rw[hok2];exact⟨⟨h,aF e hl⟩,s1 _ _ e⟩
  have ec1:=s1 _ _ ec;have e1:=s1 _ _ e;have sx1:aV c H (upd H l (HO.lst xs0)):=s1.x;generalize upd H l (HO.lst xs0)=H1 at s1 el1 ts1 ec1 e1 sx1 |-;subst hk;refine aQ fun k hk=>?_;refine qW fun R hR=>?_;push_cast [sO,zp,e1,Gj];obtain⟨Pv,hPv⟩:∃Pv:Nat->L2.St->Hp->Prop,Pv=fun(i:Nat) σ H'=>∃(vs:List V)(ds':List PyData)(j:Int)(o5 o6:Option V),aV c H H'/\(∀a o,a≠c->a≠l->H1 a=some o->H' a=some o)/\H' c=some (.lst [.int j])/\H' l=some (.lst (vs++xs0.drop i))/\aH ok2 H' vs ds'/\vs.length=i/\(∀x∈ds',szD 0 x/\x.depth<=PyData.depthAll ds)/\aJ ds'=aJ (ds.take i) /\
   σ=[some x0,some (.ref p),some (.str wd),some (.ref c),some (.ref l),o5,o6]:=⟨_,rfl⟩
  refine zP hR xs0.length Pv (by rw[hPv];exact⟨[],[],i0,_,_,sx1,fun a o _ _ e=>e,ec1,el1,.nil,rfl,(fun x hx=>nomatch hx),rfl,rfl⟩) ?_ ?_ ?_ ?_
  ·intro i σ H3 hi pv;rw[hPv] at pv;obtain⟨vs,ds',j,o5,o6,_,k3,_⟩:=pv;exact⟨_,_,SqT.of (k3 _ _ pc pl e1),getElem?_eq_getElem hi⟩
  ·intro σ H3 pv;rw[hPv] at pv;obtain⟨vs,ds',j,o5,o6,_,k3,_⟩:=pv;exact⟨_,SqT.of (k3 _ _ pc pl e1),rfl⟩
  ·intro i σ H3 y H4 hi pv yl;rw[hPv] at pv;obtain⟨vs,ds',j,o5,o6,sx3,k3,ec3,el3,t3,vl3,z3,n3,rfl⟩:=pv;obtain⟨q1,x,rfl,hq1,rfl,hx⟩:=yl;have hx:=hx _ (SqT.of (k3 _ _ pc pl e1));obtain⟨dx,hdx,tx⟩:=ts1.get hx;have s4:=aq (o:=HO.tup [V.int (i:Nat),x]) hq1;have eq4:upd H3 q1 (HO.tup [V.int (i:Nat),x]) q1=some (HO.tup [V.int (i:Nat),x]):=aB;have sx4:=sx3.trans s4.x;have k4:∀a o,a≠c->a≠l->H1 a=some o->upd H3 q1 (HO.tup [V.int (i:Nat),x]) a=some o:=fun a o h1 h2 e=>s4 _ _ (k3 a o h1 h2 e);have ec4:=s4 _ _ ec3;have el4:=s4 _ _ el3;have t4:=t3.same s4;generalize upd H3 q1 (HO.tup [V.int (i:Nat),x])=H4 at s4 eq4 sx4 k4 ec4 el4 t4 |-;have tx4:aG ok2 H4 x dx:=tx.keep fun a o h e=>⟨h,k4 a o (ok2p a h) (ok2l a h) e⟩;have dmem:=mem_of_getElem? hdx;have dd:=bJ dmem;have hn4:cY ok2 H4:=fun H' q s' hq=>by
    rw[hok2];refine⟨?_,(aF (s' _ _ el4) hq).symm⟩;refine hnw H q (Same.refl _) ?_;cases eh:H q with
    | none=>rfl
    | some o9=>
     have qc:q≠c:=(aF (s' _ _ ec4) hq).symm;rw[s' _ _ (sx4 q o9 qc eh)] at hq;cases hq
   push_cast [eq4];have hty:∃tn,tyN x H4=some tn/\(d9 tn "str" = true->∃y,x=.str y/\dx=.str y):=by
    cases tx4 with
    | non=>exact⟨_,rfl,fun z=>absurd z δ⟩
    | bl b=>exact⟨_,rfl,fun z=>absurd z δ⟩
    | int i=>exact⟨_,rfl,fun z=>absurd z δ⟩
    | lst o e z ts=>exact⟨"list",by show tyO _=_;rw[e];rfl,fun z=>absurd z δ⟩
    | tup o e z ts=>exact⟨"tuple",by show tyO _=_;rw[e];rfl,fun z=>absurd z δ⟩
    | str y=>exact⟨_,rfl,fun _=>⟨y,rfl,rfl⟩⟩
   obtain⟨tn,htn,hst⟩:=hty;refine⟨tn,htn,?_⟩;split
   ·rename_i hs;obtain⟨y,rfl,rfl⟩:=hst hs;push_cast [ec4];have B:∀(z:Str),okS 0 z->Pv (i+1) [some x0,some (.ref p),some (.str wd),some (.ref c),some (.ref l),some (V.int (i:Nat)),some (.str y)] (upd (upd H4 l (HO.lst (vs++[.str z]++xs0.drop (i+1)))) c (HO.lst [.int (j-1)])):=fun z hz=>by
     rw[hPv];refine⟨vs++[.str z],ds'++[.str z],j-1,_,_,(kO sx4 hl).trans aV.upd,fun a o h1 h2 e=>by rw[aO h1,aO h2];exact k4 a o h1 h2 e,aB,(aO lc).trans aB,(t4.append (.cons (.str z) .nil)).keep fun a o h e=>⟨h,by rw[aO (ok2p a h),aO (ok2l a h)];exact e⟩,by rw[length_append,vl3];rfl,fun x hx=>?_,?_,rfl⟩
     ·rcases mem_append.mp hx with h|h
      ·exact z3 x h
      rw[mem_singleton.mp h];exact⟨hz,zero_le _⟩
     rw[bD,n3,cQ hdx];rfl
    have ix0:ixN (vs++xs0.drop i).length (i:Int)=some i:=ou (natCast_nonneg i) (by rw[length_append,length_drop,vl3];omega);have cc:∀(zs:List V),upd H4 l (HO.lst zs) c=some (HO.lst [V.int j]):=fun zs=>(aO lc.symm).trans ec4;split
    ·push_cast [el4,cc];refine⟨i,ix0,?_⟩;rw[yC vl3 hi];exact⟨0,rfl,B wd hw⟩
    push_cast [el4,cc];refine⟨i,ix0,?_⟩;rw[yC vl3 hi];exact⟨0,rfl,B y (hall _ dmem)⟩
   refine⟨x0,x,dx,wd,c,j,ok2,rfl,ec4,hn4,ok2p,tx4,hall dx dmem,hw,ω,fun v5 d5 j5 H5 s5 ec5 t5 r5=>?_⟩;have el5:=s5 _ _ lc el4;push_cast [el5];refine⟨i,ou (natCast_nonneg i) (by rw[length_append,length_drop,vl3];omega),?_⟩;rw[yC vl3 hi];show Pv _ _ _;rw[hPv];refine⟨vs++[v5],ds'++[d5],j5,_,_,kO (sx4.trans s5) hl,fun a o h1 h2 e=>by rw[aO h2];exact s5 _ _ h1 (k4 a o h1 h2 e),(aO lc.symm).trans ec5,aB,((t4.lJ ok2p s5).append (.cons t5 .nil)).keep fun a o h e=>⟨h,by rw[aO (ok2l a h)];exact e⟩,by rw[length_append,vl3];rfl,fun x hx=>?_,?_,rfl⟩
   ·rcases mem_append.mp hx with h|h
    ·exact z3 x h
    rw[mem_singleton.mp h];exact⟨r5.sz,le_trans r5.dp dd⟩
   rw[bD,n3,cQ hdx,aJ,aJ,r5.nd];rfl
  intro σ H3 pv;rw[hPv] at pv;obtain⟨vs,ds',j,o5,o6,sx3,k3,ec3,el3,t3,vl3,z3,n3,rfl⟩:=pv;show k _ _;subst hk;rw[List.drop_length,append_nil] at el3;have tl:=t3.length;push_cast;refine⟨_,.inl ⟨SqL.of el3,fun l9 hl9=>?_⟩⟩;have s9:=aq (o:=HO.tup vs) hl9;have ok9:ok l9:=by
   refine hnw H l9 (Same.refl _) ?_;cases eh:H l9 with
   | none=>rfl
   | some o9=>
    rw[sx3 l9 o9 (aF ec3 hl9).symm eh] at hl9;cases hl9
  have dl:=cX fun x hx=>(z3 x hx).2;refine q _ (.tuple ds') j _ (sx3.trans s9.x) (s9 _ _ ec3) (.tup ok9 aB ω ((t3.same s9).keep fun a o h e=>⟨by rw[hok2] at h;exact h.1,e⟩)) ⟨⟨ω,eO.mpr fun x hx=>(z3 x hx).1⟩,?_,?_⟩
  ·rw[hlen,take_length] at n3;show 1+aJ ds'=1+aJ ds;rw[n3]
  rw[hd0,PyData.depth.eq_2];omega
theorem JT:dM P w K mg base CX0 0 f fd q1_ (xj 0):=by
 have no:∀vs H Q E,¬xj 0 vs H Q E:=fun vs H Q E h=>by
  obtain⟨_,_,_,_,_,_,_,_,_,_,_,_,_,_,h1,_⟩:=h;omega
 exact⟨fun vs H Q E h=>absurd h (no vs H Q E),fun A outer s H args us vs Q E _ _ _ _ h=>absurd h (no vs H Q E)⟩
noncomputable abbrev gq:List Str:=["_law_tape_here","_law_stretches_here","_law_left","_law_labels","_law_way","_law_at","_law_rest","_law_others","_law_single","_law_sort","_law_one"]
noncomputable abbrev cG:Stmt:=top 17
theorem iY:bW gq q3_ (ak cG):=⟨rfl,rfl,rfl,ψ,rfl,ψ,ψ⟩
theorem jf:NM_ gq cG 0 "_law_tape_here" := .of ψ
theorem iD:NM_ gq cG 1 "_law_stretches_here" := .of ψ
theorem fD:NM_ gq cG 2 "_law_left" := .of ψ
theorem qF:NM_ gq cG 3 "_law_labels" := .of ψ
theorem m7:NM_ gq cG 4 "_law_way" := .of ψ
theorem jM:NM_ gq cG 5 "_law_at" := .of ψ
theorem Bv:NM_ gq cG 6 "_law_rest" := .of ψ
theorem vg:NM_ gq cG 7 "_law_others" := .of ψ
theorem Bu:NM_ gq cG 8 "_law_single" := .of ψ
theorem Bt:NM_ gq cG 9 "_law_sort" := .of ψ
theorem xO:NM_ gq cG 10 "_law_one" := .of ψ
theorem ju:GI_ cG "_law_plan" := by decide +kernel
theorem qR:GI_ cG "_law_span" := by decide +kernel
theorem jt:GI_ cG "_law_take" := by decide +kernel
theorem Ec:GI_ cG "int" := by decide +kernel
theorem pR:GI_ cG "len" := by decide +kernel
theorem Eb:GI_ cG "max" := by decide +kernel
theorem Ea:GI_ cG "min" := by decide +kernel
theorem rm:Bn "_law_plan" := ⟨ψ,ψ⟩
theorem Hq:dM P w K mg base CX0 2 f fd q3_ (nO 0):=by
 have no:∀vs H Q E,¬nO 0 vs H Q E:=fun vs H Q E h=>by
  obtain⟨p,s,l,B,ss,left,_,_,_,_,_,_,lf,h0,_⟩:=h;exact lf.ne (List.eq_nil_of_length_eq_zero ω)
 exact⟨fun vs H Q E h=>absurd h (no vs H Q E),fun A outer s H args us vs Q E _ _ _ _ h=>absurd h (no vs H Q E)⟩
theorem Qd {n:Nat}(hB:∀x:Str,x∈BLs->mg x=none) (CZTake:Cal P w K mg base "_law_take" 2 q0_ (jF 2)) (CZSpan:Cal P w K mg base "_law_span" 1 q9_ mK) (CZPlan:Cal P w K mg base "_law_plan" (n+2) q3_ (nO n)) (F:Fun K "_law_plan" "_law_plan" cG f fd):dM P w K mg base CX0 (n+3) f fd q3_ (nO (n+1)):=by
 refine F.okq iY (fun vs H Q E h=>?_) (fun cdv A outer s H vs Q E hr h=>?_)
 ·obtain⟨p,s,l,B,ss,left,rfl,_⟩:=h;rfl
 obtain⟨p,s,l,B,ss,left,rfl,tp,hB0,hB1,ts,tl,lf,hn1,h60,q⟩:=h;refine⟨_,(aD (ux (NX:=gq) (kX:=(ak cG).names) ["_law_k","_law_stretches_here"] [none,some 1] qF iY.nd rfl rfl ⟨rfl,ψ,ψ,ψ,ψ⟩ rfl (eG (ao fD)) (fun _ _ _ _ _=>(eZ 0 (show List.Nodup (["_law_k","_law_stretches_here"]:List Str) from by decide +kernel) rfl (Or.inl rfl))) (fun _ _ _ _ _=>yP) (fun _ _ _ _ _=>(aN bA (aN bA (bT 1) (bT 0) (fun _ _=>rfl)) au (fun _ _=>rfl))))
  (aD (lN (cN (aj (aY CZTake (hr.mono ω) jt bV (aj (ao jf) (aj au aA rfl) rfl) rfl rfl) (aj (aN bA (ao fD) (aY CZTake (hr.mono ω) jt bV (aj (ao jf) (aj (bO bx pR (hB "len" cR) PySem.boot_len cT (aj (ao fD) aA rfl) rfl rfl) aA rfl) rfl) rfl rfl) (fun _ _=>rfl)) aA rfl) rfl)) (yO (n:=2) rfl (je (jX m7 iY.nd (.inl rfl)) (je (jX jM iY.nd (.inl rfl)) uD rfl) rfl) rfl rfl) rfl rfl rfl)
  (aD (cg (mR (pD (aW (bY hr.aZ) (bO (IV rfl) Ea (hB "min" Lr) boot_min MT (aj (ao qF) aA rfl) rfl rfl) (bO (Jb rfl) Eb (hB "max" Ls) boot_max M4 (aj (ao qF) aA rfl) rfl rfl) (aM _)) (nT (mR (jH (aW (bY hr.aZ) (bO bx pR (hB "len" cR) PySem.boot_len cT (aj (ao fD) aA rfl) rfl rfl) au (aM _)) (jG (aW KY (ao m7) au (aM _)))))))) (aL (aU (cN (aj bM (aj (aN bA (ao qF) au (fun _ _=>rfl)) aA rfl) rfl)))) bF)
  (aD (ux (NX:=gq) (kX:=(ak cG).names) ["_law_k","_law_at"] [none,some 5] Bv iY.nd rfl rfl ⟨rfl,ψ,ψ,ψ,ψ⟩ rfl (eG (ao fD)) (fun _ _ _ _ _=>(eZ 0 (show List.Nodup (["_law_k","_law_at"]:List Str) from by decide +kernel) rfl (Or.inl rfl))) (fun _ _ _ _ _=>(jJ (aW (iz hr.aZ) (bT 0) (bT 1) (aM _)))) (fun _ _ _ _ _=>(bT 0)))
  (aD (cg (mR (pD (aW (bY hr.aZ) (ao m7) au (aM _)) (nT (aW Bh (aY CZSpan (hr.mono ω) qR uJ (aj (ao iD) (aj (ao fD) aA rfl) rfl) rfl rfl) au (aM _))))) (aL (aU (cN (aj bM aA rfl)))) bF)
  (aD (ux (NX:=gq) (kX:=(ak cG).names) ["_law_k","_law_stretches_here","_law_at"] [none,some 1,some 5] vg iY.nd rfl rfl ⟨rfl,ψ,ψ,ψ,ψ⟩ rfl (eG (ao fD)) (fun _ _ _ _ _=>(eZ 0 (show List.Nodup (["_law_k","_law_stretches_here","_law_at"]:List Str) from by decide +kernel) rfl (Or.inl rfl))) (fun _ _ _ _ _=>(jJ (aW (iz hr.aZ) (aN bA (aN bA (bT 1) (bT 0) (fun _ _=>rfl)) au (fun _ _=>rfl)) (aN bA (aN bA (bT 1) (bT 2) (fun _ _=>rfl)) au (fun _ _=>rfl)) (aM _)))) (fun _ _ _ _ _=>(bT 0)))
  (aD (cg (mR (pD (aW jK (ao m7) au (aM _)) (pD (aW (iz hr.aZ) (ao vg) (cB aA) (aM _)) (nT (aW Bh (aY CZSpan (hr.mono ω) qR uJ (aj (ao iD) (aj (ao fD) aA rfl) rfl) rfl rfl) au (aM _)))))) (aL (aU (cN (aj bM (aj (aN bA (aN bA (ao iD) (ao jM) (fun _ _=>rfl)) au (fun _ _=>rfl)) (aj (aY CZPlan (hr.mono ω) ju rm (aj (ao jf) (aj (ao iD) (aj (ao vg) aA rfl) rfl) rfl) rfl rfl) aA rfl) rfl) rfl)))) bF)
  (aD (cg (aW jK (ao m7) au (aM _)) (aD (bR Bu iY.nd (kY qb Ec (hB "int" sI) boot_int sZ (aj (fU (bY hr.aZ) (aN bA (aN bA (ao iD) (ao jM) (fun _ _=>rfl)) au (fun _ _=>rfl)) (aN bA (aN bA (ao iD) (ao jM) (fun _ _=>rfl)) au (fun _ _=>rfl)) (aM _)) aA rfl) rfl rfl) rfl (.inl rfl))
  (aD (bR Bt iY.nd (aN bA (cB (aj bM (aj bM aA rfl) rfl)) (aR iB (ao Bu) (aY CZTake (hr.mono ω) jt bV (aj (ao jf) (aj au aA rfl) rfl) rfl rfl)) (fun _ _=>rfl)) rfl (.inl rfl))
  (aL (aU (cN (aj (ao Bt) (aj (ao jM) (aj (aY CZPlan (hr.mono ω) ju rm (aj (ao jf) (aj (ao iD) (aj (ao Bv) aA rfl) rfl) rfl) rfl rfl) aA rfl) rfl) rfl)))))) bF)
  (aD (bR jM iY.nd (aN bA (cj rK (ao fD) (cH au) cV) (aY CZTake (hr.mono ω) jt bV (aj (ao jf) (aj (aR iT (bO bx pR (hB "len" cR) PySem.boot_len cT (aj (ao fD) aA rfl) rfl rfl) au) aA rfl) rfl) rfl rfl) (fun _ _=>rfl)) rfl (.inl rfl))
  (aD (bR xO iY.nd (aY CZPlan (hr.mono ω) ju rm (aj (ao jf) (aj (ao iD) (aj (iw (NX:=gq) (kX:=(ak cG).names) ["_law_k","_law_at"] [none,some 5] rfl rfl ⟨rfl,ψ,ψ,ψ,ψ⟩ rfl (eG (ao fD)) (fun _ _ _ _ _=>(eZ 0 (show List.Nodup (["_law_k","_law_at"]:List Str) from by decide +kernel) rfl (Or.inl rfl))) (fun _ _ _ _ _=>(jJ (aW jK (bT 0) (bT 1) (aM _)))) (fun _ _ _ _ _=>(bT 0))) aA rfl) rfl) rfl) rfl rfl) rfl (.inl rfl))
  (aL (aU (cN (aj bM (aj (ao jM) (aj (ao xO) (aj (aY CZPlan (hr.mono ω) ju rm (aj (ao jf) (aj (ao iD) (aj (iw (NX:=gq) (kX:=(ak cG).names) ["_law_k","_law_at"] [none,some 5] rfl rfl ⟨rfl,ψ,ψ,ψ,ψ⟩ rfl (eG (ao fD)) (fun _ _ _ _ _=>(eZ 0 (show List.Nodup (["_law_k","_law_at"]:List Str) from by decide +kernel) rfl (Or.inl rfl))) (fun _ _ _ _ _=>(jJ (aW KZ (bT 0) (bT 1) (aM _)))) (fun _ _ _ _ _=>(bT 0))) aA rfl) rfl) rfl) rfl rfl) aA rfl) rfl) rfl) rfl)))))))))))))),?_⟩
 obtain⟨la,rfl,okl,el,ll⟩:=tl.left;replace el:H la=some (.lst (nv left)):=el;cases ts with
 | lst os es zs tss=>
  rename_i sa xs;refine aQ fun k hk=>?_;push_cast;refine fB fun R hR=>?_;push_cast [el];refine oH (fun k=>(bU ss k).2.2) (fun τ=>∃o0,τ=[o0,some (.ref sa)]) hR el ll ⟨_,rfl⟩ ?_ ?_
  ·rintro i k' τ acc Pn hk' ⟨o0,rfl⟩ h1;obtain⟨sk,x1,y1⟩:=tss.stN (lf.lt _ (mem_of_getElem? hk'));push_cast [es,x1,y1];exact h1 _ ⟨_,rfl⟩
  intro d hd;have s1:=aq (o:=HO.lst ((left.map fun k=>(bU ss k).2.2).map V.int)) hd;have ed:upd H d (HO.lst ((left.map fun k=>(bU ss k).2.2).map V.int)) d=_:=aB;have nd:=tp.ne hd;have tp1:=tp.same s1;have el1:=s1 _ _ el;have es1:=s1 _ _ es;have tss1:=tss.same s1;generalize upd H d (HO.lst ((left.map fun k=>(bU ss k).2.2).map V.int))=H1 at s1 ed tp1 el1 es1 tss1 |-;subst hk;refine aQ fun k hk=>?_;push_cast;refine⟨p,8,B,rfl,tp1,by show B+2<=1000100;omega,δ,δ,δ,fun z=>absurd z δ,fun way H2 w0 w1 s2 tp2=>?_⟩;have el2:=s2 _ _ okl el1;push_cast [el2,fO];have hpos:0<left.length:=length_pos_iff.mpr lf.ne;refine⟨p,left.length,B+2,rfl,tp2,by show B+2+2<=1000100;omega,ω,ω,δ,fun z=>absurd z ω,fun r3 H3 r30 r31 s3 tp3=>?_⟩;obtain⟨at0,hat,mat,aat⟩:=Rr r30 r31;have el3:=s3 _ _ okl el2;push_cast [el3,aat];refine⟨aX δ,fun t4 ht4=>?_⟩;have s4:=aq (o:=HO.tup [V.int way,V.int (at0:Int)]) ht4;have tp4:=tp3.same s4;have el4:=s4 _ _ el3;have ed4:=s4 _ _ (s3 _ _ nd (s2 _ _ nd ed));have es4:=s4 _ _ (s3 _ _ os (s2 _ _ os es1));have tss4:=((tss1.cU s2).cU s3).same s4;have sx4:aV p H _:=((s1.x.trans s2).trans s3).trans s4.x;generalize upd H3 t4 (HO.tup [V.int way,V.int (at0:Int)])=H4 at s4 tp4 el4 ed4 es4 tss4 sx4 |-;replace tp4:aP H4 p (B+4):=tp4.le (by show B+2+2<=B+4;omega);clear tp1 tp2 tp3 s1 s2 s3 s4 el1 el2 el3 es1 tss1 ht4;subst hk;refine aQ fun k hk=>?_;push_cast [ed4];have hpick:∀(a:Addr)(l:Int),(∀k∈left,lbl ss k=l)->H4 a=none->Q (.ref a) (upd H4 a (.tup [.str "pick",.int l])):=fun a l hl ha=>
   q _ (.pick l) _ (sx4.trans (aq ha).x) ((tp4.same (aq ha)).le ω) (.tup (tp4.ne ha) aB (by show 2<=1000000;decide) (.cons (.str _) (.cons (.int _) .nil))) ⟨lf,hl⟩ hpos (by show 1+1<=2*left.length;omega)
  obtain⟨l0,hl0,ml0⟩:∃l,atI ((left.map fun k=>(bU ss k).2.2).map V.int) 0=some (.int l)/\l∈(left.map fun k=>(bU ss k).2.2):=by
   cases hle:left with
   | nil=>exact absurd hle lf.ne
   | cons a l=>exact⟨_,dw (j:=0) (show(_::_)[0]?=_ from rfl),mem_cons_self⟩
  suffices go:2<=left.length->k [some (V.ref p),some (V.ref sa),some (V.ref la),some (V.ref d),some (V.int way),some (V.int (at0:Int)),none,none,none,none,none] H4 by
   refine⟨_,.inl ed4,fun z=>lf.ne (List.map_eq_nil_iff.mp z),fun M hM lM=>⟨_,.inl ed4,fun z=>lf.ne (List.map_eq_nil_iff.mp z),fun M1 hM1 lM1=>?_⟩⟩;by_cases c1:M=M1
   ·rw[if_pos c1];have hsame:∀k∈left,lbl ss k=l0:=by
     have all:∀x∈(left.map fun k=>(bU ss k).2.2),x=M:=fun x hx=>by
      have:=lM x hx;have:=lM1 x hx;omega
     have h0:l0=M:=all _ ml0;exact fun k hk=>(all _ (mem_map.mpr ⟨k,hk,rfl⟩)).trans h0.symm
    push_cast [el4,fO];by_cases c2:(left.length:Int)=1
    ·rw[if_pos c2];push_cast [ed4,hl0];exact⟨aX δ,fun a ha=>hpick a l0 hsame ha⟩
    rw[if_neg c2];by_cases c3:0<way
    ·rw[if_pos c3];push_cast [ed4,hl0];exact⟨aX δ,fun a ha=>hpick a l0 hsame ha⟩
    rw[if_neg c3];exact go ω
   rw[if_neg c1];refine go ?_
   match left,hM,hM1,hpos with
   | [a],hM,hM1,_=>
    rw[map_cons,map_nil,mem_singleton] at hM hM1;exact absurd (hM.trans hM1.symm) c1
   | a::b::l,_,_,_=>exact Nat.le_add_left 2 _
  intro h2;clear hpick hl0 ml0 l0 ed4 hd nd ed;subst hk;refine aQ fun k hk=>?_;push_cast;refine fB fun R2 hR2=>?_;push_cast [el4];refine dB (·≠at0) (fun τ=>∃o0,τ=[o0,some (.int (at0:Int))]) hR2 el4 ll ⟨_,rfl⟩ ?_ ?_
  ·rintro i k' τ acc Pn hk' ⟨o0,rfl⟩ h1 h2;push_cast;by_cases c:k'=at0
   ·subst c;rw[decide_eq_true (show((k':Nat):Int)=(k':Int) from rfl),Bool.not_true,if_neg δ];exact h2 (by simp) _ ⟨_,rfl⟩
   rw[decide_eq_false (show ¬((k':Nat):Int)=(at0:Int) by omega),Bool.not_false,if_pos rfl];exact h1 (by simpa using c) _ ⟨_,rfl⟩
  intro d5 hd5;have s5:=aq (o:=HO.lst (nv (left.filter (·≠at0)))) hd5;have ok5:=tp4.ne hd5;have tp5:=tp4.same s5;have el5:=s5 _ _ el4;have es5:=s5 _ _ es4;have tss5:=tss4.same s5;have sx5:=sx4.trans s5.x;have e5:upd H4 d5 (HO.lst (nv (left.filter (·≠at0)))) d5=_:=aB;generalize upd H4 d5 (HO.lst (nv (left.filter (·≠at0))))=H5 at s5 tp5 el5 es5 tss5 sx5 e5 |-;clear tp4 el4 es4 tss4 sx4 hd5 s5;subst hk;refine aQ fun k hk=>?_;push_cast;have tS5:aG (·≠p) H5 (.ref sa) (.list (ss.map stD)):=.lst os es5 zs tss5;have tL5:aG (·≠p) H5 (.ref la) (lA left):=b7 okl el5 ll
  suffices go:k [some (V.ref p),some (V.ref sa),some (V.ref la),some (V.ref d),some (V.int way),some (V.int (at0:Int)),some (V.ref d5),none,none,none,none] H5 by
   by_cases c1:way=1
   ·rw[if_pos c1];refine⟨_,_,_,ss,left,rfl,tS5,tL5,lf,_,rfl,?_⟩;by_cases c2:iJ ss left<=200
    ·rw[if_pos c2];refine⟨aX δ,fun a ha=>?_⟩;exact q _ .tab _ (sx5.trans (aq ha).x) ((tp5.same (aq ha)).le ω) (.tup (tp5.ne ha) aB (by show 1<=1000000;decide) (.cons (.str _) .nil)) ⟨lf,c2⟩ hpos (by show 1+1<=2*left.length;omega)
    rw[if_neg c2];exact go
   rw[if_neg c1];exact go
  subst hk;refine aQ fun k hk=>?_;push_cast;refine fB fun R3 hR3=>?_;push_cast [el5];obtain⟨pat,xat,yat⟩:=tss5.stN (lf.lt _ mat);refine dB (fun k=>(bU ss k).2.2≠(bU ss at0).2.2) (fun τ=>∃o0,τ=[o0,some (.ref sa),some (.int (at0:Int))]) hR3 el5 ll ⟨_,rfl⟩ ?_ ?_
  ·rintro i k' τ acc Pn hk' ⟨o0,rfl⟩ h1 h2;obtain⟨sk,x1,y1⟩:=tss5.stN (lf.lt _ (mem_of_getElem? hk'));push_cast [es5,x1,y1,xat,yat];by_cases c:(bU ss k').2.2=(bU ss at0).2.2
   ·rw[decide_eq_true c,Bool.not_true,if_neg δ];exact h2 (by simpa using c) _ ⟨_,rfl⟩
   rw[decide_eq_false c,Bool.not_false,if_pos rfl];exact h1 (by simpa using c) _ ⟨_,rfl⟩
  intro d6 hd6;have s6:=aq (o:=HO.lst (nv (left.filter fun k=>(bU ss k).2.2≠(bU ss at0).2.2))) hd6;have ok6:=tp5.ne hd6;have tp6:=tp5.same s6;have el6:=s6 _ _ el5;have es6:=s6 _ _ es5;have tss6:=tss5.same s6;have sx6:=sx5.trans s6.x;have e56:=s6 _ _ e5;have tS6:=tS5.same s6;have tL6:=tL5.same s6;have yat6:=s6 _ _ yat;have e6:upd H5 d6 (HO.lst (nv (left.filter fun k=>(bU ss k).2.2≠(bU ss at0).2.2))) d6=_:=aB;generalize upd H5 d6 (HO.lst (nv (left.filter fun k=>(bU ss k).2.2≠(bU ss at0).2.2)))=H6 at s6 tp6 el6 es6 tss6 sx6 e56 tS6 tL6 yat6 e6 |-;clear tp5 el5 es5 tss5 sx5 hd6 e5 tS5 tL5 s6 yat;subst hk;refine aQ fun k hk=>?_;push_cast
  suffices go:∀H7,Same H6 H7->k [some (V.ref p),some (V.ref sa),some (V.ref la),some (V.ref d),some (V.int way),some (V.int (at0:Int)),some (V.ref d5),some (V.ref d6),none,none,none] H7 by
   by_cases c1:way<4
   ·rw[if_pos c1];refine⟨aX δ,fun a ha=>?_⟩;have s7:=aq (o:=HO.lst []) ha;have e7:=s7 _ _ e6;have tS7:=tS6.same s7;have tL7:=tL6.same s7;have es7:=s7 _ _ es6;have yat7:=s7 _ _ yat6;have tp7:=tp6.same s7;have go:=go _ s7;have sx7:=sx6.trans s7.x;generalize upd H6 a (HO.lst [])=H7 at s7 e7 tS7 tL7 es7 yat7 tp7 go sx7 |-;push_cast [e7];refine⟨jZ _,rfl,?_⟩;have hlt:(left.filter fun k=>(bU ss k).2.2≠(bU ss at0).2.2).length<left.length:=Gn mat (by simp);by_cases c2:left.filter (fun k=>(bU ss k).2.2≠(bU ss at0).2.2)=[]
    ·rw[c2,if_neg δ];exact go
    rw[T7 c2,Bool.not_false,if_pos rfl];have lfo:=lf.QV c2;generalize hO:left.filter (fun k=>(bU ss k).2.2≠(bU ss at0).2.2)=others at hlt lfo e7 c2;refine⟨_,_,_,ss,left,rfl,tS7,tL7,lf,_,rfl,?_⟩;by_cases c3:iJ ss left<=64
    ·rw[if_pos c3];push_cast [es7,xat,yat7];refine⟨p,_,_,B+4,ss,others,rfl,tp7,ω,ω,tS7,b7 ok6 e7 ω,lfo,ω,ω,fun v pl H8 s8 tp8 t8 pok8 dep8 siz8=>?_⟩;refine⟨aX δ,fun a8 ha8=>?_⟩;have s9:=aq (o:=HO.tup [V.str "mask",V.int (bU ss at0).2.2,v]) ha8;refine q _ (.msk (bU ss at0).2.2 pl) _ ((sx7.trans s8).trans s9.x) ((tp8.same s9).le ω) (.tup (tp8.ne ha8) aB (by show 3<=1000000;decide) (.cons (.str _) (.cons (.int _) (.cons (t8.same s9) .nil)))) ⟨⟨lf,c3,at0,mat,rfl⟩,?_⟩ (by show mX pl+1<left.length;omega) (by show j8 pl+1+1<=2*left.length;omega);rw[hO];exact pok8
    rw[if_neg c3];exact go
   rw[if_neg c1];exact go _ (Same.refl _)
  intro H7 s7;have e7:=s7 _ _ e56;have tS7:=tS6.same s7;have tL7:=tL6.same s7;have es7:=s7 _ _ es6;have el7:=s7 _ _ el6;have yat7:=s7 _ _ yat6;have tp7:=tp6.same s7;have sx7:=sx6.trans s7.x;have tss7:=tss6.same s7;clear e56 tS6 tL6 es6 el6 yat6 tp6 sx6 e6 s7 tss6;subst hk;refine aQ fun k hk=>?_;refine dI fun kt ke hkt hke=>?_;push_cast;by_cases c1:way<6
  ·rw[if_pos c1];subst hkt;refine aQ fun k2 hk2=>?_;push_cast [es7,xat,yat7];obtain⟨sg,hsg,sg0,sg1⟩:∃sg:Int,sg=(if (bU ss at0).1=(bU ss at0).2.1 then 1 else 0)/\0<=sg/\sg<=1:=by
    refine⟨_,rfl,?_,?_⟩ <;> split <;> decide
   rw[<- hsg];subst hk2;refine aQ fun k2 hk2=>?_;push_cast;refine⟨aX δ,fun a8 ha8=>?_⟩;have s8:=aq (o:=HO.lst [V.str "within",V.str "is"]) ha8;have n8:=tp7.ne ha8;have tp8:=tp7.same s8;have e8:upd H7 a8 (HO.lst [V.str "within",V.str "is"]) a8=_:=aB;generalize upd H7 a8 (HO.lst [V.str "within",V.str "is"])=H8 at s8 tp8 e8 |-;refine⟨p,2,B+4,rfl,tp8,by show B+4+2<=1000100;omega,δ,δ,δ,fun z=>absurd z δ,fun r9 H9 r90 r91 s9 tp9=>?_⟩;have e9:=s9 _ _ n8 e8;push_cast;obtain⟨wd,hwd,awd⟩:∃wd:Str,(wd = "within" \/ (wd = "is" /\ sg=1))/\atI [V.str "within",V.str "is"] (sg*r9)=some (.str wd):=by
    clear hsg;have:sg=0\/sg=1:=by omega
    rcases this with rfl|rfl
    ·rw[Int.zero_mul];exact⟨"within",.inl rfl,rfl⟩
    rw[Int.one_mul];have:r9=0\/r9=1:=by omega
    rcases this with rfl|rfl
    ·exact⟨"within",.inl rfl,rfl⟩
    exact⟨"is",.inr ⟨rfl,rfl⟩,rfl⟩
   refine⟨.inl ⟨ω,ω⟩,?_⟩;push_cast [e9,awd];subst hk2;push_cast;have s79:=s8.x.trans s9;have lfr:=lf.rest h2 at0;have hlt:(left.filter (·≠at0)).length<left.length:=Gn mat (by simp);have e79:=s79 _ _ ok5 e7;refine⟨p,_,_,B+6,ss,left.filter (·≠at0),rfl,tp9.le (by show B+4+2<=B+6;omega),ω,ω,tS7.cU s79,b7 ok5 e79 ω,lfr,ω,ω,fun v pl H10 s10 tp10 t10 pok10 dep10 siz10=>?_⟩;refine⟨aX δ,fun a11 ha11=>?_⟩;have s11:=aq (o:=HO.tup [V.str wd,V.int (at0:Int),v]) ha11;have sxf:=((sx7.trans s79).trans s10).trans s11.x;rcases hwd with rfl|⟨rfl,hs1⟩
   ·exact q _ (.wit at0 pl) _ sxf ((tp10.same s11).le ω) (.tup (tp10.ne ha11) aB (by show 3<=1000000;decide) (.cons (.str _) (.cons (.int _) (.cons (t10.same s11) .nil)))) ⟨⟨lf,mat⟩,pok10⟩ (by show mX pl+1<left.length;omega) (by show j8 pl+1+1<=2*left.length;omega)
   exact q _ (.one at0 pl) _ sxf ((tp10.same s11).le ω) (.tup (tp10.ne ha11) aB (by show 3<=1000000;decide) (.cons (.str _) (.cons (.int _) (.cons (t10.same s11) .nil)))) ⟨⟨lf,mat,(by rw[hs1] at hsg;split at hsg;assumption;cases hsg)⟩,pok10⟩ (by show mX pl+1<left.length;omega) (by show j8 pl+1+1<=2*left.length;omega)
  rw[if_neg c1];subst hke;push_cast;subst hk;refine aQ fun k hk=>?_;push_cast [el7];intro a8 ha8;have hcut:lG (nv left) (some 1) none=nv (left.drop 1):=by
   have:=Ck (nv left) 1 (by rw[fO];omega);rw[show((1:Nat):Int)=1 from rfl] at this;rw[this];unfold nv;rw[map_drop]
  rw[hcut];have s8:=aq (o:=HO.lst (nv (left.drop 1))) ha8;have n8:=tp7.ne ha8;have tp8:=tp7.same s8;have el8:=s8 _ _ el7;have tS8:=tS7.same s8;have sx8:=sx7.trans s8.x;have e8:upd H7 a8 (HO.lst (nv (left.drop 1))) a8=_:=aB;generalize upd H7 a8 (HO.lst (nv (left.drop 1)))=H8 at s8 tp8 e8 el8 tS8 sx8 |-;push_cast [el8,fO];refine⟨p,(left.length:Int)-1,B+4,rfl,tp8,by show B+4+2<=1000100;omega,ω,ω,δ,fun z=>absurd z ω,fun r9 H9 r90 r91 s9 tp9=>?_⟩;have e9:=s9 _ _ n8 e8;have el9:=s9 _ _ okl el8;have tS9:=tS8.cU s9;have sx9:=sx8.trans s9;obtain⟨at1,hat1,_,aat1⟩:=Rr (left:=left.drop 1) r90 (by rw[length_drop];omega);rw[List.getElem?_drop,add_comm] at hat1;obtain⟨mat1,lfa,lfb⟩:=lf.cuts hat1;have h2l:=Cd at1 left;have hla:=length_pos_iff.mpr lfa.ne;have hlb:=length_pos_iff.mpr lfb.ne;push_cast [e9,aat1];clear s8 tp8 e8 el8 tS8 sx8 sx7 tp7 tss7 es7 el7 tS7 tL7 e7;subst hk;refine aQ fun k hk=>?_;push_cast;refine fB fun R4 hR4=>?_;push_cast [el9];refine dB (· < at1) (fun τ=>∃o0,τ=[o0,some (.int (at1:Int))]) hR4 el9 ll ⟨_,rfl⟩ ?_ ?_
  ·rintro i k' τ acc Pn hk' ⟨o0,rfl⟩ h1 h2;push_cast;by_cases c:k'<at1
   ·rw[if_pos (show((k':Nat):Int)<(at1:Int) by omega)];exact h1 (by simpa using c) _ ⟨_,rfl⟩
   rw[if_neg (show ¬((k':Nat):Int)<(at1:Int) by omega)];exact h2 (by simpa using c) _ ⟨_,rfl⟩
  intro d10 hd10;have s10:=aq (o:=HO.lst (nv (left.filter (· < at1)))) hd10;have ok10:=tp9.ne hd10;have e10:upd H9 d10 (HO.lst (nv (left.filter (· < at1)))) d10=_:=aB;have tp10:=tp9.same s10;have tS10:=tS9.same s10;have el10:=s10 _ _ el9;have sx10:=sx9.trans s10.x;generalize upd H9 d10 (HO.lst (nv (left.filter (· < at1))))=H10 at s10 e10 tp10 tS10 el10 sx10 |-;generalize hA:left.filter (· < at1)=LA at lfa h2l hla e10;generalize hBq:left.filter (at1<=·)=LB at lfb h2l hlb;refine⟨p,_,_,B+6,ss,LA,rfl,tp10.le (by show B+4+2<=B+6;omega),ω,ω,tS10,b7 ok10 e10 ω,lfa,ω,ω,fun v1 pl1 H11 s11 tp11 t11 pok11 dep11 siz11=>?_⟩;have el11:=s11 _ _ okl el10;have tS11:=tS10.cU s11;have sx11:=sx10.trans s11;clear s10 e10 tp10 tS10 el10 sx10 sx9 tS9 el9 tp9 e9;subst hk;push_cast;refine fB fun R5 hR5=>?_;push_cast [el11];refine dB (at1<=·) (fun τ=>∃o0,τ=[o0,some (.int (at1:Int))]) hR5 el11 ll ⟨_,rfl⟩ ?_ ?_
  ·rintro i k' τ acc Pn hk' ⟨o0,rfl⟩ h1 h2;push_cast;by_cases c:at1<=k'
   ·rw[if_pos (show(at1:Int)<=((k':Nat):Int) by omega)];exact h1 (by simpa using c) _ ⟨_,rfl⟩
   rw[if_neg (show ¬(at1:Int)<=((k':Nat):Int) by omega)];exact h2 (by simpa using c) _ ⟨_,rfl⟩
  intro d12 hd12;rw[hBq];have s12:=aq (o:=HO.lst (nv LB)) hd12;have ok12:=tp11.ne hd12;have e12:upd H11 d12 (HO.lst (nv LB)) d12=_:=aB;have tp12:=tp11.same s12;have tS12:=tS11.same s12;have t12:=t11.same s12;have sx12:=sx11.trans s12.x;generalize upd H11 d12 (HO.lst (nv LB))=H12 at s12 e12 tp12 tS12 t12 sx12 |-;refine⟨p,_,_,_,ss,LB,rfl,tp12,ω,ω,tS12,b7 ok12 e12 ω,lfb,ω,ω,fun v2 pl2 H13 s13 tp13 t13 pok13 dep13 siz13=>?_⟩;refine⟨aX δ,fun a14 ha14=>?_⟩;have s14:=aq (o:=HO.tup [V.str "below",V.int (at1:Int),v1,v2]) ha14;refine q _ (.low at1 pl1 pl2) _ ((sx12.trans s13).trans s14.x) ((tp13.same s14).le ω) (.tup (tp13.ne ha14) aB (by show 4<=1000000;decide) (.cons (.str _) (.cons (.int _) (.cons ((t12.cU s13).same s14) (.cons (t13.same s14) .nil))))) ⟨⟨lf,mat1⟩,?_,?_⟩ (by show max (mX pl1) (mX pl2)+1<left.length;omega) (by show j8 pl1+j8 pl2+1+1<=2*left.length;omega)
  ·rw[hA];exact pok11
  rw[hBq];exact pok13
end
noncomputable abbrev jx:List Str:=["_law_tape_here","_law_ask","_law_due","_law_handed","_law_turn","_law_some","_law_before","_law_found"]
noncomputable abbrev cZ:Stmt:=top 26
theorem mL:bW jx q6_ (ak cZ):=⟨rfl,rfl,rfl,ψ,rfl,ψ,ψ⟩
theorem HF:NM_ jx cZ 0 "_law_tape_here" := .of ψ
theorem HD:NM_ jx cZ 1 "_law_ask" := .of ψ
theorem HB:NM_ jx cZ 2 "_law_due" := .of ψ
theorem xM:NM_ jx cZ 3 "_law_handed" := .of ψ
theorem xK:NM_ jx cZ 4 "_law_turn" := .of ψ
theorem lq:NM_ jx cZ 5 "_law_some" := .of ψ
theorem xJ:NM_ jx cZ 6 "_law_before" := .of ψ
theorem rZ:NM_ jx cZ 7 "_law_found" := .of ψ
theorem wL:GI_ cZ "_law_bent" := by decide +kernel
theorem zF:GI_ cZ "bool" := by decide +kernel
theorem pQ:GI_ cZ "isinstance" := by decide +kernel
theorem zE:GI_ cZ "list" := by decide +kernel
theorem wK:GI_ cZ "range" := by decide +kernel
theorem qQ:GI_ cZ "repr" := by decide +kernel
theorem M6:Bn "_law_right" := ⟨ψ,ψ⟩
noncomputable def GJ (p:Addr)(H:Hp)(tr:PyData->Bool)(s:V->Hp->VK->Prop):Prop:=∀(H':Hp)(B:Int)(l:Addr)(d:PyData)(Q:VK),aV p H H'->aP H' p B->aG (·≠p) H' (.ref l) (.list [d])->nodes d<=7000->d.depth<80->(∀H'',Same H' H''->Q (.bl (tr d)) H'')->s (.ref l) H' Q
noncomputable def Fb (P:Program)(w:World)(K:PySem.W.Frag)(mg:Str->Option Value)(base:Heap):Sp:=fun vs H Q _=>∃(p fa fd h:Addr)(B:Int)(v0:V)(d0:PyData)(tr:PyData->Bool)(sa sd:V->Hp->VK->Prop),vs=[.ref p,.ref fa,.ref fd,.ref h]/\aP H p B/\0<=B/\B<=700000/\h≠p/\H h=some (.lst [v0])/\aG (·≠p) H v0 d0/\szD 0 d0/\(PyData.list [d0]).depth<=70/\nodes (.list [d0])<=400 /\
 yj H fa/\yj H fd/\yh P w K mg base 83 fa sa/\yh P w K mg base 83 fd sd/\GJ p H tr sa/\GJ p H tr sd/\∀H',aV p H H'->aP H' p (B+400)->Q (.bl true) H'
theorem oG {H H':Hp}{p f:Addr}{B:Int}(h:yj H f)(tp:aP H p B)(s:aV p H H'):yj H' f:=by
 obtain⟨a,b,c,d,e⟩:=h;refine⟨a,b,c,d,s _ _ (fun z=>?_) e⟩;obtain⟨_,_,_,e2,_⟩:=tp.ex;rw[z,e2] at e;cases e
section
variable {P:Program}{w:World}{K:PySem.W.Frag}{mg:Str->Option Value}{base:Heap}{f:Addr}{fd:FuncData}{bs:List Str}
theorem K4 (hB:∀x:Str,x∈BLs->mg x=none) (CZBent:Cal P w K mg base "_law_bent" 86 q11_ Fi) (F:Fun K "_law_right" "_law_right" cZ f fd):dM P w K mg base CX0 87 f fd q6_ (Fb P w K mg base):=by
 refine F.okq mL (fun vs H Q E h=>?_) (fun cdv A outer s H vs Q E hr h=>?_)
 ·obtain⟨p,fa,fd,h,B,v0,d0,tr,sa,sd,rfl,_⟩:=h;rfl
 obtain⟨p,fa,fd,h,B,v0,d0,tr,sa,sd,rfl,tp,hB0,hB1,nh,eh,t0,sz0,hdp,hnd,ha,hd,La,Ld,Aa,Ad,q⟩:=h;refine⟨_,(aD (mU PassesOwn.never rfl (kW wK (hB "range" jO) (aj au aA rfl) rfl) (jX xK mL.nd (.inl rfl))
  (aD (bR lq mL.nd (tL (aW (bY hr.aZ) (ao xK) au (aM _)) (kY gB zE (hB "list" jb) boot_list j6 (aj (ao xM) aA rfl) rfl rfl) (aY CZBent (hr.mono δ) wL Rc (aj (ao HF) (aj (ao xM) aA rfl) rfl) rfl rfl)) rfl (.inl rfl))
  (aD (bR xJ mL.nd (bO (vY hr.gd hr.Rj) qQ (hB "repr" Ga) boot_repr GC (aj (ao lq) aA rfl) rfl rfl) rfl (.inl rfl))
  (aD (bR rZ mL.nd (Bf (k:=83) (hr.mono δ) HD (aj (ao lq) aA rfl) rfl rfl) rfl (.inl rfl))
  (aL (cg (mR (jH (iR (eV (bO cJ pQ (hB "isinstance" bh) boot_isinstance bw (aj (ao rZ) (aj (gW "bool" zF (hB "bool" qI) boot_bool qZ) aA rfl) rfl) rfl rfl) (fun _=>rfl))) (jH (aW (iz hr.aZ) (ao rZ) (Bf (k:=83) (hr.mono δ) HB (aj (ao lq) aA rfl) rfl rfl) (aM _)) (jG (aW (iz hr.aZ) (bO (vY hr.gd hr.Rj) qQ (hB "repr" Ga) boot_repr GC (aj (ao lq) aA rfl) rfl rfl) (ao xJ) (aM _)))))) (aL (aU fP)) bF))))) (fun _=>rfl))
  (aL (aU fP))),?_⟩
 refine aQ fun k hk=>?_;refine qW fun R hR=>?_;push_cast [vB];refine⟨δ,δ,?_⟩;obtain⟨Pv,hPv⟩:∃Pv:Nat->L2.St->Hp->Prop,Pv=fun(i:Nat) σ H'=>aV p H H'/\aP H' p (B+42*(i:Int))/\∃o4 o5 o6 o7,σ=[some (.ref p),some (.ref fa),some (.ref fd),some (.ref h),o4,o5,o6,o7]:=⟨_,rfl⟩;refine BZ hR Pv (by rw[hPv];exact⟨aV.refl _ _,tp.le ω,_,_,_,_,rfl⟩) ?_ ?_
 ·intro i σ H1 hi pv;rw[hPv] at pv;obtain⟨s1,tp1,o4,o5,o6,o7,rfl⟩:=pv;have hi9:i<9:=hi;refine aQ fun k2 hk2=>?_;have eh1:=s1 _ _ nh eh;have t1:=t0.cU s1;have nl:∀d:PyData,nodes (.list [d])=1+(nodes d+0):=fun d=>rfl;have dl:∀d:PyData,(PyData.list [d]).depth=d.depth+1:=fun d=>by rw[PyData.depth.eq_1,PyData.depthAll.eq_2,PyData.depthAll.eq_1];simp
  have go:∀(l:Addr)(d:PyData)(H2:Hp),aV p H1 H2->aP H2 p (B+42*(i:Int)+40)->aG (·≠p) H2 (.ref l) (.list [d])->szD 2 (.list [d])->nodes (.list [d])<=7000->(PyData.list [d]).depth<=80->k2 [some (.ref p),some (.ref fa),some (.ref fd),some (.ref h),some (.int (0+(i:Int))),some (.ref l),o6,o7] H2:=by
   intro l d H2 s2 tp2 t2 sz2 hn2 hd2;have hs:Shw (.list [d]):=RV sz2 ω ω;rw[dl] at hd2;rw[nl] at hn2;have sH2:=s1.trans s2;subst hk2;refine aQ fun k3 hk3=>?_;push_cast;refine⟨.ref l,_,_,rfl,t2,hs,?_⟩;push_cast;subst hk3;refine aQ fun k3 hk3=>?_;push_cast [yq];refine⟨oG ha tp sH2,oG ha tp sH2,sa,La,?_⟩;refine Aa H2 _ l d _ sH2 tp2 t2 ω ω fun H3 s3=>?_;push_cast;subst hk3;have sH3:=sH2.trans s3.x;push_cast [yq];refine⟨oG hd tp sH3,oG hd tp sH3,sd,Ld,?_⟩;refine Ad H3 _ l d _ sH3 (tp2.same s3) (t2.same s3) ω ω fun H4 s4=>?_;push_cast;refine⟨.ref l,_,_,rfl,(t2.same s3).same s4,hs,?_⟩;push_cast;rw[hPv];exact⟨sH3.trans s4.x,((tp2.same s3).same s4).le ω,_,_,_,_,rfl⟩
  push_cast;split
  ·refine⟨_,.inl (SqL.of eh1),fun l hl=>?_⟩;have s2:=aq (o:=HO.lst [v0]) hl;refine go l d0 _ s2.x ((tp1.same s2).le ω) (.lst (tp1.ne hl) aB (by show 1<=1000000;decide) (.cons (t1.same s2) .nil)) ⟨by show 1<=210*5^2;decide,yr sz0,trivial⟩ ω ω
  refine⟨p,h,_,v0,d0,rfl,tp1,ω,ω,nh,eh1,t1,sz0,hdp,ω,fun l d j H2 s2 tp2 t2 j1 j2 bn=>?_⟩;have hnd2:=bn.nd;have hdp2:=bn.dp;have j12:j=1\/j=2:=ω;have sz2:szD 2 (.list [d]):=by
   rcases j12 with rfl|rfl
   ·exact pC bn.sz
   exact bn.sz
  have hn2:nodes (.list [d])<=7000:=by
   rcases j12 with rfl|rfl
   ·simp only[pow_one] at hnd2;omega
   rw[show(4:Nat)^2=16 from rfl,show(5:Nat)^2=25 from rfl] at hnd2;omega
  exact go l d H2 s2 tp2 t2 sz2 hn2 ω
 intro σ H3 pv;rw[hPv] at pv;obtain⟨s3,tp3,o4,o5,o6,o7,rfl⟩:=pv;show k _ _;subst hk;push_cast;exact q H3 s3 (tp3.le ω)
end
noncomputable abbrev oX:List Str:=["_law_script","_law_words","_law_k","_law_tape_here","_law_stretches_here","_law_left","_law_plan_here","_law_ask","_law_due","_law_turn","_law_thing","_law_odd","_law_one","_law_found"]
noncomputable abbrev cM:Stmt:=top 28
theorem jW:bW oX ["_law_script"] (ak cM):=⟨rfl,rfl,rfl,ψ,rfl,ψ,ψ⟩
theorem Lq:NM_ oX cM 0 "_law_script" := .of ψ
theorem Lp:NM_ oX cM 1 "_law_words" := .of ψ
theorem Ln:NM_ oX cM 2 "_law_k" := .of ψ
theorem lX:NM_ oX cM 3 "_law_tape_here" := .of ψ
theorem vz:NM_ oX cM 4 "_law_stretches_here" := .of ψ
theorem Dw:NM_ oX cM 5 "_law_left" := .of ψ
theorem pI:NM_ oX cM 6 "_law_plan_here" := .of ψ
theorem Lk:NM_ oX cM 7 "_law_ask" := .of ψ
theorem Lj:NM_ oX cM 8 "_law_due" := .of ψ
theorem Ub:NM_ oX cM 9 "_law_turn" := .of ψ
theorem FZ:NM_ oX cM 10 "_law_thing" := .of ψ
theorem FW:NM_ oX cM 11 "_law_odd" := .of ψ
theorem zb:NM_ oX cM 12 "_law_one" := .of ψ
theorem za:NM_ oX cM 13 "_law_found" := .of ψ
theorem zN:GI_ cM "_law_is_plan" := by decide +kernel
theorem Ei:GI_ cM "_law_many" := by decide +kernel
theorem Eh:GI_ cM "_law_plan" := by decide +kernel
theorem vR:GI_ cM "_law_reworded" := by decide +kernel
theorem BV:GI_ cM "_law_right" := by decide +kernel
theorem uo:GI_ cM "_law_stretches" := by decide +kernel
theorem pW:GI_ cM "_law_take" := by decide +kernel
theorem Eg:GI_ cM "_law_tape" := by decide +kernel
theorem Im:GI_ cM "bool" := by decide +kernel
theorem BW:GI_ cM "is_plan" := by decide +kernel
theorem um:GI_ cM "isinstance" := by decide +kernel
theorem BR:GI_ cM "len" := by decide +kernel
theorem xT:GI_ cM "list" := by decide +kernel
theorem Mr:GI_ cM "min" := by decide +kernel
theorem pU:GI_ cM "range" := by decide +kernel
noncomputable def VH:Stmt->List Stmt
 | .For _ _ b _ _=>b
 | _=>[]
noncomputable def oR:Stmt->Scope
 | .Assign _ (.Lambda _ _ sc _) _=>sc
 | st=>ak st
noncomputable def Qq:Stmt->Arguments
 | .Assign _ (.Lambda a _ _ _) _=>a
 | st=>bC st
noncomputable def Qp:Stmt->Expr
 | .Assign _ (.Lambda _ b _ _) _=>b
 | _=>.Name "" ⟨0,0,0,0⟩
noncomputable def lamP:Stmt->Pos
 | .Assign _ (.Lambda _ _ _ p) _=>p
 | _=>⟨0,0,0,0⟩
noncomputable def mD:Stmt:=(VH ((bf cM).getD 1 cM)).getD 4 cM
noncomputable def mC:Stmt:=(VH ((bf cM).getD 1 cM)).getD 5 cM
noncomputable def quL:Str := "law.<locals>.<lambda>"
noncomputable def cl1 (n:Addr):List (Str×Addr):=[("_law_stretches_here",n+1)]
noncomputable def cl2 (n:Addr):List (Str×Addr):=[("_law_stretches_here",n+1),("_law_left",n)]
theorem sY (n:Nat):cellsFrom n (ak cM).names []=cl2 n:=rfl
theorem Cm (n:Addr):(cl2 n).lookup ("_law_stretches_here" : Str)=some (n+1):=lookup_cons_self
theorem Gz (n:Addr):(cl2 n).lookup ("_law_left" : Str)=some n:=by
 unfold cl2;rw[lookup_cons,show(("_law_left" : Str) == ("_law_stretches_here" : Str))=false from by decide +kernel];exact lookup_cons_self
theorem VP {env:Env}{n:Addr}(h:env.cells=cl2 n):closureFor (oR mD) env=pure (cl1 n):=by
 have hS:cellOf env "_law_stretches_here" = pure (n+1):=by unfold cellOf;rw[h,Cm]
 have hn:(oR mD).names=([("_law_some",.local),("_law_stretches_here",.free),("is_plan",.globalImplicit)]:List (Str×NameKind)):=rfl;unfold closureFor;rw[hn];simp only[forIn_cons,List.forIn_nil,hS];rfl
theorem VN {env:Env}{n:Addr}(h:env.cells=cl2 n):closureFor (oR mC) env=pure (cl2 n):=by
 have hS:cellOf env "_law_stretches_here" = pure (n+1):=by unfold cellOf;rw[h,Cm]
 have hL:cellOf env "_law_left" = pure n:=by unfold cellOf;rw[h,Gz]
 have hn:(oR mC).names=([("_law_some",.local),("_law_left",.free),("_law_stretches_here",.free),("_law_is_plan",.globalImplicit)]:List (Str×NameKind)):=rfl;unfold closureFor;rw[hn];simp only[forIn_cons,List.forIn_nil,hS,hL];rfl
theorem gl1:(oR mD).names.lookup ("is_plan" : Str)=some .globalImplicit:=by decide +kernel
theorem gl2:(oR mC).names.lookup ("_law_is_plan" : Str)=some .globalImplicit:=by decide +kernel
theorem Eo {n c:Addr}{y:Str}(h:(cl1 n).lookup y=some c):y = "_law_stretches_here" /\ c=n+1:=by
 have m:=PySem.mem_of_lookup h;rcases mem_cons.mp m with z|z
 ·cases z;exact⟨rfl,rfl⟩
 cases z
theorem En {n c:Addr}{y:Str}(h:(cl2 n).lookup y=some c):(y = "_law_stretches_here" /\ c=n+1)\/(y = "_law_left" /\ c=n):=by
 have m:=PySem.mem_of_lookup h;rcases mem_cons.mp m with z|z
 ·cases z;exact .inl ⟨rfl,rfl⟩
 rcases mem_cons.mp z with z|z
 ·cases z;exact .inr ⟨rfl,rfl⟩
 cases z
theorem Wn (n:Addr):uK "_law_some" ["_law_stretches_here"] (cl1 n) (oR mD):=by
 refine⟨rfl,rfl,rfl,ψ,ψ,ψ,fun y h=>?_,fun y z c h1 h2=>by rw[(Eo h1).1,(Eo h2).1]⟩;have m:=PySem.mem_of_lookup h;have a:∀x∈(oR mD).names,x.2=.free->x.1=("_law_stretches_here" : Str):=by decide +kernel
 have e:=a _ m rfl;simp only at e;rw[e];exact⟨_,lookup_cons_self⟩
theorem Wm (n:Addr):uK "_law_some" ["_law_stretches_here","_law_left"] (cl2 n) (oR mC):=by
 refine⟨rfl,rfl,rfl,ψ,ψ,ψ,fun y h=>?_,fun y z c h1 h2=>?_⟩
 ·have m:=PySem.mem_of_lookup h;have a:∀x∈(oR mC).names,x.2=.free->x.1=("_law_stretches_here" : Str)\/x.1=("_law_left" : Str):=by decide +kernel
  rcases a _ m rfl with e|e
  ·simp only at e;rw[e];exact⟨_,Cm n⟩
  simp only at e;rw[e];exact⟨_,Gz n⟩
 rcases En h1 with⟨e1,f1⟩|⟨e1,f1⟩ <;> rcases En h2 with⟨e2,f2⟩|⟨e2,f2⟩
 ·rw[e1,e2]
 ·rw[f1] at f2;exact absurd f2 (Nat.succ_ne_self n)
 ·rw[f1] at f2;exact absurd f2.symm (Nat.succ_ne_self n)
 rw[e1,e2]
section
variable {P:Program}{w:World}{K:PySem.W.Frag}{mg:Str->Option Value}{base:Heap}
theorem Wr (hB:∀x:Str,x∈BLs->mg x=none) (CIsPlan:Cal P w K mg base "is_plan" 4 q14_ nQ) {H:Hp}{f c' n p l:Addr}{pm ctv uS:Value}{B:Int}{ss:Sts}(hf:H f=some (oO f (PySem.W.kla_obj "<lambda>" quL (Qq mD) (Qp mD) (oR mD) (cl1 n) pm c' ctv))) (hc:H c'=some (nF c' quL))
  (cS:iI H (n+1) uS) (rS:RelV (.ref l) uS) (nf:f≠n+1) (nc:c'≠n+1) (tp:aP H p B) (ts:aG (·≠p) H (.ref l) (.list (ss.map stD))) (h1:0<ss.length) (h60:ss.length<=100) :
  ∃s,yh P w K mg base 83 f s/\GJ p H (fun d=>okG ss (lH d) (List.range ss.length)) s:=by
 have hp:∀(A:Around)(outer:List Env)(s:Shared)(H:Hp)(E:XK),gm (82+1) A->QE (Iu P w K mg base ["_law_some","_law_stretches_here"] quL (oR mD) (cl1 n) f (.ref c') A outer s H E) (Qp mD) (mJ nQ [] E0 (jl (tV 1) (jl (tOp uW (tV 0) (tC (.int 0))) rE))):=
  fun A outer s H E hr=>aY CIsPlan ((hr.deeper _).mono δ) gl1 Cw (aj (bT 1) (aj (aN bA (bT 0) au (fun _ _=>rfl)) aA rfl) rfl) rfl rfl
 refine⟨_,Gb (name := "<lambda>") (qual:=quL) (params:=Qq mD) (pm:=pm) (ctv:=ctv) (k:=82) (vs:=[.ref l]) (Wn n) (fun u=>rfl) rfl (fun A outer s H E hr=>(hp A outer s H E hr).h),?_⟩;intro H' B' l' d Q s' tp' t' hn hd q;have e1:=s' _ _ (sX tp hf) hf;have e2:=s' _ _ (sX tp hc) hc;have c1:iI H' (n+1) uS:=by
  obtain⟨o,e,r⟩:=cS;exact⟨o,s' _ _ (sX tp e) e,r⟩
 have hext:∀c∈(cl1 n).map (·.2),∃φ,H' c=some (.ext φ):=fun c hc=>by
  rw[mem_singleton.mp hc];exact c1.ext
 refine⟨e1,e2,fun y c e=>?_,fun i y z e3 e4=>?_,fun c hc=>?_,fun z=>nf (mem_singleton.mp z),fun z=>nc (mem_singleton.mp z),?_⟩
 ·rw[(Eo e).2];exact⟨_,c1⟩
 ·cases i with
  | zero=>cases e3;cases e4;exact⟨uS,n+1,rS,lookup_cons_self,c1⟩
  | succ i=>cases e3
 ·rw[mem_singleton.mp hc];exact⟨_,c1⟩
 have ts':=((ts.cU s').hid hext);have tpH:=tp'.hid hext;have tH:=t'.hid hext;cases tH with
 | lst o e z tt=>
  cases tt with
  | cons td r=>
   cases r;push_cast [e];have pg:=fV (lH d);rw[pA] at pg;exact⟨.ref l,_,_,ss,lH d,rfl,tpH.newOk,ts',by rw[pA];exact td,uw d,h1,h60,ω,fun H2 s2=>q _ (xr s2)⟩
theorem Wq (hB:∀x:Str,x∈BLs->mg x=none) (CZIsPlan:Cal P w K mg base "_law_is_plan" 82 q2_ (jd 80)) {H:Hp}{f c' n p l lf:Addr}{pm ctv uS uL:Value}{B:Int}{ss:Sts}{left:List Nat}(hf:H f=some (oO f (PySem.W.kla_obj "<lambda>" quL (Qq mC) (Qp mC) (oR mC) (cl2 n) pm c' ctv))) (hc:H c'=some (nF c' quL))
  (cS:iI H (n+1) uS) (rS:RelV (.ref l) uS) (cL:iI H n uL) (rL:RelV (.ref lf) uL) (nf:f≠n+1) (nc:c'≠n+1) (nf2:f≠n) (nc2:c'≠n) (tp:aP H p B) (ts:aG (·≠p) H (.ref l) (.list (ss.map stD))) (tl:aG (·≠p) H (.ref lf) (lA left)) (lfl:Lf ss left) :
  ∃s,yh P w K mg base 83 f s/\GJ p H (fun d=>okG ss (lH d) left) s:=by
 have hp:∀(A:Around)(outer:List Env)(s:Shared)(H:Hp)(E:XK),gm (82+1) A->QE (Iu P w K mg base ["_law_some","_law_stretches_here","_law_left"] quL (oR mC) (cl2 n) f (.ref c') A outer s H E) (Qp mC) (mJ (jd 80) [] E0 (jl (tV 1) (jl (tV 2) (jl (tOp uW (tV 0) (tC (.int 0))) rE)))):=
  fun A outer s H E hr=>aY CZIsPlan (hr.deeper _) gl2 jE (aj (bT 1) (aj (bT 2) (aj (aN bA (bT 0) au (fun _ _=>rfl)) aA rfl) rfl) rfl) rfl rfl
 refine⟨_,Gb (name := "<lambda>") (qual:=quL) (params:=Qq mC) (pm:=pm) (ctv:=ctv) (k:=82) (vs:=[.ref l,.ref lf]) (Wm n) (fun u=>rfl) rfl (fun A outer s H E hr=>(hp A outer s H E hr).h),?_⟩;intro H' B' l' d Q s' tp' t' hn hd q;have e1:=s' _ _ (sX tp hf) hf;have e2:=s' _ _ (sX tp hc) hc;have cc:∀{c:Addr}{u:Value},iI H c u->iI H' c u:=fun⟨o,e,r⟩=>⟨o,s' _ _ (sX tp e) e,r⟩;have c1:=cc cS;have c2:=cc cL;have mem2:∀c∈(cl2 n).map (·.2),c=n+1\/c=n:=fun c hc=>by
  rcases mem_cons.mp hc with z|z
  ·exact .inl z
  exact .inr (mem_singleton.mp z)
 have hcell:∀c∈(cl2 n).map (·.2),∃u,iI H' c u:=fun c hc=>by
  rcases mem2 c hc with rfl|rfl
  ·exact⟨_,c1⟩
  exact⟨_,c2⟩
 have hext:∀c∈(cl2 n).map (·.2),∃φ,H' c=some (.ext φ):=fun c hc=>by
  obtain⟨u,h⟩:=hcell c hc;exact h.ext
 refine⟨e1,e2,fun y c e=>?_,fun i y z e3 e4=>?_,hcell,fun z=>(mem2 f z).elim nf nf2,fun z=>(mem2 c' z).elim nc nc2,?_⟩
 ·rcases En e with⟨_,rfl⟩|⟨_,rfl⟩
  ·exact⟨_,c1⟩
  exact⟨_,c2⟩
 ·cases i with
  | zero=>cases e3;cases e4;exact⟨uS,n+1,rS,Cm n,c1⟩
  | succ i=>
   cases i with
   | zero=>cases e3;cases e4;exact⟨uL,n,rL,Gz n,c2⟩
   | succ i=>cases e3
 have ts':=((ts.cU s').hid hext);have tl':=((tl.cU s').hid hext);have tpH:=tp'.hid hext;have tH:=t'.hid hext;cases tH with
 | lst o e z tt=>
  cases tt with
  | cons td r=>
   cases r;push_cast [e];have pg:=fW (lH d);rw[pA] at pg;exact⟨.ref l,.ref lf,_,_,ss,left,lH d,rfl,tpH.newOk,ts',tl',by rw[pA];exact td,uw d,lfl,ω,fun H2 s2=>q _ (xr s2)⟩
end
noncomputable def wdV:List V:=[.str "pick",.str "is",.str "within",.str "below",.str "mask",.str "table",.str "",.str "Pick",.str "masks",.str "is "]
noncomputable def Fe (K:PySem.W.Frag)(T:Addr):Sp:=fun vs H Q _=>∃(a:Addr)(ns:List Int),vs=[.ref a]/\SqL K H a (ns.map V.int)/\ns.length<=63/\a≠T/\gU H T (lamP mD) quL/\gU H T (lamP mC) quL/\∀H',Q (.bl true) H'
theorem pne:(lamP mC).line≠(lamP mD).line\/(lamP mC).col≠(lamP mD).col:=by decide +kernel
theorem Wh:(lamP mD).line≠(lamP mC).line\/(lamP mD).col≠(lamP mC).col:=by decide +kernel
theorem U7 {i:Int}(h0:0<=i)(h:i<10):∃x:Str,atI wdV i=some (.str x)/\okS 0 x:=by
 have:i=0\/i=1\/i=2\/i=3\/i=4\/i=5\/i=6\/i=7\/i=8\/i=9:=by omega
 rcases this with rfl|rfl|rfl|rfl|rfl|rfl|rfl|rfl|rfl|rfl
 ·exact⟨"pick",rfl,fj "pick" 0 δ⟩
 ·exact⟨"is",rfl,fj "is" 0 δ⟩
 ·exact⟨"within",rfl,fj "within" 0 δ⟩
 ·exact⟨"below",rfl,fj "below" 0 δ⟩
 ·exact⟨"mask",rfl,fj "mask" 0 δ⟩
 ·exact⟨"table",rfl,fj "table" 0 δ⟩
 ·exact⟨"",rfl,fj "" 0 δ⟩
 ·exact⟨"Pick",rfl,fj "Pick" 0 δ⟩
 ·exact⟨"masks",rfl,fj "masks" 0 δ⟩
 exact⟨"is ",rfl,fj "is " 0 δ⟩
section
variable {P:Program}{w:World}{K:PySem.W.Frag}{mg:Str->Option Value}{base:Heap}{f:Addr}{fd:FuncData}{bs:List Str}
theorem T6 (hB:∀x:Str,x∈BLs->mg x=none) (CZTape:Cal P w K mg base "_law_tape" 2 q7_ (JF K)) (CZTake:Cal P w K mg base "_law_take" 2 q0_ (jF 2)) (CZStretches:Cal P w K mg base "_law_stretches" 3 q0_ JG) (CZMany:Cal P w K mg base "_law_many" 3 ["_law_tape_here"] JK) (CZPlan:Cal P w K mg base "_law_plan" 62 q3_ (nO 60))
  (CIsPlan:Cal P w K mg base "is_plan" 4 q14_ nQ) (CZIsPlan:Cal P w K mg base "_law_is_plan" 82 q2_ (jd 80)) (CZRight:Cal P w K mg base "_law_right" 87 q6_ (Fb P w K mg base)) (CZReworded:Cal P w K mg base "_law_reworded" 70 q1_ (xj 70))
  {c T:Addr} (CD:PySem.W.CodeHd base c T) (hbu:base.BuiltinsAt mg T) {oc kV doc pm ct:Value} {od an:Option Addr} {osl:Array (Option Value)}
  (lk:K.lookup f=some ⟨oc,od,.func (fnOf "law" "law" (bC cM) (bf cM) (ak cM) .none kV doc pm an (.ref c) ct),osl⟩) (hcd:codeIn K (.ref c) "law" = true) :
  dM P w K mg base CX0 88 f (fnOf "law" "law" (bC cM) (bf cM) (ak cM) .none kV doc pm an (.ref c) ct) ["_law_script"] (Fe K T):=by
 refine UG lk hcd jW (fun vs H Q E h=>?_) (fun A outer s H vs Q E hr h=>?_)
 ·obtain⟨a,ns,rfl,_⟩:=h;rfl
 obtain⟨a,ns,rfl,hS,h63,naT,hL1,hL2,q⟩:=h;have hcl1:closureFor (oR mD) (envOfC "law" (ak cM) s.heap.objs.size f (.ref c))=pure (cl1 (s.heap.objs.size+1)):=VP (sY _);have hcl2:closureFor (oR mC) (envOfC "law" (ak cM) s.heap.objs.size f (.ref c))=pure (cl2 (s.heap.objs.size+1)):=VN (sY _);have hqL:(envOfC "law" (ak cM) s.heap.objs.size f (.ref c)).qual ++ "<lambda>" = quL:=by
  show("law" ++ ".<locals>." : Str) ++ "<lambda>" = quL;decide +kernel
 generalize hn:s.heap.objs.size+1=n at hcl1 hcl2;obtain⟨csL,hcs⟩:∃csL:List (Nat×Addr),csL=[(4,n+1),(5,n)]:=⟨_,rfl⟩;have hcsL:∀i c',(i,c')∈csL->∃y,oX[i]?=some y/\(envOfC "law" (ak cM) s.heap.objs.size f (.ref c)).kindOf y=some .cell/\(envOfC "law" (ak cM) s.heap.objs.size f (.ref c)).cells.lookup y=some c'/\true=true:=fun i c' hm=>by
  rw[hcs] at hm;have hce:(envOfC "law" (ak cM) s.heap.objs.size f (.ref c)).cells=cl2 n:=by rw[<- hn];exact sY _
  rcases mem_cons.mp hm with z|z
  ·cases z;exact⟨"_law_stretches_here",rfl,show(ak cM).names.lookup _=_ by decide +kernel,by rw[hce];exact Cm n,rfl⟩
  cases mem_singleton.mp z;exact⟨"_law_left",rfl,show(ak cM).names.lookup _=_ by decide +kernel,by rw[hce];exact Gz n,rfl⟩
 refine⟨_,(aD (bR Lp jW.nd (cB (aj bM (aj bM (aj bM (aj bM (aj bM (aj bM (aj bM (aj bM (aj bM (aj bM aA rfl) rfl) rfl) rfl) rfl) rfl) rfl) rfl) rfl) rfl)) rfl (.inl rfl))
  (aD (mU PassesOwn.never rfl (kW pU (hB "range" jO) (aj (aR bN au (bO (Iw rfl) Mr (hB "min" Lr) boot_min MT (aj au (aj (bO jw BR (hB "len" cR) PySem.boot_len cT (aj (ao Lq) aA rfl) rfl rfl) aA rfl) rfl) rfl rfl)) aA rfl) rfl) (jX Ln jW.nd (.inl rfl))
  (aD (bR lX jW.nd (aY CZTape (hr.mono δ) Eg Q9 (aj (ao Lq) (aj (ao Ln) aA rfl) rfl) rfl rfl) rfl (.inl rfl))
  (aD (bR vz jW.nd (aY CZStretches (hr.mono δ) uo zX (aj (ao lX) (aj (aY CZMany (hr.mono δ) Ei Rb (aj (ao lX) aA rfl) rfl rfl) aA rfl) rfl) rfl rfl) rfl (.inl rfl))
  (aD (bR Dw jW.nd (Bd rfl xT (hB "list" jb) pU (hB "range" jO) (aj (bO bx BR (hB "len" cR) PySem.boot_len cT (aj (ao vz) aA rfl) rfl rfl) aA rfl)) rfl (.inl rfl))
  (aD (bR pI jW.nd (aY CZPlan (hr.mono δ) Eh rm (aj (ao lX) (aj (ao vz) (aj (ao Dw) aA rfl) rfl) rfl) rfl rfl) rfl (.inl rfl))
  (aD (bR Lk jW.nd (Ft hcl1 rfl rfl CD hbu hqL) rfl (.inl rfl))
  (aD (bR Lj jW.nd (Ft hcl2 rfl rfl CD hbu hqL) rfl (.inl rfl))
  (aD (cg (iR (eV (Ss CZRight (hr.mono δ) BV M6 hcsL (aj (ao lX) (aj (ao Lk) (aj (ao Lj) (aj (cB (aj (ao pI) aA rfl)) aA rfl) rfl) rfl) rfl) rfl rfl) (fun _=>rfl))) (aL (aU fP)) bF)
  (aL (mU PassesOwn.never rfl (kW pU (hB "range" jO) (aj au aA rfl) rfl) (jX Ub jW.nd (.inl rfl))
  (aD (bR FZ jW.nd (aY CZReworded (hr.mono δ) vR tR (aj (ao lX) (aj (ao pI) (aj (aN bA (ao Lp) (aY CZTake (hr.mono δ) pW bV (aj (ao lX) (aj au aA rfl) rfl) rfl rfl) (fun _ _=>rfl)) (aj (cB (aj (aY CZTake (hr.mono δ) pW bV (aj (ao lX) (aj au aA rfl) rfl) rfl rfl) aA rfl)) aA rfl) rfl) rfl) rfl) rfl rfl) rfl (.inl rfl))
  (aD (bR FW jW.nd (aN bA (cB (aj rP (aj au (aj fP (aj bM (aj bM (aj (cN aA) (aj (cB aA) (aj (cB (aj (ao pI) aA rfl)) (aj (cN (aj (ao pI) aA rfl)) (aj (kY gB xT (hB "list" jb) boot_list j6 (aj (ao pI) aA rfl) rfl rfl) (aj (aR FJ (ao pI) (cN (aj au aA rfl))) aA rfl) rfl) rfl) rfl) rfl) rfl) rfl) rfl) rfl) rfl) rfl)) (aY CZTake (hr.mono δ) pW bV (aj (ao lX) (aj au aA rfl) rfl) rfl rfl) (fun _ _=>rfl)) rfl (.inl rfl))
  (aL (mU PassesOwn.never rfl (eG (cN (aj (ao FZ) (aj (ao FW) aA rfl) rfl))) (jX zb jW.nd (.inl rfl))
  (aD (bR za jW.nd (aY CIsPlan (hr.mono δ) BW Cw (aj (ao vz) (aj (ao zb) aA rfl) rfl) rfl rfl) rfl (.inl rfl))
  (aL (cg (mR (jH (iR (eV (bO cJ um (hB "isinstance" bh) boot_isinstance bw (aj (ao za) (aj (gW "bool" Im (hB "bool" qI) boot_bool qZ) aA rfl) rfl) rfl rfl) (fun _=>rfl))) (jG (aW (iz hr.aZ) (ao za) (aY CZIsPlan (hr.mono δ) zN jE (aj (ao vz) (aj (ao Dw) (aj (ao zb) aA rfl) rfl) rfl) rfl rfl) (aM _))))) (aL (aU fP)) bF))) (fun _=>rfl))))) (fun _=>rfl)))))))))) (fun _=>rfl))
  (aL (aU fP)))),?_⟩
 refine aQ fun k hk=>?_;push_cast;refine⟨aX δ,fun wl hwl=>?_⟩;have s0:=aq (o:=HO.lst wdV) hwl;have hL1':=hL1.same s0;have hL2':=hL2.same s0;have hS':SqL K (upd H wl (HO.lst wdV)) a (ns.map V.int):=s0.seq hS;have ew0:upd H wl (HO.lst wdV) wl=some (HO.lst wdV):=aB;have nwT:wl≠T:=hL1.neN hwl;show k _ (upd H wl (HO.lst wdV));generalize upd H wl (HO.lst wdV)=H0 at s0 hL1' hL2' hS' ew0 |-;subst hk;refine aQ fun k hk=>?_;refine qW fun R hR=>?_;push_cast [vB];refine⟨_,.inl hS',?_⟩;rw[length_map];have m6:(0:Int)<=1+(if (ns.length:Int)<6 then (ns.length:Int) else 6)/\1+(if (ns.length:Int)<6 then (ns.length:Int) else 6)<=7:=by
  split <;> omega
 refine⟨ω,ω,?_⟩;obtain⟨Pv,hPv⟩:∃Pv:Nat->L2.St->Hp->Prop,Pv=fun(i:Nat) σ H'=>aV T H0 H'/\gU H' T (lamP mD) quL/\gU H' T (lamP mC) quL/\∃o2 o3 o4 o5 o6 o7 o8 o9 o10 o11 o12 o13,σ=[some (.ref a),some (.ref wl),o2,o3,o4,o5,o6,o7,o8,o9,o10,o11,o12,o13]:=⟨_,rfl⟩;refine BZ hR Pv (by rw[hPv];exact⟨aV.refl _ _,hL1',hL2',none,none,none,none,none,none,none,none,none,none,none,none,rfl⟩) ?_ ?_
 ·intro i σ H1 hi pv;rw[hPv] at pv;obtain⟨s1,hA1,hB1,o2,o3,o4,o5,o6,o7,o8,o9,o10,o11,o12,o13,rfl⟩:=pv;refine aQ fun k2 hk2=>?_;push_cast;refine⟨a,ns,(0:Int)+(i:Int),rfl,s1.seq naT hS',ω,ω,fun p H2 hp s2 tp2=>?_⟩;push_cast;subst hk2;refine aQ fun k2 hk2=>?_;push_cast;refine⟨p,0,rfl,tp2,δ,δ,fun m H3 s3 tp3 m1 m59=>?_⟩;push_cast;refine⟨p,m,0+4,rfl,tp3,δ,δ,ω,ω,fun l ss H4 s4 tp4 tr4 hsl hrow hfst=>?_⟩;push_cast;subst hk2;have sx4:aV p H1 H4:=(s2.x.trans s3).trans s4;have h59:ss.length<=59:=ω;have h1:1<=ss.length:=ω;refine aQ fun k2 hk2=>?_;have lfl:Lf ss (List.range ss.length):=⟨fun z=>by have:=congrArg List.length z;rw[length_range,length_nil] at this;omega,fun k hk=>mem_range.mp hk,List.pairwise_lt_range⟩;have tr40:=tr4;cases tr4 with
  | lst okl el4 zl4 trs4=>
   rename_i xs;have hxl:=trs4.length;rw[length_map] at hxl;push_cast [el4];rw[show(((xs.length:Int)-0).toNat)=ss.length by omega];refine⟨⟨ω,ω⟩,aX ω,fun lf hlf=>?_⟩;rw[Oc];have s5:=aq (o:=HO.lst (nv (List.range ss.length))) hlf;have nlf:=tp4.ne hlf;have tp5:=tp4.same s5;have tr5:=tr40.same s5;have elf:upd H4 lf (HO.lst (nv (List.range ss.length))) lf=_:=aB;have sx5:=sx4.trans s5.x;generalize upd H4 lf (HO.lst (nv (List.range ss.length)))=H5 at s5 tp5 tr5 elf sx5 |-;have tlf:aG (·≠p) H5 (.ref lf) (lA (List.range ss.length)):=b7 nlf elf (by rw[length_range];omega);subst hk2;refine aQ fun k2 hk2=>?_;push_cast;refine⟨p,_,_,_,ss,_,rfl,tp5,δ,by rw[length_range];omega,tr5,tlf,lfl,by rw[length_range];omega,by rw[length_range];omega,fun v pl H6 s6 tp6 tv6 pv6 dep siz=>?_⟩;rw[length_range] at tp6 dep siz;replace tp6:aP H6 p 2800:=tp6.le ω;have sx6:=sx5.trans s6;have sH6:Same H1 H6:=N8 sx6 hp;have tr6:=tr5.cU s6;have tlf6:=tlf.cU s6;have hA6:=hA1.same sH6;have hB6:=hB1.same sH6;have szp:=rQ hrow ω pv6;have ndp:=jA pl;have dpp:=jB pl;clear s5 s6 sx5 sx6 sx4 tp4 tp5 tr5 tlf elf el4 trs4 tr40 s2 s3 s4 tp2 tp3;subst hk2;refine aQ fun k2 hk2=>?_;refine CK hA6 fun f1 c1 ct1 pm1 H7 s7 hf1 ef1 ec1 hA7 oth7=>?_;have hB7:=oth7 _ _ pne hB6;show k2 _ _;simp only[set_cons_succ,set_cons_zero];subst hk2;refine aQ fun k2 hk2=>?_;refine CK hB7 fun f2 c2 ct2 pm2 H8 s8 hf2 ef2 ec2 hB8 oth8=>?_;have hA8:=oth8 _ _ Wh hA7;show k2 _ _;simp only[set_cons_succ,set_cons_zero];subst hk2;have tp8:=aP.tbl hB7 s8 (aP.tbl hA6 s7 tp6);have tr8:=(tr6.tbl hA6 s7).tbl hB7 s8;have tlf8:=(tlf6.tbl hA6 s7).tbl hB7 s8;have tv8:=(tv6.tbl hA6 s7).tbl hB7 s8;have ef18:=s8 _ _ (hA7.ne ef1 fun ps z=>by cases z) ef1;have ec18:=s8 _ _ (hA7.ne ec1 fun ps z=>by cases z) ec1;have sT8:aV T H0 H8:=((s1.trans sH6.x).trans s7).trans s8;refine aQ fun k2 hk2=>?_;push_cast [Dd];refine⟨aX δ,fun h9 hh9=>?_⟩;have s9:=aq (o:=HO.lst [v]) hh9;have tp9:=tp8.same s9;have tr9:=tr8.same s9;have tlf9:=tlf8.same s9;have tv9:=tv8.same s9;have ef19:=s9 _ _ ef18;have ec19:=s9 _ _ ec18;have ef29:=s9 _ _ ef2;have ec29:=s9 _ _ ec2;have eh9:upd H8 h9 (HO.lst [v]) h9=some (HO.lst [v]):=aB;have nh9:=tp8.ne hh9;have hA9:=hA8.same s9;have hB9:=hB8.same s9;have sT9:=sT8.trans s9.x;generalize upd H8 h9 (HO.lst [v])=H9 at s9 tp9 tr9 tlf9 tv9 ef19 ec19 ef29 ec29 eh9 hA9 hB9 sT9 |-;intro g G;have sG:=G.same;obtain⟨uS,rS,cS,fS⟩:=G.at (i:=4) (c:=n+1) (v:=.ref l) (by rw[hcs];exact mem_cons_self) rfl;obtain⟨uL,rL,cL,fL⟩:=G.at (i:=5) (c:=n) (v:=.ref lf) (by rw[hcs];exact mem_cons_of_mem _ mem_cons_self) rfl;obtain⟨sa,La,Aa⟩:=Wr hB CIsPlan (sG _ _ ef19) (sG _ _ ec19) cS rS (aF ef19 fS) (aF ec19 fS) (tp9.same sG) (tr9.same sG) ω ω;obtain⟨sd,Ld,Ad⟩:=Wq hB CZIsPlan (sG _ _ ef29) (sG _ _ ec29) cS rS cL rL (aF ef29 fS) (aF ec29 fS) (aF ef29 fL) (aF ec29 fL) (tp9.same sG) (tr9.same sG) (tlf9.same sG) lfl;have dl:(PyData.list [plD pl]).depth=(plD pl).depth+1:=by rw[PyData.depth.eq_1,PyData.depthAll.eq_2,PyData.depthAll.eq_1];simp
   have nl:nodes (.list [plD pl])=1+(nodes (plD pl)+0):=rfl;refine⟨p,f1,f2,h9,2800,v,plD pl,_,sa,sd,rfl,tp9.same sG,δ,δ,nh9,sG _ _ eh9,tv9.same sG,szp,ω,ω,⟨_,_,_,_,sG _ _ ef19⟩,⟨_,_,_,_,sG _ _ ef29⟩,La,Ld,Aa,Ad,fun H10 s10 tp10=>?_⟩;obtain⟨gk,s11⟩:=G.back tp9 s10;refine⟨gk,?_⟩;have tp11:=aP.drop G tp9 tp10;generalize lF g H10=H11 at s11 tp11 |-;push_cast;subst hk2;have tr11:=tr9.cU s11;have tlf11:=tlf9.cU s11;have tv11:=tv9.cU s11;have ew1:=s1 _ _ nwT ew0;have nwp:wl≠p:=aF ew1 hp;have ew11:=s11 _ _ nwp (sT9 _ _ nwT ew0);obtain⟨dsp,hdsp,hne,hl4⟩:=O9 pl;refine qW fun R2 hR2=>?_;push_cast [vB];refine⟨δ,δ,?_⟩;obtain⟨Pw,hPw⟩:∃Pv:Nat->L2.St->Hp->Prop,Pv=fun(j:Nat) σ H'=>∃(o9 o10 o11 o12 o13:Option V),aV p H11 H'/\aP H' p (3200+6*(j:Int))/\σ=[some (.ref a),some (.ref wl),some (.int (0+(i:Int))),some (.ref p),some (.ref l),some (.ref lf),some v,some (.ref f1),some (.ref f2),o9,o10,o11,o12,o13]:=⟨_,rfl⟩;refine BZ hR2 Pw (by rw[hPw];exact⟨_,_,_,_,_,aV.refl _ _,tp11,rfl⟩) ?_ ?_
   ·intro j σ H12 hj pw;rw[hPw] at pw;obtain⟨o9,o10,o11,o12,o13,s12,tp12,rfl⟩:=pw;have hj4:j<4:=hj;refine aQ fun k3 hk3=>?_;push_cast;refine⟨p,10,_,rfl,tp12,by show 3200+6*(j:Int)+2<=1000100;omega,δ,δ,δ,fun z=>absurd z δ,fun r1 H13 r10 r11 s13 tp13=>?_⟩;obtain⟨x,hx,okx⟩:=U7 r10 r11;have ew13:=s13 _ _ nwp (s12 _ _ nwp ew11);push_cast [ew13,hx];refine⟨p,5,_,rfl,tp13,by show 3200+6*(j:Int)+2+2<=1000100;omega,δ,δ,δ,fun z=>absurd z δ,fun r2 H14 r20 r21 s14 tp14=>?_⟩;push_cast;refine⟨aX δ,fun c0 hc0=>?_⟩;have s1114:=(s12.trans s13).trans s14;have tv14:=tv11.cU s1114;have s15:=aq (o:=HO.lst [V.int r2]) hc0;have ec15:upd H14 c0 (HO.lst [V.int r2]) c0=some (HO.lst [V.int r2]):=aB;have tp15:=tp14.same s15;obtain⟨ok2,hok2⟩:∃ok2:Addr->Prop,ok2=fun a=>a≠p/\a≠c0:=⟨_,rfl⟩;have tvo:aG ok2 (upd H14 c0 (HO.lst [V.int r2])) v (plD pl):=tv14.keep fun a o h e=>⟨by rw[hok2];exact⟨h,aF e hc0⟩,s15 _ _ e⟩;generalize upd H14 c0 (HO.lst [V.int r2])=H15 at s15 ec15 tp15 tvo |-;have nw15:cY ok2 H15:=fun H' q s' hq=>by rw[hok2];exact⟨(tp15.same s').ne hq,(aF (s' _ _ ec15) hq).symm⟩
    refine⟨.ref p,v,plD pl,x,c0,r2,ok2,rfl,ec15,nw15,fun a h=>by rw[hok2] at h;exact h.2,tvo,szp,okx,ω,fun v16 d16 j16 H16 s16 ec16 t16 rw16=>?_⟩;have s1116:aV p H11 H16:=fun b o nb e=>s16 _ _ (aF (s1114 _ _ nb e) hc0) (s15 _ _ (s1114 _ _ nb e));have tp16:aP H16 p (3200+6*(j:Int)+4):=by
     obtain⟨y1,y2,y3,e,r⟩:=tp15.le (B':=3200+6*(j:Int)+4) (by show 3200+6*(j:Int)+2+2<=_;omega);exact⟨y1,y2,y3,s16 _ _ (tp14.ne hc0).symm e,r⟩
    have t16':aG (·≠p) H16 v16 d16:=t16.keep fun a o h e=>⟨by rw[hok2] at h;exact h.1,e⟩;clear s15 ec15 tp15 tvo nw15 s16 ec16 t16 tv14 s1114 tp12 tp13 tp14 s12 s13 s14;push_cast;subst hk3;refine aQ fun k3 hk3=>?_;have tv16:=tv11.cU s1116;have n16:=tp16.newOk;have gp:Gv (·≠p) (tV 6) [some (.ref a),some (.ref wl),some (.int (0+(i:Int))),some (.ref p),some (.ref l),some (.ref lf),some v,some (.ref f1),some (.ref f2),some (.int (0+(j:Int))),some v16,o11,o12,o13] H16 (plD pl):=vD rfl tv16;have gpt:=gp;rw[hdsp] at gpt;refine LR (ok:=(·≠p)) (.list [.none,.int 0,.bool true,.str "",.str "table",.tuple [],.list [],.list [plD pl],.tuple [plD pl],.list dsp,.tuple (dsp++[.int 0])]) rfl ?_ fun po xso H17 s17 e17 po17 t17=>?_
    ·exact iH n16 (aK pN (aK gQ (aK tO (aK sS (aK sS (aK (ni n16 cO (by show 0<=1000000;decide)) (aK (iH n16 cO (by show 0<=1000000;decide)) (aK (iH n16 (aK gp cO) (by show 1<=1000000;decide)) (aK (ni n16 (aK gp cO) (by show 1<=1000000;decide)) (aK (Ii n16 gpt) (aK (QK n16 hne (by simp) gpt (ni n16 (aK gQ cO) (by show 1<=1000000;decide)) (by show dsp.length+1<=1000000;omega)) cO))))))))))) (by show 11<=1000000;decide)
    have tp17:=tp16.same s17;push_cast;refine⟨p,11,_,rfl,tp17,by show 3200+6*(j:Int)+4+2<=1000100;omega,δ,δ,δ,fun z=>absurd z δ,fun r5 H18 r50 r51 s18 tp18=>?_⟩;have e18:=s18 _ _ po17 e17;obtain⟨xo,od,hxo,hod,todd⟩:=(t17.lJ (fun a h=>h) s18).at r50 (show r5<11 by omega);push_cast [e18,hxo];subst hk3;have s1118:=(s1116.trans s17.x).trans s18;have t18:=(t16'.same s17).cU s18;have szo:nodes od<=nodes (plD pl)+3/\od.depth<=(plD pl).depth+1:=by
     have one:∀d:PyData,(PyData.list [d]).depth=d.depth+1/\(PyData.tuple [d]).depth=d.depth+1:=fun d=>by
      rw[PyData.depth.eq_1,PyData.depth.eq_2,PyData.depthAll.eq_2,PyData.depthAll.eq_1];simp
     have ndt:nodes (plD pl)=1+aJ dsp:=by rw[hdsp];rfl
     have dpt:(plD pl).depth=PyData.depthAll dsp+1:=by rw[hdsp];exact PyData.depth.eq_2 dsp
     have odd:∀{d:PyData},tu d->nodes d<=nodes (plD pl)+3/\d.depth<=(plD pl).depth+1:=fun h=>⟨by have:=h.nd;have:=kZ (plD pl);omega,by have:=h.dp;omega⟩;rcases mem_cons.mp hod with rfl|hod
     ·exact odd nY
     rcases mem_cons.mp hod with rfl|hod
     ·exact odd (jY δ)
     rcases mem_cons.mp hod with rfl|hod
     ·exact odd rW
     rcases mem_cons.mp hod with rfl|hod
     ·exact odd (uG "" δ)
     rcases mem_cons.mp hod with rfl|hod
     ·exact odd (uG "table" δ)
     rcases mem_cons.mp hod with rfl|hod
     ·exact odd nZ.2
     rcases mem_cons.mp hod with rfl|hod
     ·exact odd nZ.1
     rcases mem_cons.mp hod with rfl|hod
     ·exact⟨by show 1+(nodes (plD pl)+0)<=_;omega,by rw[(one _).1];omega⟩
     rcases mem_cons.mp hod with rfl|hod
     ·exact⟨by show 1+(nodes (plD pl)+0)<=_;omega,by rw[(one _).2];omega⟩
     rcases mem_cons.mp hod with rfl|hod
     ·exact⟨by show 1+aJ dsp<=_;omega,by rw[PyData.depth.eq_1];omega⟩
     rw[mem_singleton.mp hod];refine⟨?_,?_⟩
     ·show 1+aJ (dsp++[.int 0])<=_;rw[bD];show 1+(aJ dsp+(1+0))<=_;omega
     rw[PyData.depth.eq_2];have:=cX (k:=PyData.depthAll dsp) (ds:=dsp++[.int 0]) fun d hd=>by
      rcases mem_append.mp hd with z|z
      ·exact bJ z
      rw[mem_singleton.mp z];exact zero_le _
     omega
    have rwn:=rw16.nd;have rwd:=rw16.dp;clear s1116 s17 s18 t16' t17 e17 e18 tp16 tp17 tv16 n16 gp gpt;refine qW fun R3 hR3=>?_;push_cast;refine⟨aX δ,fun t19 ht19=>?_⟩;have s19:=aq (o:=HO.tup [v16,xo]) ht19;have e19:upd H18 t19 (HO.tup [v16,xo]) t19=some (HO.tup [v16,xo]):=aB;have two:∀y∈[v16,xo],∃d,aG (·≠p) (upd H18 t19 (HO.tup [v16,xo])) y d/\nodes d<=7000/\d.depth<80:=fun y hy=>by
     rcases mem_cons.mp hy with rfl|hy
     ·exact⟨d16,t18.same s19,ω,ω⟩
     rw[mem_singleton.mp hy];exact⟨od,todd.same s19,ω,ω⟩
    have tp19:=tp18.same s19;have tr19:=(tr11.cU s1118).same s19;have tlf19:=(tlf11.cU s1118).same s19;have sx19:=s1118.trans s19.x;generalize upd H18 t19 (HO.tup [v16,xo])=H19 at s19 e19 two tp19 tr19 tlf19 sx19 |-;push_cast [BJ,Gi,e19,Gh];obtain⟨Px,hPx⟩:∃Pv:Nat->L2.St->Hp->Prop,Pv=fun(_:Nat) σ H'=>∃(o12 o13:Option V),Same H19 H'/\σ=[some (.ref a),some (.ref wl),some (.int (0+(i:Int))),some (.ref p),some (.ref l),some (.ref lf),some v,some (.ref f1),some (.ref f2),some (.int (0+(j:Int))),some v16,some xo,o12,o13]:=⟨_,rfl⟩;refine VG hR3 (xs:=[v16,xo]) Px (by rw[hPx];exact⟨_,_,Same.refl _,rfl⟩) (fun j σ H' px=>?_) ?_ ?_
    ·rw[hPx] at px;obtain⟨_,_,s',_⟩:=px;exact s' _ _ e19
    ·intro j2 y σ H20 hy px;rw[hPx] at px;obtain⟨o12',o13',s20,rfl⟩:=px;obtain⟨d,td,hnd,hdd⟩:=two y (mem_of_getElem? hy);have pg:=fV (lH d);have pd:=fW (lH d);rw[pA] at pg pd;refine aQ fun k4 hk4=>?_;push_cast;refine⟨.ref l,y,(·≠p),ss,lH d,rfl,(tp19.same s20).newOk,tr19.same s20,by rw[pA];exact td.same s20,uw d,ω,ω,ω,fun H21 s21=>?_⟩;push_cast;subst hk4;have s2021:=s20.trans s21;push_cast;refine⟨.ref l,.ref lf,y,(·≠p),ss,_,lH d,rfl,(tp19.same s2021).newOk,tr19.same s2021,tlf19.same s2021,by rw[pA];exact td.same s2021,uw d,lfl,ω,fun H22 s22=>?_⟩;push_cast;rw[hPx];exact⟨_,_,s2021.trans s22,rfl⟩
    intro σ H20 px;rw[hPx] at px;obtain⟨o12',o13',s20,rfl⟩:=px;show Pw _ _ _;rw[hPw];exact⟨_,_,_,_,_,sx19.trans s20.x,(tp19.same s20).le (by show 3200+6*(j:Int)+4+2<=3200+6*((j+1:Nat):Int);omega),rfl⟩
   intro σ H12 pw;rw[hPw] at pw;obtain⟨o9,o10,o11,o12,o13,s12,tp12,rfl⟩:=pw;show Pv _ _ _;rw[hPv];have nap:∀b o,b≠T->H0 b=some o->b≠p:=fun b o nb e=>aF (s1 _ _ nb e) hp;exact⟨fun b o nb e=>s12 _ _ (nap b o nb e) (s11 _ _ (nap b o nb e) (sT9 _ _ nb e)),(hA9.GX tp9 s11).GX tp11 s12,(hB9.GX tp9 s11).GX tp11 s12,_,_,_,_,_,_,_,_,_,_,_,_,rfl⟩
 intro σ H1 pv;rw[hPv] at pv;obtain⟨s1,hA1,hB1,o2,o3,o4,o5,o6,o7,o8,o9,o10,o11,o12,o13,rfl⟩:=pv;show k _ _;subst hk;push_cast;exact q _
end
theorem all_mk {l:PySem.W.OpenLaw}{w:World}{K:PySem.W.Frag}{h:Heap}{mg:Str->Option Value}{fa cb T:Addr}{f1:Addr}{od1 an1:Option Addr}{sl1:Array (Option Value)}{oc1 kV1 dc1 pm1 cd1 ct1:Value}{f2:Addr}{od2 an2:Option Addr}{sl2:Array (Option Value)}{oc2 kV2 dc2 pm2 cd2 ct2:Value}{f3:Addr}{od3 an3:Option Addr}{sl3:Array (Option Value)}{oc3 kV3 dc3 pm3 cd3 ct3:Value}{f4:Addr}{od4 an4:Option Addr}{sl4:Array (Option Value)}{oc4 kV4 dc4 pm4 cd4 ct4:Value}{f5:Addr}{od5 an5:Option Addr}{sl5:Array (Option Value)}{oc5 kV5 dc5 pm5 cd5 ct5:Value}{f6:Addr}{od6 an6:Option Addr}{sl6:Array (Option Value)}{oc6 kV6 dc6 pm6 cd6 ct6:Value}{f7:Addr}{od7 an7:Option Addr}{sl7:Array (Option Value)}{oc7 kV7 dc7 pm7 cd7 ct7:Value}{f8:Addr}{od8 an8:Option Addr}{sl8:Array (Option Value)}{oc8 kV8 dc8 pm8 cd8 ct8:Value}{f9:Addr}{od9 an9:Option Addr}{sl9:Array (Option Value)}{oc9 kV9 dc9 pm9 cd9 ct9:Value}{f10:Addr}{od10 an10:Option Addr}{sl10:Array (Option Value)}{oc10 kV10 dc10 pm10 cd10 ct10:Value}{f11:Addr}{od11 an11:Option Addr}{sl11:Array (Option Value)}{oc11 kV11 dc11 pm11 cd11 ct11:Value}{f12:Addr}{od12 an12:Option Addr}{sl12:Array (Option Value)}{oc12 kV12 dc12 pm12 cd12 ct12:Value}{f13:Addr}{od13 an13:Option Addr}{sl13:Array (Option Value)}{oc13 kV13 dc13 pm13 cd13 ct13:Value}{f14:Addr}{od14 an14:Option Addr}{sl14:Array (Option Value)}{oc14 kV14 dc14 pm14 cd14 ct14:Value}{f15:Addr}{od15 an15:Option Addr}{sl15:Array (Option Value)}{oc15 kV15 dc15 pm15 cd15 ct15:Value}{f16:Addr}{od16 an16:Option Addr}{sl16:Array (Option Value)}{oc16 kV16 dc16 pm16 cd16 ct16:Value}{f17:Addr}{od17 an17:Option Addr}{sl17:Array (Option Value)}{oc17 kV17 dc17 pm17 cd17 ct17:Value}{f18:Addr}{od18 an18:Option Addr}{sl18:Array (Option Value)}{oc18 kV18 dc18 pm18 cd18 ct18:Value}{f19:Addr}{od19 an19:Option Addr}{sl19:Array (Option Value)}{oc19 kV19 dc19 pm19 cd19 ct19:Value}{f20:Addr}{od20 an20:Option Addr}{sl20:Array (Option Value)}{oc20 kV20 dc20 pm20 cd20 ct20:Value}{f21:Addr}{od21 an21:Option Addr}{sl21:Array (Option Value)}{oc21 kV21 dc21 pm21 cd21 ct21:Value}{f22:Addr}{od22 an22:Option Addr}{sl22:Array (Option Value)}{oc22 kV22 dc22 pm22 cd22 ct22:Value}{f23:Addr}{od23 an23:Option Addr}{sl23:Array (Option Value)}{oc23 kV23 dc23 pm23 cd23 ct23:Value}{f24:Addr}{od24 an24:Option Addr}{sl24:Array (Option Value)}{oc24 kV24 dc24 pm24 cd24 ct24:Value}{ckMostInMask:Tok}{ckMostInTable:Tok}(X:K.In h) (G:h.Ns mainGlobals mg) (hfa:mg "law" = some (.ref fa))
  (a1:nsIn K mainGlobals "is_number" = some (some (.ref f1))) (l1:K.lookup f1=some ⟨oc1,od1,.func (fnOf "is_number" "is_number" (bC fJ) (bf fJ) (ak fJ) .none kV1 dc1 pm1 an1 cd1 ct1),sl1⟩) (c1:codeIn K cd1 "is_number" = true) (k1:keepIn K (.ref f1)=true)
  (a2:nsIn K mainGlobals "numbers_across" = some (some (.ref f2))) (l2:K.lookup f2=some ⟨oc2,od2,.func (fnOf "numbers_across" "numbers_across" (bC cW) (bf cW) (ak cW) .none kV2 dc2 pm2 an2 cd2 ct2),sl2⟩) (c2:codeIn K cd2 "numbers_across" = true) (k2:keepIn K (.ref f2)=true)
  (a3:nsIn K mainGlobals "labels_left" = some (some (.ref f3))) (l3:K.lookup f3=some ⟨oc3,od3,.func (fnOf "labels_left" "labels_left" (bC eY) (bf eY) (ak eY) .none kV3 dc3 pm3 an3 cd3 ct3),sl3⟩) (c3:codeIn K cd3 "labels_left" = true) (k3:keepIn K (.ref f3)=true)
  (a4:nsIn K mainGlobals "parts_some" = some (some (.ref f4))) (l4:K.lookup f4=some ⟨oc4,od4,.func (fnOf "parts_some" "parts_some" (bC dF) (bf dF) (ak dF) .none kV4 dc4 pm4 an4 cd4 ct4),sl4⟩) (c4:codeIn K cd4 "parts_some" = true) (k4:keepIn K (.ref f4)=true)
  (a5:nsIn K mainGlobals "is_step" = some (some (.ref f5))) (l5:K.lookup f5=some ⟨oc5,od5,.func (fnOf "is_step" "is_step" (bC dg) (bf dg) (ak dg) .none kV5 dc5 pm5 an5 cd5 ct5),sl5⟩) (c5:codeIn K cd5 "is_step" = true) (k5:keepIn K (.ref f5)=true)
  (a6:nsIn K mainGlobals "plans_in" = some (some (.ref f6))) (l6:K.lookup f6=some ⟨oc6,od6,.func (fnOf "plans_in" "plans_in" (bC dO) (bf dO) (ak dO) .none kV6 dc6 pm6 an6 cd6 ct6),sl6⟩) (c6:codeIn K cd6 "plans_in" = true) (k6:keepIn K (.ref f6)=true)
  (a7:nsIn K mainGlobals "is_plan" = some (some (.ref f7))) (l7:K.lookup f7=some ⟨oc7,od7,.func (fnOf "is_plan" "is_plan" (bC eF) (bf eF) (ak eF) .none kV7 dc7 pm7 an7 cd7 ct7),sl7⟩) (c7:codeIn K cd7 "is_plan" = true) (k7:keepIn K (.ref f7)=true)
  (a8:nsIn K mainGlobals "_law_cell_at" = some (some (.ref f8))) (l8:K.lookup f8=some ⟨oc8,od8,.func (fnOf "_law_cell_at" "_law_cell_at" (bC iu) (bf iu) (ak iu) .none kV8 dc8 pm8 an8 cd8 ct8),sl8⟩) (c8:codeIn K cd8 "_law_cell_at" = true) (k8:keepIn K (.ref f8)=true)
  (a9:nsIn K mainGlobals "_law_tape" = some (some (.ref f9))) (l9:K.lookup f9=some ⟨oc9,od9,.func (fnOf "_law_tape" "_law_tape" (bC ji) (bf ji) (ak ji) .none kV9 dc9 pm9 an9 cd9 ct9),sl9⟩) (c9:codeIn K cd9 "_law_tape" = true) (k9:keepIn K (.ref f9)=true)
  (a10:nsIn K mainGlobals "_law_take" = some (some (.ref f10))) (l10:K.lookup f10=some ⟨oc10,od10,.func (fnOf "_law_take" "_law_take" (bC jj) (bf jj) (ak jj) .none kV10 dc10 pm10 an10 cd10 ct10),sl10⟩) (c10:codeIn K cd10 "_law_take" = true) (k10:keepIn K (.ref f10)=true)
  (a11:nsIn K mainGlobals "_law_stretches" = some (some (.ref f11))) (l11:K.lookup f11=some ⟨oc11,od11,.func (fnOf "_law_stretches" "_law_stretches" (bC bI) (bf bI) (ak bI) .none kV11 dc11 pm11 an11 cd11 ct11),sl11⟩) (c11:codeIn K cd11 "_law_stretches" = true) (k11:keepIn K (.ref f11)=true)
  (a12:nsIn K mainGlobals "_law_span" = some (some (.ref f12))) (l12:K.lookup f12=some ⟨oc12,od12,.func (fnOf "_law_span" "_law_span" (bC mO) (bf mO) (ak mO) .none kV12 dc12 pm12 an12 cd12 ct12),sl12⟩) (c12:codeIn K cd12 "_law_span" = true) (k12:keepIn K (.ref f12)=true)
  (a13:nsIn K mainGlobals "_law_plan" = some (some (.ref f13))) (l13:K.lookup f13=some ⟨oc13,od13,.func (fnOf "_law_plan" "_law_plan" (bC cG) (bf cG) (ak cG) .none kV13 dc13 pm13 an13 cd13 ct13),sl13⟩) (c13:codeIn K cd13 "_law_plan" = true) (k13:keepIn K (.ref f13)=true)
  (a14:nsIn K mainGlobals "_law_many" = some (some (.ref f14))) (l14:K.lookup f14=some ⟨oc14,od14,.func (fnOf "_law_many" "_law_many" (bC lK) (bf lK) (ak lK) .none kV14 dc14 pm14 an14 cd14 ct14),sl14⟩) (c14:codeIn K cd14 "_law_many" = true) (k14:keepIn K (.ref f14)=true)
  (a15:nsIn K mainGlobals "_law_is_plan" = some (some (.ref f15))) (l15:K.lookup f15=some ⟨oc15,od15,.func (fnOf "_law_is_plan" "_law_is_plan" (bC bL) (bf bL) (ak bL) .none kV15 dc15 pm15 an15 cd15 ct15),sl15⟩) (c15:codeIn K cd15 "_law_is_plan" = true) (k15:keepIn K (.ref f15)=true)
  (a16:nsIn K mainGlobals "_law_spots" = some (some (.ref f16))) (l16:K.lookup f16=some ⟨oc16,od16,.func (fnOf "_law_spots" "_law_spots" (bC eE) (bf eE) (ak eE) .none kV16 dc16 pm16 an16 cd16 ct16),sl16⟩) (c16:codeIn K cd16 "_law_spots" = true) (k16:keepIn K (.ref f16)=true)
  (a17:nsIn K mainGlobals "_law_as" = some (some (.ref f17))) (l17:K.lookup f17=some ⟨oc17,od17,.func (fnOf "_law_as" "_law_as" (bC wz) (bf wz) (ak wz) .none kV17 dc17 pm17 an17 cd17 ct17),sl17⟩) (c17:codeIn K cd17 "_law_as" = true) (k17:keepIn K (.ref f17)=true)
  (a18:nsIn K mainGlobals "_law_step_of_many" = some (some (.ref f18))) (l18:K.lookup f18=some ⟨oc18,od18,.func (fnOf "_law_step_of_many" "_law_step_of_many" (bC bB) (bf bB) (ak bB) .none kV18 dc18 pm18 an18 cd18 ct18),sl18⟩) (c18:codeIn K cd18 "_law_step_of_many" = true) (k18:keepIn K (.ref f18)=true)
  (a19:nsIn K mainGlobals "_law_step" = some (some (.ref f19))) (l19:K.lookup f19=some ⟨oc19,od19,.func (fnOf "_law_step" "_law_step" (bC eU) (bf eU) (ak eU) .none kV19 dc19 pm19 an19 cd19 ct19),sl19⟩) (c19:codeIn K cd19 "_law_step" = true) (k19:keepIn K (.ref f19)=true)
  (a20:nsIn K mainGlobals "_law_bent_at" = some (some (.ref f20))) (l20:K.lookup f20=some ⟨oc20,od20,.func (fnOf "_law_bent_at" "_law_bent_at" (bC dN) (bf dN) (ak dN) .none kV20 dc20 pm20 an20 cd20 ct20),sl20⟩) (c20:codeIn K cd20 "_law_bent_at" = true) (k20:keepIn K (.ref f20)=true)
  (a21:nsIn K mainGlobals "_law_bent" = some (some (.ref f21))) (l21:K.lookup f21=some ⟨oc21,od21,.func (fnOf "_law_bent" "_law_bent" (bC fM) (bf fM) (ak fM) .none kV21 dc21 pm21 an21 cd21 ct21),sl21⟩) (c21:codeIn K cd21 "_law_bent" = true) (k21:keepIn K (.ref f21)=true)
  (a22:nsIn K mainGlobals "_law_right" = some (some (.ref f22))) (l22:K.lookup f22=some ⟨oc22,od22,.func (fnOf "_law_right" "_law_right" (bC cZ) (bf cZ) (ak cZ) .none kV22 dc22 pm22 an22 cd22 ct22),sl22⟩) (c22:codeIn K cd22 "_law_right" = true) (k22:keepIn K (.ref f22)=true)
  (a23:nsIn K mainGlobals "_law_reworded" = some (some (.ref f23))) (l23:K.lookup f23=some ⟨oc23,od23,.func (fnOf "_law_reworded" "_law_reworded" (bC bQ) (bf bQ) (ak bQ) .none kV23 dc23 pm23 an23 cd23 ct23),sl23⟩) (c23:codeIn K cd23 "_law_reworded" = true) (k23:keepIn K (.ref f23)=true)
  (a24:nsIn K mainGlobals "law" = some (some (.ref f24))) (l24:K.lookup f24=some ⟨oc24,od24,.func (fnOf "law" "law" (bC cM) (bf cM) (ak cM) .none kV24 dc24 pm24 an24 cd24 ct24),sl24⟩) (c24:codeIn K cd24 "law" = true) (k24:keepIn K (.ref f24)=true)
  (z1:nsIn K mainGlobals "abs" = some none)
  (z2:nsIn K mainGlobals "bool" = some none)
  (z3:nsIn K mainGlobals "enumerate" = some none)
  (z4:nsIn K mainGlobals "int" = some none)
  (z5:nsIn K mainGlobals "isinstance" = some none)
  (z6:nsIn K mainGlobals "len" = some none)
  (z7:nsIn K mainGlobals "list" = some none)
  (z8:nsIn K mainGlobals "max" = some none)
  (z9:nsIn K mainGlobals "min" = some none)
  (z10:nsIn K mainGlobals "range" = some none)
  (z11:nsIn K mainGlobals "repr" = some none)
  (z12:nsIn K mainGlobals "str" = some none)
  (z13:nsIn K mainGlobals "tuple" = some none)
  (w1:nsIn K mainGlobals "MOST_IN_MASK" = some (some (.int 64 ckMostInMask)))
  (w2:nsIn K mainGlobals "MOST_IN_TABLE" = some (some (.int 200 ckMostInTable))) (e24:cd24=.ref cb) (hd24:PySem.W.codeHdIn K cb T=true) :
  ∃fd:FuncData,(∀(s:Shared)(v:Value),BindsTo s fd ⟨[v],[]⟩ [("_law_script",v)])/\∀base:Heap,K.In base->base.Ns mainGlobals mg->base.BuiltinsAt mg T->dM l.prog w K mg base CX0 88 fa fd ["_law_script"] (Fe K T):=by
 have e:=hfa.symm.trans (mg_of X G a24);cases e;subst e24;have DIsNumber:=dm (st:=fJ) (ps:=["thing"]) X G a1 l1 c1 k1 fun _ _ _ _ _ _ us hl=>by obtain⟨z0,rfl⟩:=ln1 hl;rfl
 have DNumbersAcross:=dm (st:=cW) (ps:=["stretches","left"]) X G a2 l2 c2 k2 fun _ _ _ _ _ _ us hl=>by obtain⟨z0,z1,rfl⟩:=ln2 hl;rfl
 have DLabelsLeft:=dm (st:=eY) (ps:=["stretches","left"]) X G a3 l3 c3 k3 fun _ _ _ _ _ _ us hl=>by obtain⟨z0,z1,rfl⟩:=ln2 hl;rfl
 have DPartsSome:=dm (st:=dF) (ps:=["stretches","left","label"]) X G a4 l4 c4 k4 fun _ _ _ _ _ _ us hl=>by obtain⟨z0,z1,z2,rfl⟩:=ln3 hl;rfl
 have DIsStep:=dm (st:=dg) (ps:=["stretches","left","thing"]) X G a5 l5 c5 k5 fun _ _ _ _ _ _ us hl=>by obtain⟨z0,z1,z2,rfl⟩:=ln3 hl;rfl
 have DPlansIn:=dm (st:=dO) (ps:=["stretches","left","plan"]) X G a6 l6 c6 k6 fun _ _ _ _ _ _ us hl=>by obtain⟨z0,z1,z2,rfl⟩:=ln3 hl;rfl
 have DIsPlan:=dm (st:=eF) (ps:=["stretches","thing"]) X G a7 l7 c7 k7 fun _ _ _ _ _ _ us hl=>by obtain⟨z0,z1,rfl⟩:=ln2 hl;rfl
 have DZCellAt:=dm (st:=iu) (ps:=["_law_script","_law_k"]) X G a8 l8 c8 k8 fun _ _ _ _ _ _ us hl=>by obtain⟨z0,z1,rfl⟩:=ln2 hl;rfl
 have DZTape:=dm (st:=ji) (ps:=["_law_script","_law_k"]) X G a9 l9 c9 k9 fun _ _ _ _ _ _ us hl=>by obtain⟨z0,z1,rfl⟩:=ln2 hl;rfl
 have DZTake:=dm (st:=jj) (ps:=["_law_tape_here","_law_many_here"]) X G a10 l10 c10 k10 fun _ _ _ _ _ _ us hl=>by obtain⟨z0,z1,rfl⟩:=ln2 hl;rfl
 have DZStretches:=dm (st:=bI) (ps:=["_law_tape_here","_law_many_here"]) X G a11 l11 c11 k11 fun _ _ _ _ _ _ us hl=>by obtain⟨z0,z1,rfl⟩:=ln2 hl;rfl
 have DZSpan:=dm (st:=mO) (ps:=["_law_stretches_here","_law_left"]) X G a12 l12 c12 k12 fun _ _ _ _ _ _ us hl=>by obtain⟨z0,z1,rfl⟩:=ln2 hl;rfl
 have DZPlan:=dm (st:=cG) (ps:=["_law_tape_here","_law_stretches_here","_law_left"]) X G a13 l13 c13 k13 fun _ _ _ _ _ _ us hl=>by obtain⟨z0,z1,z2,rfl⟩:=ln3 hl;rfl
 have DZMany:=dm (st:=lK) (ps:=["_law_tape_here"]) X G a14 l14 c14 k14 fun _ _ _ _ _ _ us hl=>by obtain⟨z0,rfl⟩:=ln1 hl;rfl
 have DZIsPlan:=dm (st:=bL) (ps:=["_law_stretches_here","_law_left","_law_thing"]) X G a15 l15 c15 k15 fun _ _ _ _ _ _ us hl=>by obtain⟨z0,z1,z2,rfl⟩:=ln3 hl;rfl
 have DZSpots:=dm (st:=eE) (ps:=["_law_thing"]) X G a16 l16 c16 k16 fun _ _ _ _ _ _ us hl=>by obtain⟨z0,rfl⟩:=ln1 hl;rfl
 have DZAs:=dm (st:=wz) (ps:=["_law_thing","_law_inner"]) X G a17 l17 c17 k17 fun _ _ _ _ _ _ us hl=>by obtain⟨z0,z1,rfl⟩:=ln2 hl;rfl
 have DZStepOfMany:=dm (st:=bB) (ps:=["_law_tape_here","_law_thing"]) X G a18 l18 c18 k18 fun _ _ _ _ _ _ us hl=>by obtain⟨z0,z1,rfl⟩:=ln2 hl;rfl
 have DZStep:=dm (st:=eU) (ps:=["_law_tape_here","_law_thing"]) X G a19 l19 c19 k19 fun _ _ _ _ _ _ us hl=>by obtain⟨z0,z1,rfl⟩:=ln2 hl;rfl
 have DZBentAt:=dm (st:=dN) (ps:=["_law_tape_here","_law_thing","_law_spot"]) X G a20 l20 c20 k20 fun _ _ _ _ _ _ us hl=>by obtain⟨z0,z1,z2,rfl⟩:=ln3 hl;rfl
 have DZBent:=dm (st:=fM) (ps:=["_law_tape_here","_law_handed"]) X G a21 l21 c21 k21 fun _ _ _ _ _ _ us hl=>by obtain⟨z0,z1,rfl⟩:=ln2 hl;rfl
 have DZRight:=dm (st:=cZ) (ps:=["_law_tape_here","_law_ask","_law_due","_law_handed"]) X G a22 l22 c22 k22 fun _ _ _ _ _ _ us hl=>by obtain⟨z0,z1,z2,z3,rfl⟩:=ln4 hl;rfl
 have DZReworded:=dm (st:=bQ) (ps:=["_law_tape_here","_law_plan_here","_law_word","_law_at"]) X G a23 l23 c23 k23 fun _ _ _ _ _ _ us hl=>by obtain⟨z0,z1,z2,z3,rfl⟩:=ln4 hl;rfl
 have DLaw:=dm (st:=cM) (ps:=["_law_script"]) X G a24 l24 c24 k24 fun _ _ _ _ _ _ us hl=>by obtain⟨z0,rfl⟩:=ln1 hl;rfl
 have cgMostInMask:mg "MOST_IN_MASK" = some (.int 64 ckMostInMask):=mg_of X G w1;have cgMostInTable:mg "MOST_IN_TABLE" = some (.int 200 ckMostInTable):=mg_of X G w2;have hB:∀x:Str,x∈BLs->mg x=none:=by
  intro x hx;replace hx:x∈(["abs","bool","enumerate","int","isinstance","len","list","max","min","range","repr","str","tuple"]:List Str):=hx;simp only[mem_cons,not_mem_nil,or_false] at hx;rcases hx with rfl|rfl|rfl|rfl|rfl|rfl|rfl|rfl|rfl|rfl|rfl|rfl|rfl
  ·exact mg_none_of X G z1
  ·exact mg_none_of X G z2
  ·exact mg_none_of X G z3
  ·exact mg_none_of X G z4
  ·exact mg_none_of X G z5
  ·exact mg_none_of X G z6
  ·exact mg_none_of X G z7
  ·exact mg_none_of X G z8
  ·exact mg_none_of X G z9
  ·exact mg_none_of X G z10
  ·exact mg_none_of X G z11
  ·exact mg_none_of X G z12
  exact mg_none_of X G z13
 refine⟨fnOf "law" "law" (bC cM) (bf cM) (ak cM) .none kV24 dc24 pm24 an24 (.ref cb) ct24,fun s v=>.of_eq rfl,fun base kb nb hbu=>?_⟩;have CCell:=DZCellAt.cal (Qg (P:=l.prog) (w:=w) (base:=base) hB DZCellAt.fn);have CTape:=DZTape.cal (P0 hB CCell DZTape.fn);have CTake0:=DZTake.cal (GZ (P:=l.prog) (w:=w) (mg:=mg) (base:=base));have CTake1:=DZTake.cal (FN (n:=0) hB δ CTake0 DZTake.fn);have CTake2:=DZTake.cal (FN (n:=1) hB δ CTake1 DZTake.fn);have CSts:=DZStretches.cal (T4 hB CTake2 DZStretches.fn);have CIn:=DPlansIn.cal (Ds (P:=l.prog) (w:=w) (base:=base) hB DPlansIn.fn);have CAcross:=DNumbersAcross.cal (Hy (P:=l.prog) (w:=w) (base:=base) hB DNumbersAcross.fn);have CLabs:=DLabelsLeft.cal (Qf (P:=l.prog) (w:=w) (base:=base) hB DLabelsLeft.fn);have CNum:=DIsNumber.cal (K7 (P:=l.prog) (w:=w) (base:=base) hB DIsNumber.fn);have CSome:=DPartsSome.cal (K5 hB CLabs DPartsSome.fn);have CStep:=DIsStep.cal (Hu hB cgMostInMask cgMostInTable CNum CAcross CLabs CSome DIsStep.fn);have CIsP:=DIsPlan.cal (Hv hB CStep CIn DIsPlan.fn);have CSpan:=DZSpan.cal (Qc (P:=l.prog) (w:=w) (base:=base) hB DZSpan.fn);have CMany:=DZMany.cal (Qe hB CTake2 DZMany.fn);have CAs:=DZAs.cal (Vu (P:=l.prog) (w:=w) (base:=base) hB DZAs.fn);have CSMany:=DZStepOfMany.cal (K3 hB CTake2 CAs DZStepOfMany.fn);have CStp:∀n,Cal l.prog w K mg base "_law_step" (n+4) q5_ (qg false):=fun n=>DZStep.cal ((Qa hB CTake2 CSMany DZStep.fn).mono ω);have CPlan:∀n,Cal l.prog w K mg base "_law_plan" (n+2) q3_ (nO n):=by
  intro n
  induction n with
  | zero=>exact DZPlan.cal (Hq (P:=l.prog) (w:=w) (mg:=mg) (base:=base))
  | succ n ih=>exact DZPlan.cal (Qd hB CTake2 CSpan ih DZPlan.fn)
 have CLook:∀n,Cal l.prog w K mg base "_law_is_plan" (n+2) q2_ (jd n):=by
  intro n
  induction n with
  | zero=>exact DZIsPlan.cal (DG (P:=l.prog) (w:=w) (mg:=mg) (base:=base))
  | succ n ih=>exact DZIsPlan.cal (K6 hB CSpan ih DZIsPlan.fn)
 have CSp:∀n,n<=100->Cal l.prog w K mg base "_law_spots" n q16_ (kJ n):=by
  intro n
  induction n with
  | zero=>exact fun _=>DZSpots.cal (Df (P:=l.prog) (w:=w) (mg:=mg) (base:=base))
  | succ n ih=>exact fun h=>DZSpots.cal (K1 ω hB (ih ω) DZSpots.fn)
 have CBt:∀n,Cal l.prog w K mg base "_law_bent_at" (n+4) q4_ (jy n):=by
  intro n
  induction n with
  | zero=>exact DZBentAt.cal (Cy (P:=l.prog) (w:=w) (mg:=mg) (base:=base))
  | succ n ih=>exact DZBentAt.cal (Hw hB (CStp n) CAs ih DZBentAt.fn)
 have CRew:∀n,Cal l.prog w K mg base "_law_reworded" n q1_ (xj n):=by
  intro n
  induction n with
  | zero=>exact DZReworded.cal (JT (P:=l.prog) (w:=w) (mg:=mg) (base:=base))
  | succ n ih=>exact DZReworded.cal (T5 hB ih DZReworded.fn)
 have CBent:=DZBent.cal (Qh hB CTake2 (CSp 81 δ) (CBt 81) DZBent.fn);have CRight:=DZRight.cal (K4 hB CBent DZRight.fn);exact T6 hB CTape CTake2 CSts CMany (CPlan 60) CIsP (CLook 80) CRight (CRew 70) (PySem.W.codeHd_of_K kb hd24) hbu l24 c24
theorem walk {l:PySem.W.OpenLaw}{q:Program}{loose:List Str}{XP:(Str->Option Value)->Heap->Prop}{YP:World->Heap->Prop}{d:DefRec}{K:Params->PySem.W.Frag}(cb T:Addr)(hn:l.most=some 63)(hdf:d.params.defaults=[])
  (hY:∀(w:World)(h:Heap),YP w h->(K w.params).In h/\h.get? T=some (PySem.W.tabObj #[])/\(K w.params).lookup T=none/\PySem.W.CodeHd h cb T)
  (F:∀(w:World)(mg:Str->Option Value)(fa:Addr)(h:Heap),(K w.params).In h->h.Ns mainGlobals mg->mg d.name=some (.ref fa) ->
   ∃fd:FuncData,(∀(s:Shared)(u:Value),BindsTo s fd ⟨[u],[]⟩ [("_law_script",u)])/\∀base:Heap,(K w.params).In base->base.Ns mainGlobals mg->base.BuiltinsAt mg T->dM l.prog w (K w.params) mg base CX0 88 fa fd ["_law_script"] (Fe (K w.params) T))
  (hKT:∀w:World,(K w.params).lookup T=none) :
  PySem.W.WalkO q loose XP YP l.row.toRowW d [] (fun f vs=>PySem.call f vs):=
 L2.Jm (n:=63) (k:=88) (x := "_law_script") (c:=cb) (T:=T) (CX:=fun _=>CX0) (sp:=fun w=>Fe (K w.params) T) hn δ hdf ⟨rfl,δ,δ,rfl⟩ hY F (fun w H a ns hl hT hS=>⟨a,ns,rfl,hS,hl,(fun z=>by
  subst z;rcases hS with h|⟨o,vs,e,h,_⟩
  ·rcases h with h|⟨o,h⟩
   ·rw[hT] at h;cases h
   rw[hT] at h;cases h
  rw[hKT] at h;cases h),⟨#[],hT,trivial,.inl rfl⟩,⟨#[],hT,trivial,.inl rfl⟩,fun _=>rfl⟩) fun _ _ _ _ _ z=>z
end K20
open PySem PySem.W PyProof.Rows
set_option maxRecDepth 100000 in
set_option maxHeartbeats 0 in
theorem PySem.Challenge.cw_caseways_k20_plans_spoilt_anywhere_holds : PySem.Challenge.rw_caseways_k20_plans_spoilt_anywhere.Holds := by
 w_on; o_law; k_head; (case hw=>w_witness2)
 k_fill
 refine K20.walk 171 167 (l:=PySem.Challenge.rw_caseways_k20_plans_spoilt_anywhere) rfl rfl (fun w h Y=>⟨PySem.W.km_in_of Y,PySem.W.km_tabs_of Y 167 (by k_mem),by kernel_rfl,PySem.W.codeHd_of_K (PySem.W.km_in_of Y) (by kernel_rfl)⟩) ?F (fun w=>by kernel_rfl)
 case F=>
  intro w mg fa h KX G hmg
  refine' K20.all_mk (cb:=171) KX G hmg ?a1 ?l1 ?c1 ?k1 ?a2 ?l2 ?c2 ?k2 ?a3 ?l3 ?c3 ?k3 ?a4 ?l4 ?c4 ?k4 ?a5 ?l5 ?c5 ?k5 ?a6 ?l6 ?c6 ?k6 ?a7 ?l7 ?c7 ?k7 ?a8 ?l8 ?c8 ?k8 ?a9 ?l9 ?c9 ?k9 ?a10 ?l10 ?c10 ?k10 ?a11 ?l11 ?c11 ?k11 ?a12 ?l12 ?c12 ?k12 ?a13 ?l13 ?c13 ?k13 ?a14 ?l14 ?c14 ?k14 ?a15 ?l15 ?c15 ?k15 ?a16 ?l16 ?c16 ?k16 ?a17 ?l17 ?c17 ?k17 ?a18 ?l18 ?c18 ?k18 ?a19 ?l19 ?c19 ?k19 ?a20 ?l20 ?c20 ?k20 ?a21 ?l21 ?c21 ?k21 ?a22 ?l22 ?c22 ?k22 ?a23 ?l23 ?c23 ?k23 ?a24 ?l24 ?c24 ?k24 ?z1 ?z2 ?z3 ?z4 ?z5 ?z6 ?z7 ?z8 ?z9 ?z10 ?z11 ?z12 ?z13 ?w1 ?w2 ?e24 ?hd24
  case a1|l1|c1|k1|a2|l2|c2|k2|a3|l3|c3|k3|a4|l4|c4|k4|a5|l5|c5|k5|a6|l6|c6|k6|a7|l7|c7|k7|a8|l8|c8|k8|a9|l9|c9|k9|a10|l10|c10|k10|a11|l11|c11|k11|a12|l12|c12|k12|a13|l13|c13|k13|a14|l14|c14|k14|a15|l15|c15|k15|a16|l16|c16|k16|a17|l17|c17|k17|a18|l18|c18|k18|a19|l19|c19|k19|a20|l20|c20|k20|a21|l21|c21|k21|a22|l22|c22|k22|a23|l23|c23|k23|a24|l24|c24|k24|z1|z2|z3|z4|z5|z6|z7|z8|z9|z10|z11|z12|z13|w1|w2=>k_is
  case e24=>rfl
  case hd24=>kernel_rfl
#print axioms PySem.Challenge.cw_caseways_k20_plans_spoilt_anywhere_holds
