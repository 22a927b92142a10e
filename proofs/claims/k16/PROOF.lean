import PyProof.Rows.All
import Wide.All
import OpenK.AllK
import Wide.FinOn
import Lean
import PyProof.EqAt
import PyProof.EqKinds
import PyProof.TupleCall
import PyProof.NeData
import PySem.Challenge.RW_caseways_k16_first_beyond_and_never_done
local macro_rules | `(tactic| omega) => `(tactic| first | with_reducible assumption | lia | omega +splitDisjunctions)
set_option Elab.async false
set_option linter.all false
set_option maxRecDepth 100000
theorem ω {p : Prop}(h : p := by omega) : p := h
theorem δ {p : Prop}(h : p := by decide) : p := h
theorem ψ {p : Prop}(h : p := by decide +kernel) : p := h
open List (all_cons all_eq_true all_map all_nil any_cons append_assoc append_nil concat_eq_append drop_drop drop_eq_getElem_cons drop_sublist eq_nil_or_concat ext_getElem filterMap_map filter_append find?_cons flatten_cons forIn_cons forIn_nil getElem?_append_right getElem?_cons_succ getElem?_cons_zero getElem?_eq_getElem getElem?_eq_none getElem?_map getElem?_set_self getElem?_toArray getElem_inj getElem_mem length_append length_cons length_drop length_eq_zero_iff length_filter_le length_map length_nil length_range length_set length_singleton length_take length_take_le lookup_cons map_append map_cons map_map map_nil mem_append mem_append_left mem_append_right mem_cons mem_cons_of_mem mem_cons_self mem_filter mem_iff_getElem mem_iff_getElem? mem_map mem_of_getElem? mem_range mem_reverse mem_singleton nil_append nodup_append nodup_cons not_mem_nil of_mem_zip pairwise_append pairwise_cons pairwise_iff_getElem pairwise_map pairwise_reverse pairwise_singleton perm_append_comm replicate_succ reverse_perm set_cons_succ set_cons_zero size_toArray take_length take_of_length_le take_sublist)
open PySem.Heap (get?_push_ne get?_push_of_some get?_push_size get?_update_other get?_update_self lt_size size_push size_update)
open Option (getD_none map_eq_some_iff map_some)
open PySem.W (codeIn fnOf keepIn kitOne mg_none_of mg_of nsIn)
open Array (getElem?_extract getElem?_toList length_toList size_map toList_append toList_extract toList_map toList_push toList_reverse)
open Nat (le_of_eq le_of_lt le_refl le_succ le_trans lt_irrefl lt_of_le_of_lt lt_of_lt_of_le lt_of_sub_pos lt_or_ge lt_succ_of_lt lt_succ_self lt_trans max_eq_right mod_lt ne_of_gt ne_of_lt not_lt_zero sub_self zero_add zero_le zero_lt_succ)
open Int (emod_lt_of_pos emod_nonneg lt_or_le toNat_natCast)
open Bool (and_eq_true eq_false_iff false_eq_true)
namespace L2
open PySem PySem.Spec PyProof.Rows
noncomputable abbrev Key:=Sum Int Str
noncomputable def yC:Key->Value->Bool
 | .inl k,v=>Value.isInt k v
 | .inr x,v=>Value.isStrOf x v
noncomputable def Z9 (w:World):Key->Int
 | .inl k=>hashInt k
 | .inr x=>hashStr w x
theorem cM:∀{k:Key}{v:Value},yC k v=true->(∃i t,k=Sum.inl i/\v=Value.int i t)\/(∃x t,k=Sum.inr x/\v=Value.str x t)
 | .inl i,v,h=>by
  obtain⟨t,e⟩:=Value.isInt_shape (k:=i) (v:=v) h;exact .inl ⟨i,t,rfl,e⟩
 | .inr x,v,h=>by
  obtain⟨t,e⟩:=Value.isStrOf_shape (x:=x) (v:=v) h;exact .inr ⟨x,t,rfl,e⟩
theorem J3 (i:Int)(t:Tok):yC (.inl i) (.int i t)=true:=by simp [yC,Value.isInt]
theorem J2 (x:Str)(t:Tok):yC (.inr x) (.str x t)=true:=by simp [yC,Value.isStrOf]
theorem Ye (a b:Int):decide ((Sum.inl a:Key)=Sum.inl b)=(a == b):=by
 by_cases e:a=b
 ·subst e;simp
 have h:¬(Sum.inl a:Key)=Sum.inl b:=fun q=>e (Sum.inl.inj q);rw[decide_eq_false h];exact(beq_eq_false_iff_ne.mpr e).symm
theorem Yb (a b:Str):decide ((Sum.inr a:Key)=Sum.inr b)=decide (a=b):=by
 by_cases e:a=b
 ·subst e;simp
 have h:¬(Sum.inr a:Key)=Sum.inr b:=fun q=>e (Sum.inr.inj q);rw[decide_eq_false h,decide_eq_false e]
theorem Yd (a:Int)(b:Str):decide ((Sum.inl a:Key)=Sum.inr b)=false:=decide_eq_false (fun q=>nomatch q)
theorem Yc (a:Str)(b:Int):decide ((Sum.inr a:Key)=Sum.inl b)=false:=decide_eq_false (fun q=>nomatch q)
noncomputable def bO (prog:Program)(w:World):PySem.KeyKind prog w Key where
 is:=yC
 hash:=Z9 w
 inj:=fun v a b ha hb=>by
  rcases cM ha with⟨i,t,rfl,rfl⟩|⟨x,t,rfl,rfl⟩
  ·rcases cM hb with⟨j,u,rfl,e⟩|⟨y,u,rfl,e⟩
   ·injection e with e1 _;rw[e1]
   exact nomatch e
  rcases cM hb with⟨j,u,rfl,e⟩|⟨y,u,rfl,e⟩
  ·exact nomatch e
  injection e with e1 _;rw[e1]
 byValue:=fun k v h=>by
  rcases cM h with⟨i,t,rfl,rfl⟩|⟨x,t,rfl,rfl⟩ <;> rfl
 pyHash:=fun hv h=>by
  rcases cM hv with⟨i,t,rfl,rfl⟩|⟨x,t,rfl,rfl⟩
  ·exact wpAny_pyHash_int h
  exact wpAny_pyHash_str h
 eqBool:=fun hu hv h=>by
  rcases cM hu with⟨i,t,rfl,rfl⟩|⟨x,t,rfl,rfl⟩
  ·rcases cM hv with⟨j,u,rfl,rfl⟩|⟨y,u,rfl,rfl⟩
   ·rw[Ye] at h;exact wpAny_eqBool_int h
   rw[Yd] at h;exact SeqAt.EqAt.int_str i t y u _ _ _ _ h
  rcases cM hv with⟨j,u,rfl,rfl⟩|⟨y,u,rfl,rfl⟩
  ·rw[Yc] at h;exact SeqAt.EqAt.str_int x t j u _ _ _ _ h
  rw[Yb] at h;exact wpAny_eqBool_str h
 «strs»:=fun k x t v h=>by
  rcases cM h with⟨i,u,rfl,e⟩|⟨y,u,rfl,e⟩
  ·exact nomatch e
  injection e with e1 _;subst e1;cases v <;> rfl
theorem CZ (prog:Program)(w:World)(i:Int)(t:Tok):(bO prog w).is (.inl i) (.int i t)=true:=J3 i t
theorem CW (prog:Program)(w:World)(x:Str)(t:Tok):(bO prog w).is (.inr x) (.str x t)=true:=J2 x t
inductive V where
 | non|bl (b:Bool)|int (i:Int)|str (x:Str)|byt (b:Array UInt8)|flt (b:UInt64)|ref (a:Addr)|ty (n:String)
 deriving DecidableEq
noncomputable def RelV:V->Value->Prop
 | .non,u=>u=Value.none
 | .bl b,u=>u=Value.bool b
 | .int i,u=>∃t,u=Value.int i t
 | .str x,u=>∃t,u=Value.str x t
 | .byt b,u=>∃t,u=Value.bytes b t
 | .flt b,u=>∃t,u=Value.float b t
 | .ref a,u=>u=Value.ref a
 | .ty n,u=>u=Value.type n
noncomputable abbrev Vals:List V->List Value->Prop:=Paired RelV
theorem Vals.length {xs:List V}{us:List Value}(r:Vals xs us):xs.length=us.length:=Paired.length r
theorem Vals.get:∀{xs:List V}{us:List Value}{i:Nat}{x:V},Vals xs us->xs[i]?=some x->∃u,us[i]?=some u/\RelV x u
 | _,_,_,_,.nil,e=>by simp at e
 | _,_,0,_,.cons r _,e=>by simp at e;subst e;exact⟨_,rfl,r⟩
 | _,_,i+1,x,.cons _ t,e=>by
  obtain⟨u,h1,h2⟩:=Vals.get (i:=i) (x:=x) t (by simpa using e);exact⟨u,by simpa using h1,h2⟩
theorem Vals.set {x:V}{u:Value}(r:RelV x u):∀{xs:List V}{us:List Value}(i:Nat),Vals xs us->Vals (xs.set i x) (us.set i u)
 | _,_,_,.nil=>.nil
 | _,_,0,.cons _ t=>.cons r t
 | _,_,i+1,.cons q t=>.cons q (Vals.set r i t)
theorem Vals.append:∀{xs ys:List V}{us ws:List Value},Vals xs us->Vals ys ws->Vals (xs++ys) (us++ws)
 | _,_,_,_,.nil,s=>s
 | _,_,_,_,.cons r t,s=>.cons r (Vals.append t s)
theorem Vals.take:∀{xs:List V}{us:List Value}(n:Nat),Vals xs us->Vals (xs.take n) (us.take n)
 | _,_,0,_=>.nil
 | _,_,_+1,.nil=>.nil
 | _,_,n+1,.cons r t=>.cons r (Vals.take n t)
theorem Vals.drop:∀{xs:List V}{us:List Value}(n:Nat),Vals xs us->Vals (xs.drop n) (us.drop n)
 | _,_,0,r=>r
 | _,_,_+1,.nil=>.nil
 | _,_,n+1,.cons _ t=>Vals.drop n t
theorem Vals.none_of:∀{xs:List V}{us:List Value}{i:Nat},Vals xs us->xs[i]?=none->us[i]?=none:=fun {xs us i} r e=>by
 have h1:=r.length;have h2:xs.length<=i:=List.getElem?_eq_none_iff.mp e;exact List.getElem?_eq_none_iff.mpr ω
noncomputable def GQ:Option V->Option Value->Prop
 | some v,some u=>RelV v u
 | none,none=>True
 | _,_=>False
noncomputable def KV {κ:Type}:List (κ×V)->List (κ×Value)->Prop:=Paired fun(p:κ×V)(q:κ×Value)=>p.1=q.1/\RelV p.2 q.2
noncomputable def kV:Key->V
 | .inl i=>.int i
 | .inr x=>.str x
inductive HO where
 /-- a list -/
 | lst (xs:List V)
 /-- a tuple (never changes) -/
 | tup (xs:List V)
 /-- a dict whose keys are ints and texts;one whose keys are tuples of ints and texts (the empty one is both) -/
 | dK (kvs:List (Key×V))|dT (kvs:List (List Key×V))
 /-- a set of ints: its members,its size -/
 | set (S:Int->Bool) (n:Nat)
 /-- an instance of the class at C,its dict at dx,its attributes -/
 | ins (C dx:Addr) (fs:List (Str×V))
 /-- the dict of the instance at x -/
 | own (x:Addr)
 /-- the dict of an exception -/
 | xd (fs:List (Str×V))
 /-- a bound method,f of x -/
 | met (f x:Addr)
 /-- a range object lo,lo+1,.. below hi -/
 | rng (lo hi:Int)
 /-- a thing that is known to the object (the script;a dict while a loop walks it): read,never written while it is so -/
 | frz (o:Obj) (u:HO)
 /-- a code object's table -/
 | tbl (ps:Array Value)
 /-- any other thing,by what is true of its one object (a def of one's own: SetO a S n:=HO.ext fun h=>..) -/
 | ext (φ:Heap->Prop)
noncomputable abbrev Hp:=Addr->Option HO
noncomputable def upd (H:Hp)(a:Addr)(o:HO):Hp:=fun b=>if b=a then some o else H b
theorem aB {H:Hp}{a:Addr}{o:HO}:upd H a o a=some o:=by unfold upd;rw[if_pos rfl]
theorem aH {H:Hp}{a b:Addr}{o:HO}(h:b≠a):upd H a o b=H b:=by unfold upd;rw[if_neg h]
theorem aF {H:Hp}{a b:Addr}{o:HO}(h:H a=some o)(h':H b=none):a≠b:=by
 intro e;subst e;rw[h] at h';cases h'
section
variable (P:Program)(w:World)
noncomputable def bN (H:Hp)(h:Heap)(a:Addr):HO->Prop
 | .lst xs=>xs.length<=sizeLine/\∃(its:List Value)(n:Nat),Vals xs its/\h.get? a=some { cls:=.type "list",data:=.seq its.toArray n }
 | .tup xs=>xs.length<=sizeLine/\∃its:List Value,Vals xs its/\IsTup h a its.toArray
 | .dK kvs=>kvs.length<=sizeLine/\(a == sysModules)=false/\∃vs,KV kvs vs/\h.DictOf (bO P w) a vs
 | .dT kvs=>kvs.length<=sizeLine/\(a == sysModules)=false/\∃xs:List (List Key×Addr×Value),
   Paired (fun(p:List Key×V)(q:List Key×Addr×Value)=>p.1=q.1/\H q.2.1=some (.tup (p.1.map kV))/\RelV p.2 q.2.2) kvs xs /\
   ∃o es ep,h.get? a=some o/\o.ExactDict/\o.data=.dict es ep/\es.toList=xs.map (entryOfKey (tupleKind (bO P w)))/\(xs.map (·.1)).Nodup
 | .set S n=>h.SetOf (intKind P w) a S n
 | .ins C dx fs=>H dx=some (.own a)/\fs.length<=1000/\dx≠a/\h.get? a=some (PySem.W.instObj C dx) /\
   ∃mA,h.Ns1 dx mA/\(∀f,GQ (fs.lookup f) (mA f))/\PySem.Within mA (fs.map (·.1))
 | .own _=>∃o,h.get? a=some o
 | .xd fs=>∃mA,h.Ns1 a mA/\∀f,GQ (fs.lookup f) (mA f)
 | .rng lo hi=>∃t u v,h.get? a=some { cls:=.type "range",data:=.fields #[.int lo t,.int hi u,.int 1 v] }
 | .frz o u=>h.get? a=some o/\bN H h a u
 | .tbl ps=>h.get? a=some { cls:=.none,data:=.fields ps }
 | .met f x=>h.get? a=some (PySem.W.methodObj (.ref f) (.ref x))
 | .ext φ=>φ h/\(∃o,h.get? a=some o)/\∀h1 h2:Heap,φ h1->(∀o,h1.get? a=some o->h2.get? a=some o)->φ h2
noncomputable def HOk (H:Hp)(h:Heap):Prop:=∀a o,H a=some o->bN P w H h a o
end
section
variable {P:Program}{w:World}{H H':Hp}{h h':Heap}{a:Addr}{o:HO}
theorem bN.lt (x:bN P w H h a o):a<h.objs.size:=by
 cases o with
 | lst xs=>obtain⟨_,_,_,_,e⟩:=x;exact lt_size e
 | tup xs=>obtain⟨_,_,_,p⟩:=x;exact p.lt
 | dK kvs=>obtain⟨_,_,_,_,o,_,_,e,_⟩:=x;exact lt_size e
 | dT kvs=>obtain⟨_,_,_,_,o,_,_,e,_⟩:=x;exact lt_size e
 | set S n=>obtain⟨o,_,_,_,e,_⟩:=x;exact lt_size e
 | ins C dx fs=>obtain⟨_,_,_,e,_⟩:=x;exact lt_size e
 | own y=>obtain⟨_,e⟩:=x;exact lt_size e
 | xd fs=>obtain⟨_,⟨_,_,_,e,_⟩,_⟩:=x;exact lt_size e
 | rng lo hi=>obtain⟨_,_,_,e⟩:=x;exact lt_size e
 | frz ob u=>obtain⟨e,_⟩:=x;exact lt_size e
 | tbl ps=>exact lt_size (show h.get? a=some _ from x)
 | met f y=>exact lt_size (show h.get? a=some _ from x)
 | ext φ=>obtain⟨_,⟨_,e⟩,_⟩:=x;exact lt_size e
theorem Paired.Zo {α β:Type}{F G:α->β->Prop}:∀{l₁:List α}{l₂:List β},Paired F l₁ l₂->(∀a b,F a b->G a b)->Paired G l₁ l₂
 | _,_,.nil,_=>.nil
 | _,_,.cons r t,f=>.cons (f _ _ r) (Paired.Zo t f)
theorem bN.stay (x:bN P w H h a o)(k:∀b u,(b=a\/H b=some (.own a))->h.get? b=some u->h'.get? b=some u)
  (ho:∀b,H b=some (.own a)->H' b=some (.own a)) (ht:∀b xs,H b=some (.tup xs)->H' b=some (.tup xs)):bN P w H' h' a o:=by
 induction o with
 | lst xs=>obtain⟨z,its,n,r,e⟩:=x;exact⟨z,its,n,r,k _ _ (.inl rfl) e⟩
 | tup xs=>obtain⟨z,its,r,ob,e,c⟩:=x;exact⟨z,its,r,ob,k _ _ (.inl rfl) e,c⟩
 | dK kvs=>obtain⟨z,y,vs,r,ob,es,ep,e,c⟩:=x;exact⟨z,y,vs,r,ob,es,ep,k _ _ (.inl rfl) e,c⟩
 | dT kvs=>
  obtain⟨z,y,xs,r,ob,es,ep,e,c⟩:=x;exact⟨z,y,xs,Paired.Zo r fun p q z=>⟨z.1,ht _ _ z.2.1,z.2.2⟩,ob,es,ep,k _ _ (.inl rfl) e,c⟩
 | set S n=>obtain⟨ob,es,ep,t,e,c⟩:=x;exact⟨ob,es,ep,t,k _ _ (.inl rfl) e,c⟩
 | ins C dx fs=>
  obtain⟨d,z,ne,e,mA,⟨od,es,ep,e2,c⟩,r⟩:=x;exact⟨ho _ d,z,ne,k _ _ (.inl rfl) e,mA,⟨od,es,ep,k _ _ (.inr d) e2,c⟩,r⟩
 | own y=>obtain⟨ob,e⟩:=x;exact⟨ob,k _ _ (.inl rfl) e⟩
 | xd fs=>obtain⟨mA,⟨od,es,ep,e,c⟩,r⟩:=x;exact⟨mA,⟨od,es,ep,k _ _ (.inl rfl) e,c⟩,r⟩
 | rng lo hi=>obtain⟨t,u,v,e⟩:=x;exact⟨t,u,v,k _ _ (.inl rfl) e⟩
 | frz ob u ih=>obtain⟨e,q⟩:=x;exact⟨k _ _ (.inl rfl) e,ih q⟩
 | tbl ps=>
  have e:h.get? a=some { cls:=.none,data:=.fields ps }:=x;show h'.get? a=some { cls:=.none,data:=.fields ps };exact k a _ (.inl rfl) e
 | met f y=>
  have e:h.get? a=some (PySem.W.methodObj (.ref f) (.ref y)):=x;show h'.get? a=some (PySem.W.methodObj (.ref f) (.ref y));exact k a _ (.inl rfl) e
 | ext φ=>obtain⟨p,⟨o,e⟩,st⟩:=x;exact⟨st _ _ p fun o q=>k _ _ (.inl rfl) q,⟨o,k _ _ (.inl rfl) e⟩,st⟩
theorem HOk.lt (x:HOk P w H h)(e:H a=some o):a<h.objs.size:=(x a o e).lt
theorem HOk.fresh (x:HOk P w H h)(e:h.objs.size<=a):H a=none:=by
 cases q:H a with
 | none=>rfl
 | some u=>exact absurd (lt_of_lt_of_le (x.lt q) e) (lt_irrefl _)
theorem HOk.kept (x:HOk P w H h)(k:∀b u,h.get? b=some u->h'.get? b=some u):HOk P w H h':=fun a o e=>
 (x a o e).stay (fun b u _ q=>k b u q) (fun _ q=>q) fun _ _ q=>q
theorem HOk.laid (x:HOk P w H h)(k:∀b u,h.get? b=some u->h'.get? b=some u)(hp:h.objs.size<=a)(new:bN P w (upd H a o) h' a o):HOk P w (upd H a o) h':=fun b u e=>by
 have hn:=x.fresh hp;by_cases hb:b=a
 ·subst hb;rw[aB] at e;cases e;exact new
 rw[aH hb] at e;exact(x b u e).stay (fun c v _ q=>k c v q) (fun c q=>by rw[aH (aF q hn)];exact q) fun c xs q=>by rw[aH (aF q hn)];exact q
end
noncomputable def Rd (H:Hp)(a:Addr)(u:HO):Prop:=H a=some u\/∃o,H a=some (.frz o u)
theorem Rd.ok {P:Program}{w:World}{H:Hp}{h:Heap}{a:Addr}{u:HO}(r:Rd H a u)(x:HOk P w H h):bN P w H h a u:=by
 rcases r with r|⟨o,r⟩
 ·exact x a u r
 obtain⟨_,q⟩:=x a _ r;exact q
noncomputable def Mut:Option HO->Prop
 | some (.lst _)=>True
 | some (.dK _)=>True
 | some (.dT _)=>True
 | some (.set _ _)=>True
 | some (.ins _ _ _)=>True
 | some (.ext _)=>True
 | _=>False
section
variable {P:Program}{w:World}{H:Hp}{h h':Heap}{x e:Addr}{o':HO}
theorem HOk.write (ok:HOk P w H h)(mu:Mut (H x))(he:e=x\/H e=some (.own x))(k:∀b u,b≠e->h.get? b=some u->h'.get? b=some u)(heo:∃u,h'.get? e=some u)
  (new:bN P w (upd H x o') h' x o'):HOk P w (upd H x o') h':=fun b u q=>by
 have nown:∀c y,H c=some (.own y)->c≠x:=fun c y r z=>by subst z;rw[r] at mu;exact mu
 have ntup:∀c xs,H c=some (.tup xs)->c≠x:=fun c xs r z=>by subst z;rw[r] at mu;exact mu
 by_cases hb:b=x
 ·subst hb;rw[aB] at q;cases q;exact new
 rw[aH hb] at q;by_cases hbe:b=e
 ·have q':H b=some (.own x):=by
   rcases he with z|z
   ·exact absurd (hbe.trans z) hb
   rw[hbe];exact z
  rw[q] at q';cases q';obtain⟨v,hv⟩:=heo;exact⟨v,by rw[hbe];exact hv⟩
 refine(ok b u q).stay (fun c v hc r=>k c v ?_ r) (fun c r=>by rw[aH (nown c b r)];exact r) fun c xs r=>by rw[aH (ntup c xs r)];exact r
 rcases hc with rfl|hc
 ·exact hbe
 rintro rfl;rcases he with z|z
 ·exact nown c b hc z
 rw[hc] at z;cases z;exact hb rfl
end
structure Un (fs ex:List Addr)(H H':Hp)(h h':Heap):Prop where
 keep:∀b o,h.get? b=some o->H b=none->b∉fs->b∉ex->h'.get? b=some o
 slot:∀b o,h.get? b=some o->H b=none->b∈fs->b∉ex->∃sl,h'.get? b=some { o with slots:=sl }
 free:∀b o,h.get? b=some o->H b=none->b∉ex->H' b=none
 there:∀b o,h.get? b=some o->b∉ex->∃o',h'.get? b=some o'
 tups:∀b xs,H b=some (.tup xs)->H' b=some (.tup xs)
 frzs:∀b o u,H b=some (.frz o u)->H' b=some (.frz o u)
 tbls:∀b ps,H b=some (.tbl ps)->∃more,H' b=some (.tbl (ps++more))
section
variable {fs fs' ex ex':List Addr}{H H1 H2:Hp}{h h1 h2 h':Heap}{a x e:Addr}{o:HO}
theorem Un.any (u:Un fs ex H H1 h h1){b:Addr}{ob:Obj}(q:h.get? b=some ob)(n:H b=none)(hx:b∉ex):∃sl,h1.get? b=some { ob with slots:=sl }:=by
 by_cases hb:b∈fs
 ·exact u.slot b ob q n hb hx
 exact⟨ob.slots,u.keep b ob q n hb hx⟩
theorem Un.kept (k:∀b u,h.get? b=some u->h'.get? b=some u):Un fs ex H H h h':=
 ⟨fun b ob q _ _ _=>k b ob q,fun b ob q _ _ _=>⟨ob.slots,k b ob q⟩,fun _ _ _ n _=>n,fun b ob q _=>⟨ob,k b ob q⟩,fun _ _ q=>q,fun _ _ _ q=>q,fun _ ps q=>⟨#[],by rw[q];simp⟩⟩
theorem Un.refl:Un fs ex H H h h:=Un.kept fun _ _ q=>q
theorem Un.laid (k:∀b u,h.get? b=some u->h'.get? b=some u)(hp:h.objs.size<=a)(hn:H a=none):Un fs ex H (upd H a o) h h' where
 keep:=fun b u q _ _ _=>k b u q
 slot:=fun b u q _ _ _=>⟨u.slots,k b u q⟩
 free:=fun b u q n _=>by rw[aH (ne_of_lt (lt_of_lt_of_le (lt_size q) hp))];exact n
 there:=fun b u q _=>⟨u,k b u q⟩
 tups:=fun b xs q=>by rw[aH (aF q hn)];exact q
 frzs:=fun b u xs q=>by rw[aH (aF q hn)];exact q
 tbls:=fun b ps q=>⟨#[],by rw[aH (aF q hn),q];simp⟩
theorem Un.write (mu:Mut (H x))(he:e=x\/H e=some (.own x))(k:∀b u,b≠e->h.get? b=some u->h'.get? b=some u)(heo:∃u,h'.get? e=some u):Un fs ex H (upd H x o) h h':=by
 have hx:∀b,H b=none->b≠x:=fun b n z=>by subst z;rw[n] at mu;exact mu
 have hb:∀b,H b=none->b≠e:=fun b n z=>by
  subst z;rcases he with r|r
  ·exact hx b n r
  rw[n] at r;cases r
 have hm:∀b u,H b=some u->¬Mut (some u)->b≠x:=fun b u q nm z=>by subst z;rw[q] at mu;exact nm mu
 refine⟨fun b u q n _ _=>k b u (hb b n) q,fun b u q n _ _=>⟨u.slots,k b u (hb b n) q⟩,fun b u q n _=>by rw[aH (hx b n)];exact n,fun b u q _=>?_,
  fun b xs q=>by rw[aH (hm b _ q fun z=>z)];exact q,fun b u xs q=>by rw[aH (hm b _ q fun z=>z)];exact q,fun b ps q=>⟨#[],by rw[aH (hm b _ q fun z=>z),q];simp⟩⟩
 by_cases hbe:b=e
 ·subst hbe;exact heo
 exact⟨u,k b u hbe q⟩
end
noncomputable def trk (h:Heap)(H:Hp):List Addr:=(List.range h.objs.size).filter fun a=>(H a).isSome
noncomputable def Aq (h:Heap)(H:Hp):Heap:=PySem.W.hideAll h (trk h H)
theorem J8 (h:Heap)(H:Hp):(Aq h H).objs.size=h.objs.size:=PySem.W.hideAll_size _ _
theorem Ql {h:Heap}{H:Hp}{b:Addr}{o:Obj}(e:h.get? b=some o)(n:H b=none):(Aq h H).get? b=some o:=
 PySem.W.hideAll_get _ e fun hm=>by
  have q:(H b).isSome=true:=(mem_filter.mp hm).2;rw[n] at q;simp at q
theorem Uv {h:Heap}{H:Hp}{b:Addr}{o:Obj}(e:(Aq h H).get? b=some o):h.get? b=some o/\H b=none:=by
 have e':h.get? b=some o:=PySem.W.of_hideAll (trk h H) e;refine⟨e',?_⟩;cases q:H b with
 | none=>rfl
 | some x=>
  have hm:b∈trk h H:=mem_filter.mpr ⟨mem_range.mpr (lt_size e'),by simp [q]⟩;have z:(Aq h H).get? b=none:=PySem.W.hideAll_none (trk h H) hm;rw[z] at e;cases e
structure Mod (K:PySem.W.Frag)(mg:Str->Option Value)(base:Heap):Prop where
 kin:K.In base
 glob:base.Ns mainGlobals mg
 blt:∃mb,base.Ns builtinsNs mb/\∀x:Str,x ≠ "__name__" -> mb x=bootBuiltins x
 nolimit:base.NoLimit
structure Cx where
 prog:Program
 w:World
 K:PySem.W.Frag
 mg:Str->Option Value
 base:Heap
 A:Around
 N:List Str
 s₀:Shared
 H₀:Hp
 env:Env
 outer:List Env
 stack:List Env
 ex:List Addr
 fn:Str->Bool
 calm:Bool
 pn:List (Addr×Obj)
 xe:Value->Shared->Prop
noncomputable def frs (l:List Env):List Addr:=l.filterMap (·.frame)
noncomputable abbrev Cx.fs (X:Cx):List Addr:=frs X.outer
noncomputable def Vis (sc:Scope)(x:Str):Prop:=sc.names.lookup x=some .local\/sc.names.lookup x=some .cell\/sc.names.lookup x=some .free
noncomputable def Loc (sc:Scope)(x:Str):Prop:=sc.names.lookup x=some .local\/sc.names.lookup x=some .cell
noncomputable def Look (env:Env)(h:Heap)(m:Str->Option Value)(x:Str)(u:Value):Prop:=
 (env.kindOf x=some .local/\m x=some u)\/((env.kindOf x=some .cell\/env.kindOf x=some .free)/\∃c,env.cells.lookup x=some c/\h.IsCell c (some u))
structure Cx.Ok (X:Cx):Prop where
 mod:Mod X.K X.mg X.base
 kind:X.env.scope.kind=.function
 glob:X.env.globals=mainGlobals
 blt:X.env.builtins=builtinsNs
 above:X.s₀.heap.objs.size<=X.env.locals
 inj:∀x y c,X.env.cells.lookup x=some c->X.env.cells.lookup y=some c->x=y
 has:∀x,(X.env.kindOf x=some .cell\/X.env.kindOf x=some .free)->∃c,X.env.cells.lookup x=some c
 cab:∀x c,X.fn x=true->X.env.cells.lookup x=some c->X.s₀.heap.objs.size<=c
 hd:X.calm=true->X.A.handled=none
 frames:X.A.frames=some X.stack
 stk:X.stack=X.outer\/(X.stack=X.env::X.outer/\X.env.frame=some X.env.locals)
 exf:∀b∈X.ex,b≠X.env.locals/\∀x c,X.env.cells.lookup x=some c->c≠b
 bs:∀b o,X.base.get? b=some o->X.s₀.heap.get? b=some o/\X.H₀ b=none
 bsz:X.base.objs.size<=X.s₀.heap.objs.size
 noex:∀b o,X.base.get? b=some o->b∉X.ex
 exfs:∀b∈X.ex,b∉X.fs
 tH:X.s₀.heap.FunFrames X.base X.outer
 frf:∀b∈X.fs,X.H₀ b=none
structure Inv (X:Cx)(pins:List (Addr×Obj))(σ:List (Option V))(H:Hp)(s:Shared):Prop where
 ok:X.Ok
 os:s.os=X.s₀.os
 bare:AllBare s.gens
 base:Un X.fs X.ex X.H₀ H X.s₀.heap s.heap
 loc:∃m,s.heap.Ns X.env.locals m/\∀(i:Nat)(x:Str)(v:V),X.N[i]?=some x->σ[i]?=some (some v)->Vis X.env.scope x->∃u,RelV v u/\Look X.env s.heap m x u
 cell:∀x c,X.env.cells.lookup x=some c->∃v,s.heap.IsCell c v
 free:H X.env.locals=none
 freeC:∀x c,X.env.cells.lookup x=some c->H c=none
 pin:∀p∈X.pn++pins,s.heap.get? p.1=some p.2/\H p.1=none/\p.1≠X.env.locals/\p.1∉X.fs/\∀v,p.2.data≠.cell v
 hok:HOk X.prog X.w H s.heap
 len:σ.length=X.N.length
section
variable {X:Cx}{pins:List (Addr×Obj)}{σ:List (Option V)}{H H':Hp}{s:Shared}{h':Heap}
theorem Cx.Ok.Z2 (ok:X.Ok){b:Addr}{o:Obj}(e:X.base.get? b=some o):b∉X.fs:=fun hb=>by
 have:=(ok.tH.mem hb).1;rw[e] at this;cases this
theorem Inv.bs (I:Inv X pins σ H s):∀b o,X.base.get? b=some o->s.heap.get? b=some o/\H b=none:=fun b o e=>
 ⟨I.base.keep b o (I.ok.bs b o e).1 (I.ok.bs b o e).2 (I.ok.Z2 e) (I.ok.noex b o e),I.base.free b o (I.ok.bs b o e).1 (I.ok.bs b o e).2 (I.ok.noex b o e)⟩
theorem Inv.bk (I:Inv X pins σ H s):∀b o,X.base.get? b=some o->s.heap.get? b=some o:=fun b o e=>(I.bs b o e).1
theorem Inv.mod (I:Inv X pins σ H s):Mod X.K X.mg X.base:=I.ok.mod
theorem Inv.kIn (I:Inv X pins σ H s):X.K.In s.heap:=I.ok.mod.kin.keeps I.bk
theorem Inv.lt (I:Inv X pins σ H s):X.env.locals<s.heap.objs.size:=let ⟨_,hn,_⟩:=I.loc;hn.lt
theorem Inv.sz (I:Inv X pins σ H s):X.s₀.heap.objs.size<=s.heap.objs.size:=le_trans I.ok.above (le_of_lt I.lt)
theorem Inv.XH (I:Inv X pins σ H s){a:Addr}(h:s.heap.objs.size<=a):a∉X.fs:=fun hb=>by
 obtain⟨_,o,ho,_⟩:=I.ok.tH.mem hb;exact absurd (lt_of_lt_of_le (lt_size ho) (le_trans I.sz h)) (lt_irrefl _)
theorem Inv.cne (I:Inv X pins σ H s):∀x c,X.env.cells.lookup x=some c->c≠X.env.locals:=fun x c e z=>by
 obtain⟨v,o,ho,hd⟩:=I.cell x c e;obtain⟨m,⟨o',es,ep,ho',hd',_⟩,_⟩:=I.loc;rw[z,ho'] at ho;cases ho;rw[hd'] at hd;cases hd
theorem Inv.tH (I:Inv X pins σ H s):s.heap.FunFrames X.base X.outer:=by
 have all:∀(l:List Env),(∀b∈frs l,b∈X.fs)->X.s₀.heap.FunFrames X.base l->s.heap.FunFrames X.base l:=by
  intro l
  induction l with
  | nil=>intro _ _;trivial
  | cons env r ih=>
   intro hs hl;obtain⟨hk,⟨L,o,hf,hn,ho,hd⟩,hr⟩:=hl;have hL:L∈X.fs:=hs L (by unfold frs;rw[List.filterMap_cons,hf];exact mem_cons_self);obtain⟨sl,e⟩:=I.base.slot L o ho (I.ok.frf L hL) hL fun z=>I.ok.exfs L z hL;exact⟨hk,⟨L,_,hf,hn,e,hd⟩,ih (fun b hb=>hs b (by unfold frs;rw[List.filterMap_cons,hf];exact mem_cons_of_mem _ hb)) hr⟩
 exact all X.outer (fun _ hb=>hb) I.ok.tH
theorem Inv.stack (I:Inv X pins σ H s):s.heap.FunFrames X.base X.stack:=by
 rcases I.ok.stk with e|⟨e,hf⟩
 ·rw[e];exact I.tH
 rw[e];obtain⟨m,hn,_⟩:=I.loc;refine .cons (by rw[I.ok.kind];decide) hf hn ?_ I.tH;exact Heap.get?_none_of_le (le_trans I.ok.bsz I.ok.above)
theorem Inv.uq (I:Inv X pins σ H s):∀b∈frs X.stack,b∈X.env.locals::X.fs:=fun b hb=>by
 rcases I.ok.stk with e|⟨e,hf⟩
 ·rw[e] at hb;exact mem_cons_of_mem _ hb
 rw[e] at hb;unfold frs at hb;rw[List.filterMap_cons,hf] at hb;exact hb
theorem Inv.G7 (I:Inv X pins σ H s):∀b∈frs X.stack,H b=none:=fun b hb=>by
 rcases mem_cons.mp (I.uq b hb) with e|hb
 ·rw[e];exact I.free
 obtain⟨_,o,ho,_⟩:=I.ok.tH.mem hb;exact I.base.free b o ho (I.ok.frf b hb) fun z=>I.ok.exfs b z hb
theorem Inv.step {g':Array GenState}{t':Nat}{d':Drawn}{ch:List Addr}(I:Inv X pins σ H s)
  (hch:∀b∈ch,(b∈X.ex\/X.s₀.heap.objs.size<=b)/\b≠X.env.locals/\(∀x c,X.env.cells.lookup x=some c->c≠b)/\∀p∈X.pn++pins,p.1≠b)
  (keep:∀b o,b≠X.env.locals->b∉X.fs->b∉ch->s.heap.get? b=some o->H b=none->h'.get? b=some o)
  (slot:∀b o,b≠X.env.locals->b∈X.fs->b∉ch->s.heap.get? b=some o->H b=none->∃sl,h'.get? b=some { o with slots:=sl }) (free:∀b o,b∉ch->s.heap.get? b=some o->H b=none->H' b=none)
  (there:∀b o,b∉ch->s.heap.get? b=some o->∃o',h'.get? b=some o')
  (tups:∀b xs,H b=some (.tup xs)->H' b=some (.tup xs)) (frzs:∀b o u,H b=some (.frz o u)->H' b=some (.frz o u)) (tbls:∀b ps,H b=some (.tbl ps)->∃more,H' b=some (.tbl (ps++more)))
  (ns:∀m,s.heap.Ns X.env.locals m->h'.Ns X.env.locals m) (hok:HOk X.prog X.w H' h') (hg:AllBare g') :
  Inv X pins σ H' { s with heap:=h',gens:=g',drawn:=d',toks:=t' }:=by
 have neL:∀b o,X.s₀.heap.get? b=some o->b≠X.env.locals:=fun b o e=>ne_of_lt (lt_of_lt_of_le (lt_size e) I.ok.above);have neC:∀b o,X.s₀.heap.get? b=some o->b∉X.ex->b∉ch:=fun b o e hx hb=>by
  rcases(hch b hb).1 with z|z
  ·exact hx z
  exact absurd (lt_of_lt_of_le (lt_size e) z) (lt_irrefl _)
 have cellK:∀x c,X.env.cells.lookup x=some c->∀v,s.heap.IsCell c v->h'.IsCell c v:=fun x c e v ⟨o,ho,hd⟩=>by
  have nch:c∉ch:=fun z=>(hch c z).2.2.1 x c e rfl;by_cases hc:c∈X.fs
  ·obtain⟨sl,q⟩:=slot c o (I.cne x c e) hc nch ho (I.freeC x c e);exact⟨_,q,hd⟩
  exact⟨o,keep c o (I.cne x c e) hc nch ho (I.freeC x c e),hd⟩
 refine⟨I.ok,I.os,hg,⟨fun b o e n hb hx=>?_,fun b o e n hb hx=>?_,fun b o e n hx=>?_,fun b o e hx=>?_,fun b xs e=>tups b xs (I.base.tups b xs e),fun b o xs e=>frzs b o xs (I.base.frzs b o xs e),fun b ps e=>?_⟩,?_,fun x c e=>?_,?_,fun x c e=>?_,fun p hp=>?_,hok,I.len⟩
 ·exact keep b o (neL b o e) hb (neC b o e hx) (I.base.keep b o e n hb hx) (I.base.free b o e n hx)
 ·obtain⟨sl,e1⟩:=I.base.slot b o e n hb hx;obtain⟨sl',e2⟩:=slot b _ (neL b o e) hb (neC b o e hx) e1 (I.base.free b o e n hx);exact⟨sl',e2⟩
 ·obtain⟨o',e1⟩:=I.base.there b o e hx;exact free b o' (neC b o e hx) e1 (I.base.free b o e n hx)
 ·obtain⟨o',e1⟩:=I.base.there b o e hx;exact there b o' (neC b o e hx) e1
 ·obtain⟨m1,e1⟩:=I.base.tbls b ps e;obtain⟨m2,e2⟩:=tbls b _ e1;exact⟨m1++m2,by rw[e2,Array.append_assoc]⟩
 ·obtain⟨m,hn,hl⟩:=I.loc;refine⟨m,ns m hn,fun i x v e1 e2 e3=>?_⟩;obtain⟨u,r,l⟩:=hl i x v e1 e2 e3;refine⟨u,r,?_⟩;rcases l with l|⟨k,c,e,z⟩
  ·exact .inl l
  exact .inr ⟨k,c,e,cellK x c e _ z⟩
 ·obtain⟨v,z⟩:=I.cell x c e;exact⟨v,cellK x c e v z⟩
 ·obtain⟨m,⟨o,_,_,ho,_⟩,_⟩:=I.loc;exact free _ o (fun z=>(hch _ z).2.1 rfl) ho I.free
 ·obtain⟨v,o,ho,hd⟩:=I.cell x c e;exact free c o (fun z=>(hch c z).2.2.1 x c e rfl) ho (I.freeC x c e)
 obtain⟨e,n,ne,nf,d⟩:=I.pin p hp;have nch:p.1∉ch:=fun z=>(hch p.1 z).2.2.2 p hp rfl;exact⟨keep p.1 p.2 ne nf nch e n,free p.1 p.2 nch e n,ne,nf,d⟩
theorem Inv.un {t':Nat}(I:Inv X pins σ H s)(u:Un X.fs [] H H' s.heap h')(hok:HOk X.prog X.w H' h'):Inv X pins σ H' { s with heap:=h',toks:=t' }:=by
 obtain⟨m,⟨o,es,ep,ho,r⟩,_⟩:=id I.loc;obtain⟨sl,hL⟩:=u.any ho I.free (by simp);exact I.step (g':=s.gens) (d':=s.drawn) (ch:=[]) (fun _ z=>nomatch z) (fun b o _ hb _ e n=>u.keep b o e n hb (by simp)) (fun b o _ hb _ e n=>u.slot b o e n hb (by simp)) (fun b o _ e n=>u.free b o e n (by simp)) (fun b o _ e=>u.there b o e (by simp)) u.tups u.frzs u.tbls (fun m' hm=>by
  obtain⟨o',es',ep',ho',r'⟩:=hm;rw[ho] at ho';cases ho';exact⟨_,es',ep',hL,r'⟩) hok I.bare
theorem Inv.call {g':Array GenState}{t':Nat}{d':Drawn}{ch:List Addr}(I:Inv X pins σ H s)(u:Un (frs X.stack) ch H H' s.heap h')(hok:HOk X.prog X.w H' h')(hg:AllBare g')
  (hch:∀b∈ch,(b∈X.ex\/X.s₀.heap.objs.size<=b)/\b≠X.env.locals/\(∀x c,X.env.cells.lookup x=some c->c≠b)/\∀p∈X.pn++pins,p.1≠b) :
  Inv X pins σ H' { s with heap:=h',gens:=g',drawn:=d',toks:=t' }:=by
 obtain⟨m,⟨o,es,ep,ho,r⟩,_⟩:=id I.loc;obtain⟨sl,hL⟩:=u.any ho I.free fun z=>(hch _ z).2.1 rfl;exact I.step (ch:=ch) hch (fun b o hL hb hc e n=>u.keep b o e n (fun z=>(mem_cons.mp (I.uq b z)).elim hL hb) hc) (fun b o _ _ hc e n=>u.any e n hc) (fun b o hc e n=>u.free b o e n hc) (fun b o hc e=>u.there b o e hc) u.tups u.frzs u.tbls (fun m' hm=>by
  obtain⟨o',es',ep',ho',r'⟩:=hm;rw[ho] at ho';cases ho';exact⟨_,es',ep',hL,r'⟩) hok hg
theorem Inv.turned {t':Nat}{it:Addr}(I:Inv X pins σ H s)(k:∀b o,b≠it->s.heap.get? b=some o->h'.get? b=some o)(hn:H it=none)(hL:it≠X.env.locals)
  (h1:it∈X.ex\/X.s₀.heap.objs.size<=it) (h2:∀x c,X.env.cells.lookup x=some c->c≠it) (h3:∀p∈X.pn++pins,p.1≠it):Inv X pins σ H { s with heap:=h',toks:=t' }:=by
 have nit:∀b u,H b=some u->b≠it:=fun b u e z=>by rw[z,hn] at e;cases e
 refine I.step (g':=s.gens) (d':=s.drawn) (ch:=[it]) (fun b hb=>?_) (fun b o _ _ hc e _=>k b o (fun z=>hc (by simp [z])) e) (fun b o _ _ hc e _=>⟨o.slots,k b o (fun z=>hc (by simp [z])) e⟩) (fun _ _ _ _ n=>n)
  (fun b o hc e=>⟨o,k b o (fun z=>hc (by simp [z])) e⟩) (fun _ _ e=>e) (fun _ _ _ e=>e) (fun b ps e=>⟨#[],by rw[e];simp⟩) (fun m hm=>?_) (fun b u e=>?_) I.bare
 ·have e:b=it:=by simpa using hb
  subst e;exact⟨h1,hL,h2,h3⟩
 ·obtain⟨o,es,ep,ho,r⟩:=hm;exact⟨o,es,ep,k _ o (Ne.symm hL) ho,r⟩
 refine(I.hok b u e).stay (fun c v hc q=>k c v ?_ q) (fun _ q=>q) fun _ _ q=>q;rcases hc with z|z
 ·rw[z];exact nit b u e
 exact nit c _ z
theorem Inv.tok (I:Inv X pins σ H s)(t:Nat):Inv X pins σ H { s with toks:=t }:=I.un (h':=s.heap) (t':=t) Un.refl I.hok
theorem Inv.kept {t':Nat}(I:Inv X pins σ H s)(k:∀b u,s.heap.get? b=some u->h'.get? b=some u):Inv X pins σ H { s with heap:=h',toks:=t' }:=I.un (Un.kept k) (I.hok.kept k)
theorem Inv.laid {a:Addr}{o:HO}{t':Nat}(I:Inv X pins σ H s)(k:∀b u,s.heap.get? b=some u->h'.get? b=some u)(hp:s.heap.objs.size<=a)(new:bN X.prog X.w (upd H a o) h' a o) :
  Inv X pins σ (upd H a o) { s with heap:=h',toks:=t' }:=I.un (Un.laid k hp (I.hok.fresh hp)) (I.hok.laid k hp new)
theorem Inv.write {x e:Addr}{o:HO}{t':Nat}(I:Inv X pins σ H s)(mu:Mut (H x))(he:e=x\/H e=some (.own x))(k:∀b u,b≠e->s.heap.get? b=some u->h'.get? b=some u)(heo:∃u,h'.get? e=some u)
  (new:bN X.prog X.w (upd H x o) h' x o):Inv X pins σ (upd H x o) { s with heap:=h',toks:=t' }:=I.un (Un.write mu he k heo) (I.hok.write mu he k heo new)
theorem Inv.nA {pins':List (Addr×Obj)}(I:Inv X pins σ H s)(h:∀p∈pins',s.heap.get? p.1=some p.2/\H p.1=none/\p.1≠X.env.locals/\p.1∉X.fs/\∀v,p.2.data≠.cell v):Inv X pins' σ H s:=
 ⟨I.ok,I.os,I.bare,I.base,I.loc,I.cell,I.free,I.freeC,fun p hp=>(mem_append.mp hp).elim (fun z=>I.pin p (mem_append_left _ z)) (h p),I.hok,I.len⟩
theorem Cy {N:List Str}(hN:N.Nodup){i j:Nat}{x:Str}(a:N[i]?=some x)(b:N[j]?=some x):i=j:=by
 obtain⟨h1,e1⟩:=List.getElem?_eq_some_iff.mp a;obtain⟨h2,e2⟩:=List.getElem?_eq_some_iff.mp b;exact(getElem_inj hN).mp (e1.trans e2.symm)
theorem xH {M:Model}{A:Around}{E:Value->Shared->Prop}{i:Nat}{x:Str}{v:V}{u:Value}{Q:Unit->Shared->Prop}(I:Inv X pins σ H s)(hN:X.N.Nodup)(hi:X.N[i]?=some x)(hx:Loc X.env.scope x)(r:RelV v u)
  (h:∀s',Inv X pins (σ.set i (some v)) H s'->(∃a,Heap.SameBut a s.heap s'.heap/\(a=X.env.locals\/X.env.cells.lookup x=some a))->Q () s') (hf:X.fn x=true\/X.env.scope.names.lookup x=some .local:=by first|exact .inl rfl|exact .inr rfl|assumption):wpAny M A (storeName X.env x u) Q E s:=by
 obtain⟨m,hn,hl⟩:=id I.loc;have hcls:(X.env.scope.kind == .class||(X.env.scope.kind == .module&&X.env.locals != X.env.globals))=false:=by rw[I.ok.kind];rfl
 have hiσ:i<σ.length:=by rw[I.len];exact(List.getElem?_eq_some_iff.mp hi).1
 have cne:=I.cne;have tracked:∀{a:Addr}{h':Heap},(∃o,s.heap.get? a=some o/\H a=none)->Heap.SameBut a s.heap h'->HOk X.prog X.w H h':=fun {a h'} ha hs b ob e=>by
  obtain⟨_,_,hfree⟩:=ha;refine(I.hok b ob e).stay (fun c w' hc q=>(hs.2 c ?_).trans q) (fun _ q=>q) fun _ _ q=>q;rintro rfl;rcases hc with rfl|hc
  ·rw[hfree] at e;cases e
  rw[hfree] at hc;cases hc
 rcases hx with hk|hk
 ·refine wpAny_storeName_local hk hn (fun h' hn' hs=>?_) hcls;obtain⟨oL,_,_,hoL,_⟩:=id hn;refine h _ ⟨I.ok,I.os,I.bare,⟨fun b o e n hb hx=>?_,fun b o e n hb hx=>?_,I.base.free,fun b o e hx=>?_,I.base.tups,I.base.frzs,I.base.tbls⟩,⟨_,hn',fun j y v' e1 e2 e3=>?_⟩,fun y c e=>?_,I.free,I.freeC,fun p hp=>?_,tracked ⟨oL,hoL,I.free⟩ hs,by simpa using I.len⟩ ⟨_,hs,.inl rfl⟩
  ·exact(hs.2 b (ne_of_lt (lt_of_lt_of_le (lt_size e) I.ok.above))).trans (I.base.keep b o e n hb hx)
  ·obtain⟨sl,e1⟩:=I.base.slot b o e n hb hx;exact⟨sl,(hs.2 b (ne_of_lt (lt_of_lt_of_le (lt_size e) I.ok.above))).trans e1⟩
  ·obtain⟨o',e1⟩:=I.base.there b o e hx;exact⟨o',(hs.2 b (ne_of_lt (lt_of_lt_of_le (lt_size e) I.ok.above))).trans e1⟩
  ·by_cases hj:j=i
   ·subst hj;rw[hi] at e1;cases e1;rw[getElem?_set_self hiσ] at e2;cases e2;exact⟨u,r,.inl ⟨hk,by simp⟩⟩
   rw[List.getElem?_set_ne (Ne.symm hj)] at e2;obtain⟨u',r',q⟩:=hl j y v' e1 e2 e3;refine⟨u',r',?_⟩;rcases q with⟨k,e⟩|⟨k,c,e,z⟩
   ·refine .inl ⟨k,?_⟩;have:y≠x:=fun e=>hj (Cy hN e1 (e ▸ hi));simp [this,e]
   exact .inr ⟨k,c,e,z.sameBut hs (cne y c e)⟩
  ·obtain⟨w',z⟩:=I.cell y c e;exact⟨w',z.sameBut hs (cne y c e)⟩
  obtain⟨e,n,ne,nf,d⟩:=I.pin p hp;exact⟨(hs.2 p.1 ne).trans e,n,ne,nf,d⟩
 have hfn:X.fn x=true:=by
  rcases hf with z|z
  ·exact z
  rw[z] at hk;cases hk
 obtain⟨c,hc⟩:=I.ok.has x (.inl hk);obtain⟨w',z⟩:=I.cell x c hc;refine wpAny_storeName_cell I.ok.kind hk hc z (fun h' hc' hs=>?_);obtain⟨oc,hoc,hocd⟩:=id z;refine h { s with heap:=h' } ⟨I.ok,I.os,I.bare,⟨fun b o e n hb hx=>?_,fun b o e n hb hx=>?_,I.base.free,fun b o e hx=>?_,I.base.tups,I.base.frzs,I.base.tbls⟩,⟨m,hn.sameBut hs (Ne.symm (cne x c hc)),fun j y v' e1 e2 e3=>?_⟩,fun y c' e=>?_,I.free,I.freeC,fun p hp=>?_,tracked ⟨oc,hoc,I.freeC x c hc⟩ hs,by simpa using I.len⟩ ⟨c,hs,.inr hc⟩
 ·exact(hs.2 b (ne_of_lt (lt_of_lt_of_le (lt_size e) (I.ok.cab x c hfn hc)))).trans (I.base.keep b o e n hb hx)
 ·obtain⟨sl,e1⟩:=I.base.slot b o e n hb hx;exact⟨sl,(hs.2 b (ne_of_lt (lt_of_lt_of_le (lt_size e) (I.ok.cab x c hfn hc)))).trans e1⟩
 ·obtain⟨o',e1⟩:=I.base.there b o e hx;exact⟨o',(hs.2 b (ne_of_lt (lt_of_lt_of_le (lt_size e) (I.ok.cab x c hfn hc)))).trans e1⟩
 ·by_cases hj:j=i
  ·subst hj;rw[hi] at e1;cases e1;rw[getElem?_set_self hiσ] at e2;cases e2;exact⟨u,r,.inr ⟨.inl hk,c,hc,hc'⟩⟩
  rw[List.getElem?_set_ne (Ne.symm hj)] at e2;obtain⟨u',r',q⟩:=hl j y v' e1 e2 e3;refine⟨u',r',?_⟩;rcases q with q|⟨k,c',e,z'⟩
  ·exact .inl q
  refine .inr ⟨k,c',e,z'.sameBut hs ?_⟩;rintro rfl;exact hj (Cy hN e1 (I.ok.inj _ _ _ e hc ▸ hi))
 ·by_cases hcc:c'=c
  ·subst hcc;exact⟨_,hc'⟩
  obtain⟨w2,z2⟩:=I.cell y c' e;exact⟨w2,z2.sameBut hs hcc⟩
 obtain⟨e,n,ne,nf,d⟩:=I.pin p hp;refine⟨(hs.2 p.1 ?_).trans e,n,ne,nf,d⟩;intro q;rw[q,hoc] at e;have q':oc=p.2:=Option.some.inj e;exact d w' (by rw[<- q'];exact hocd)
theorem lU {M:Model}{A:Around}{E:Value->Shared->Prop}{i:Nat}{x:Str}{v:V}{u:Value}{Q:Unit->Shared->Prop}(I:Inv X pins σ H s)(hN:X.N.Nodup)(hi:X.N[i]?=some x)(hx:Loc X.env.scope x)(r:RelV v u)
  (h:∀s',Inv X pins (σ.set i (some v)) H s'->Q () s') (hf:X.fn x=true\/X.env.scope.names.lookup x=some .local:=by first|exact .inl rfl|exact .inr rfl|assumption):wpAny M A (storeName X.env x u) Q E s:=
 xH I hN hi hx r (fun s' I' _=>h s' I') hf
theorem Inv.call' {s':Shared}{ch:List Addr}(I:Inv X pins σ H s)(ho:s'.os=s.os)(u:Un (frs X.stack) ch H H' s.heap s'.heap)(hok:HOk X.prog X.w H' s'.heap)(hg:AllBare s'.gens)
  (hch:∀b∈ch,(b∈X.ex\/X.s₀.heap.objs.size<=b)/\b≠X.env.locals/\(∀x c,X.env.cells.lookup x=some c->c≠b)/\∀p∈X.pn++pins,p.1≠b):Inv X pins σ H' s':=by
 obtain⟨h',g',d',t',o'⟩:=s';have e:o'=s.os:=ho;subst e;exact I.call (g':=g') (t':=t') (d':=d') u hok hg hch
end
noncomputable abbrev XK:=Value->Option Addr->Hp->Prop
noncomputable abbrev St:=List (Option V)
noncomputable abbrev VK:=V->Hp->Prop
noncomputable abbrev TE:=St->Hp->VK->Prop
noncomputable abbrev TT:=St->Hp->(Bool->Hp->Prop)->Prop
noncomputable abbrev TA:=St->Hp->(List V->Hp->Prop)->Prop
structure Ends where
 nx:St->Hp->Prop
 rt:VK
 bk:St->Hp->Prop:=fun _ _=>False
 ct:St->Hp->Prop:=fun _ _=>False
noncomputable abbrev TS:=Ends->St->Hp->Prop
noncomputable def EP (X:Cx)(pins:List (Addr×Obj))(σ:St)(Q:VK)(u:Value)(s':Shared):Prop:=∃v H',Inv X pins σ H' s'/\RelV v u/\Q v H'
noncomputable def TP (X:Cx)(pins:List (Addr×Obj))(σ:St)(Q:Bool->Hp->Prop)(b:Bool)(s':Shared):Prop:=∃H',Inv X pins σ H' s'/\Q b H'
noncomputable def AP (X:Cx)(pins:List (Addr×Obj))(σ:St)(Q:List V->Hp->Prop)(us:List Value)(s':Shared):Prop:=∃vs H',Inv X pins σ H' s'/\Vals vs us/\Q vs H'
noncomputable def SP (X:Cx)(pins:List (Addr×Obj))(D:Ends)(f:Flow)(s':Shared):Prop:=
 match f with
 | .next=>∃σ' H',Inv X pins σ' H' s'/\D.nx σ' H'
 | .brk=>∃σ' H',Inv X pins σ' H' s'/\D.bk σ' H'
 | .cont=>∃σ' H',Inv X pins σ' H' s'/\D.ct σ' H'
 | .ret u=>∃v σ' H',Inv X pins σ' H' s'/\RelV v u/\D.rt v H'
noncomputable def PE (X:Cx)(e:Expr)(t:TE):Prop:=
 ∀(pins:List (Addr×Obj)) (s:Shared) (σ:St) (H:Hp) (Q:VK),Inv X pins σ H s->t σ H Q->wpAny (model X.prog X.w) X.A (eval e X.env) (EP X pins σ Q) X.xe s
noncomputable def PT (X:Cx)(e:Expr)(t:TT):Prop:=
 ∀(pins:List (Addr×Obj)) (s:Shared) (σ:St) (H:Hp) (Q:Bool->Hp->Prop),Inv X pins σ H s->t σ H Q->wpAny (model X.prog X.w) X.A (isTrue e X.env (eval e X.env)) (TP X pins σ Q) X.xe s
noncomputable def PW (X:Cx)(e:Expr)(t:TT):Prop:=
 ∀(whole:Sem Value)(pins:List (Addr×Obj)) (s:Shared) (σ:St) (H:Hp) (Q:Bool->Hp->Prop),Inv X pins σ H s->t σ H Q->wpAny (model X.prog X.w) X.A (isTrue e X.env whole) (TP X pins σ Q) X.xe s
theorem PW.pt {X:Cx}{e:Expr}{t:TT}(h:PW X e t):PT X e t:=h _
noncomputable def PA (X:Cx)(es:List Expr)(t:TA):Prop:=
 ∀(pos:Pos)(pins:List (Addr×Obj)) (s:Shared) (σ:St) (H:Hp) (Q:List V->Hp->Prop),Inv X pins σ H s->t σ H Q->wpAny (model X.prog X.w) X.A (spliced (backTo pos (starEach es X.env))) (AP X pins σ Q) X.xe s
noncomputable def PS (X:Cx)(st:Stmt)(t:TS):Prop:=
 ∀(pins:List (Addr×Obj)) (s:Shared) (σ:St) (H:Hp) (D:Ends),Inv X pins σ H s->t D σ H->wpAny (model X.prog X.w) X.A (exec st X.env) (SP X pins D) X.xe s
noncomputable def PSs (X:Cx)(st:List Stmt)(t:TS):Prop:=
 ∀(pins:List (Addr×Obj)) (s:Shared) (σ:St) (H:Hp) (D:Ends),Inv X pins σ H s->t D σ H->wpAny (model X.prog X.w) X.A (execs st X.env) (SP X pins D) X.xe s
theorem thn {α:Type}{t:Sem α}{Q Q':α->Shared->Prop}{M:Model}{A:Around}{E:Value->Shared->Prop}{s:Shared}(h:wpAny M A t Q E s)(hQ:∀a s,Q a s->Q' a s):wpAny M A t Q' E s:=wpAny_mono h hQ fun _ _ x=>x
theorem thE {t:Sem Value}{X:Cx}{pins:List (Addr×Obj)}{σ:St}{Q:VK}{Q':Value->Shared->Prop}{M:Model}{A:Around}{E:Value->Shared->Prop}{s:Shared}(h:wpAny M A t (EP X pins σ Q) E s)(hQ:∀u s x H,Inv X pins σ H s->RelV x u->Q x H->Q' u s):wpAny M A t Q' E s:=thn h fun u s z=>by
 obtain⟨x,H,I,r,q⟩:=z;exact hQ u s x H I r q
theorem thA {t:Sem (List Value)}{X:Cx}{pins:List (Addr×Obj)}{σ:St}{Q:List V->Hp->Prop}{Q':List Value->Shared->Prop}{M:Model}{A:Around}{E:Value->Shared->Prop}{s:Shared}(h:wpAny M A t (AP X pins σ Q) E s)(hQ:∀u s x H,Inv X pins σ H s->Vals x u->Q x H->Q' u s):wpAny M A t Q' E s:=thn h fun u s z=>by
 obtain⟨x,H,I,r,q⟩:=z;exact hQ u s x H I r q
theorem thT {t:Sem Bool}{X:Cx}{pins:List (Addr×Obj)}{σ:St}{Q:Bool->Hp->Prop}{Q':Bool->Shared->Prop}{M:Model}{A:Around}{E:Value->Shared->Prop}{s:Shared}(h:wpAny M A t (TP X pins σ Q) E s)(hQ:∀u s H,Inv X pins σ H s->Q u H->Q' u s):wpAny M A t Q' E s:=thn h fun u s z=>by
 obtain⟨H,I,q⟩:=z;exact hQ u s H I q
section
variable {X:Cx}
noncomputable def Lj (i:Nat):TE:=fun σ H Q=>∃v,σ[i]?=some (some v)/\Q v H
noncomputable def tC (v:V):TE:=fun _ H Q=>Q v H
theorem Ob {i:Nat}{x:Str}{pos:Pos}(hN:X.N[i]?=some x) (hv:Vis X.env.scope x) (hd:(x == ("__debug__" : Str))=false:=by decide) (hcd:(x == ("__classdict__" : Str))=false:=by decide):PE X (.Name x pos) (Lj i):=by
 intro pins s σ H Q I h;obtain⟨v,e,h⟩:=h;obtain⟨m,hn,hl⟩:=I.loc;obtain⟨u,r,l⟩:=hl i x v hN e hv;have fin:EP X pins σ Q u s:=⟨v,H,I,r,h⟩;rcases l with⟨hk,hm⟩|⟨hk,c,hc,hcell⟩
 ·exact wpAny_Name (wpAny_loadName_local I.ok.kind hk hn hm fin) hd
 rcases hk with hk|hk
 ·exact wpAny_Name (wpAny_loadName_cell I.ok.kind hk hc hcell fin) hd
 exact wpAny_Name (wpAny_loadName_free I.ok.kind hk hc hcell fin hcd) hd
theorem Xp {i j pos}:PE X (.Constant (.int i) j pos) (tC (.int i)):=fun _ _ _ H _ I h=>wpAny_Constant_int ⟨.int i,H,I.tok _,⟨_,rfl⟩,h⟩
theorem Zg {b j pos}:PE X (.Constant (.bool b) j pos) (tC (.bl b)):=fun _ _ _ H _ I h=>Constant_bool ⟨.bl b,H,I,rfl,h⟩
theorem Xn {j pos}:PE X (.Constant .none j pos) (tC .non):=fun _ _ _ H _ I h=>Constant_none ⟨.non,H,I,rfl,h⟩
theorem Xk {x j pos}:PE X (.Constant (.str x) j pos) (tC (.str x)):=fun _ _ _ H _ I h=>Calls.Constant_str ⟨.str x,H,I.tok _,⟨_,rfl⟩,h⟩
noncomputable def Gl (X:Cx)(x:Str):Prop:=X.env.kindOf x=some .globalImplicit
theorem U8 {E:Value->Shared->Prop}{pins:List (Addr×Obj)}{s:Shared}{σ:St}{H:Hp}{x:Str}{u:Value}{pos:Pos}{Q:Value->Shared->Prop}(I:Inv X pins σ H s)(hg:Gl X x)(hm:X.mg x=some u)(h:Q u s)
  (hd:(x == ("__debug__" : Str))=false:=by decide):wpAny (model X.prog X.w) X.A (eval (.Name x pos) X.env) Q E s:=
 Calls.Name_function_global I.ok.kind hg (Calls.loadGlobal_global (by rw[I.ok.glob];exact I.mod.glob.keeps I.bk) hm h) hd
theorem iH {E:Value->Shared->Prop}{pins:List (Addr×Obj)}{s:Shared}{σ:St}{H:Hp}{x:Str}{u:Value}{pos:Pos}{Q:Value->Shared->Prop}(I:Inv X pins σ H s)(hg:Gl X x)(hm:X.mg x=none)(hv:bootBuiltins x=some u)(h:Q u s)
  (hn:x ≠ "__name__" := by decide) (hd:(x == ("__debug__" : Str))=false:=by decide):wpAny (model X.prog X.w) X.A (eval (.Name x pos) X.env) Q E s:=by
 obtain⟨mb,h1,h2⟩:=I.mod.blt;exact Calls.Name_function_global I.ok.kind hg (Calls.loadGlobal_builtin (by rw[I.ok.glob];exact I.mod.glob.keeps I.bk) hm (by rw[I.ok.blt];exact h1.keeps I.bk) ((h2 x hn).trans hv) h) hd
theorem T7 {x:Str}{v:V}{u:Value}{pos:Pos}(hg:Gl X x) (hm:X.mg x=none) (hv:bootBuiltins x=some u) (r:RelV v u) (hn:x ≠ "__name__" := by decide) (hd:(x == ("__debug__" : Str))=false:=by decide):PE X (.Name x pos) (tC v):=
 fun _ _ _ H _ I h=>iH I hg hm hv ⟨v,H,I,r,h⟩ hn hd
variable {a b:Expr}{ta tb:TE}{pos:Pos}
noncomputable def tB (t:TE):TT:=fun σ H Q=>t σ H fun x H1=>∃c,x=.bl c/\Q c H1
theorem W7 {e:Expr}{t:TE}(h:PE X e t)(he:∀whole,isTrue e X.env whole=(do let v <- whole;standAt e.pos;holding [v] (truthy v)):=by intro _;rfl):PT X e (tB t):=by
 intro pins s σ H Q I hw;refine isTrue_plain (thE (h pins s σ H _ I hw) fun v s1 x H1 I1 r1 q1=>?_) (he _);obtain⟨d,rfl,q⟩:=q1;cases r1;exact wpAny_truthy_bool ⟨H1,I1,q⟩
variable {tA tB':TT}{rest:List Expr}
noncomputable def RW (t u:TT):TT:=fun σ H Q=>t σ H fun c H1=>if c=true then u σ H1 Q else Q false H1
noncomputable def tOr (t u:TT):TT:=fun σ H Q=>t σ H fun c H1=>if c=true then Q true H1 else u σ H1 Q
noncomputable def RV (t:TT):TT:=fun σ H Q=>t σ H fun c H1=>Q (!c) H1
theorem S9 (ha:PT X a tA):PW X (.BoolOp .And [a] pos) tA:=by
 intro wh pins s σ H Q I h;refine isTrue_and (thn (ha pins s σ H Q I h) fun c s1 e=>?_);cases c with
 | true=>exact isTrue_and_nil e
 | false=>exact e
theorem W5 (ha:PT X a tA):PW X (.BoolOp .Or [a] pos) tA:=by
 intro wh pins s σ H Q I h;refine isTrue_or (thn (ha pins s σ H Q I h) fun c s1 e=>?_);cases c with
 | false=>exact isTrue_or_nil e
 | true=>exact e
theorem W6 (ha:PT X a tA)(hb:PW X (.BoolOp .And (b::rest) pos) tB'):PW X (.BoolOp .And (a::b::rest) pos) (RW tA tB'):=by
 intro wh pins s σ H Q I h;refine isTrue_and (thT (ha pins s σ H _ I h) fun c s1 H1 I1 q1=>?_);cases c with
 | true=>exact hb wh pins s1 σ H1 Q I1 q1
 | false=>exact⟨H1,I1,q1⟩
theorem Y4 (ha:PT X a tA)(hb:PW X (.BoolOp .Or (b::rest) pos) tB'):PW X (.BoolOp .Or (a::b::rest) pos) (tOr tA tB'):=by
 intro wh pins s σ H Q I h;refine isTrue_or (thT (ha pins s σ H _ I h) fun c s1 H1 I1 q1=>?_);cases c with
 | true=>exact⟨H1,I1,q1⟩
 | false=>exact hb wh pins s1 σ H1 Q I1 q1
theorem W9 (ha:PT X a tA):PT X (.UnaryOp .Not a pos) (RV tA):=by
 intro pins s σ H Q I h;exact isTrue_not (ha pins s σ H (fun c H1=>Q (!c) H1) I h)
noncomputable def LQ (ta tb:TE):TE:=fun σ H Q=>ta σ H fun x H1=>∃c,x=.bl c/\if c=true then tb σ H1 Q else Q (.bl false) H1
noncomputable def Lr (ta:TE):TE:=fun σ H Q=>ta σ H fun x H1=>∃c,x=.bl c/\Q (.bl (!c)) H1
theorem Xl {op}{t:TE}(h:PE X a t):PE X (.BoolOp op [a] pos) t:=fun pins s σ H Q I hw=>BoolOp_one (h pins s σ H Q I hw)
theorem Xr (ha:PE X a ta)(hb:PE X (.BoolOp .And (b::rest) pos) tb):PE X (.BoolOp .And (a::b::rest) pos) (LQ ta tb):=by
 intro pins s σ H Q I h;refine BoolOp_and (thE (ha pins s σ H _ I h) fun v s1 x H1 I1 r1 q1=>?_);obtain⟨c,rfl,q1⟩:=q1;cases r1;refine wpAny_truthy_bool ?_;cases c with
 | true=>exact hb pins s1 σ H1 Q I1 q1
 | false=>exact⟨.bl false,H1,I1,rfl,q1⟩
theorem Xm (ha:PE X a ta):PE X (.UnaryOp .Not a pos) (Lr ta):=by
 intro pins s σ H Q I h;refine UnaryOp_ (thE (ha pins s σ H _ I h) fun v s1 x H1 I1 r1 q1=>?_);obtain⟨c,rfl,q1⟩:=q1;cases r1;exact not_of (wpAny_truthy_bool ⟨.bl (!c),H1,I1,rfl,q1⟩)
noncomputable def tIf (t:TT)(ta tb:TE):TE:=fun σ H Q=>t σ H fun c H1=>if c=true then ta σ H1 Q else tb σ H1 Q
theorem Oe {c:Expr}(hc:PT X c tA)(ha:PE X a ta)(hb:PE X b tb):PE X (.IfExp c a b pos) (tIf tA ta tb):=by
 intro pins s σ H Q I h;refine wpAny_IfExp (thT (hc pins s σ H _ I h) fun d s1 H1 I1 q1=>?_);cases d with
 | true=>exact ha pins s1 σ H1 Q I1 q1
 | false=>exact hb pins s1 σ H1 Q I1 q1
end
noncomputable def SqL (K:PySem.W.Frag)(H:Hp)(a:Addr)(xs:List V):Prop:=
 Rd H a (.lst xs) \/
  ∃(o:Obj)(its:Array Value)(n:Nat),K.lookup a=some o/\o.cls=.type "list" /\ o.dict=none/\o.data=.seq its n/\its.size<=sizeLine/\Vals xs its.toList
noncomputable def SqT (K:PySem.W.Frag)(H:Hp)(a:Addr)(xs:List V):Prop:=
 Rd H a (.tup xs) \/
  ∃(o:Obj)(its:Array Value)(n:Nat),K.lookup a=some o/\o.cls=.type "tuple" /\ o.data=.seq its n/\its.size<=sizeLine/\Vals xs its.toList
noncomputable def aag:Value->Option V
 | .none=>some .non
 | .bool b=>some (.bl b)
 | .int i _=>some (.int i)
 | .str x _=>some (.str x)
 | .bytes b _=>some (.byt b)
 | .float b _=>some (.flt b)
 | .ref a=>some (.ref a)
 | .type n=>some (.ty n)
 | _=>none
theorem RelV.abs {x:V}{u:Value}(r:RelV x u):aag u=some x:=by
 cases x with
 | non=>cases r;rfl
 | bl _=>cases r;rfl
 | int _=>obtain⟨t,rfl⟩:=r;rfl
 | str _=>obtain⟨t,rfl⟩:=r;rfl
 | byt _=>obtain⟨t,rfl⟩:=r;rfl
 | flt _=>obtain⟨t,rfl⟩:=r;rfl
 | ref _=>cases r;rfl
 | ty _=>cases r;rfl
theorem RelV.inj {x y:V}{u:Value}(r:RelV x u)(q:RelV y u):x=y:=Option.some.inj (r.abs.symm.trans q.abs)
theorem Vals.inj:∀{xs ys:List V}{us:List Value},Vals xs us->Vals ys us->xs=ys
 | _,_,_,.nil,.nil=>rfl
 | _,_,_,.cons r t,.cons r' t'=>by rw[r.inj r',Vals.inj t t']
section
variable {X:Cx}{pins:List (Addr×Obj)}{σ:St}{H:Hp}{s:Shared}{a:Addr}{xs ys:List V}
theorem SqL.of {K:PySem.W.Frag}(h:H a=some (.lst xs)):SqL K H a xs:=.inl (.inl h)
theorem SqT.of {K:PySem.W.Frag}(h:H a=some (.tup xs)):SqT K H a xs:=.inl (.inl h)
theorem Inv.list (I:Inv X pins σ H s)(h:SqL X.K H a xs):∃its:List Value,Vals xs its/\PlainL s.heap a its.toArray/\xs.length<=sizeLine:=by
 rcases h with h|⟨o,its,n,hk,hc,hd,hs,hz,r⟩
 ·obtain⟨z,its,n,r,e⟩:=h.ok I.hok;exact⟨its,r,⟨_,n,e,rfl,rfl,rfl⟩,z⟩
 refine⟨its.toList,r,⟨o,n,I.kIn a o hk,hc,hd,by simpa using hs⟩,?_⟩;have e:=r.length;simp only[length_toList] at e;omega
theorem Inv.tuple (I:Inv X pins σ H s)(h:SqT X.K H a xs):∃its:List Value,Vals xs its/\IsTup s.heap a its.toArray/\xs.length<=sizeLine:=by
 rcases h with h|⟨o,its,n,hk,hc,hs,hz,r⟩
 ·obtain⟨z,its,r,p⟩:=h.ok I.hok;exact⟨its,r,p,z⟩
 refine⟨its.toList,r,⟨o,I.kIn a o hk,hc,n,by simpa using hs⟩,?_⟩;have e:=r.length;simp only[length_toList] at e;omega
theorem Inv.mU (I:Inv X pins σ H s)(h:SqL X.K H a xs)(h':SqL X.K H a ys):xs=ys:=by
 obtain⟨its,r,⟨o,n,e,_,_,d⟩,_⟩:=I.list h;obtain⟨its',r',⟨o',n',e',_,_,d'⟩,_⟩:=I.list h';rw[e] at e';cases e';rw[d] at d';injection d' with d1 _;have:its=its':=by simpa using congrArg Array.toList d1
 subst this;exact r.inj r'
theorem Inv.jN (I:Inv X pins σ H s)(h:SqT X.K H a xs)(h':SqT X.K H a ys):xs=ys:=by
 obtain⟨its,r,⟨o,e,_,n,d⟩,_⟩:=I.tuple h;obtain⟨its',r',⟨o',e',_,n',d'⟩,_⟩:=I.tuple h';rw[e] at e';cases e';rw[d] at d';injection d' with d1 _;have:its=its':=by simpa using congrArg Array.toList d1
 subst this;exact r.inj r'
end
noncomputable abbrev Cx.wish (X:Cx)(E:Value->Shared->Prop):Cx:={ X with xe:=E }
noncomputable abbrev Cx.nox (X:Cx):Cx:=X.wish fun _ _=>False
theorem Cx.Ok.wish {X:Cx}(ok:X.Ok)(E:Value->Shared->Prop):(X.wish E).Ok:=
 ⟨ok.mod,ok.kind,ok.glob,ok.blt,ok.above,ok.inj,ok.has,ok.cab,ok.hd,ok.frames,ok.stk,ok.exf,ok.bs,ok.bsz,ok.noex,ok.exfs,ok.tH,ok.frf⟩
theorem Cx.Ok.lO {X:Cx}{E:Value->Shared->Prop}(ok:(X.wish E).Ok):X.Ok:=
 ⟨ok.mod,ok.kind,ok.glob,ok.blt,ok.above,ok.inj,ok.has,ok.cab,ok.hd,ok.frames,ok.stk,ok.exf,ok.bs,ok.bsz,ok.noex,ok.exfs,ok.tH,ok.frf⟩
section
variable {X:Cx}{pins:List (Addr×Obj)}{σ:St}{H:Hp}{s:Shared}{E:Value->Shared->Prop}
theorem Inv.wish (I:Inv X pins σ H s)(E:Value->Shared->Prop):Inv (X.wish E) pins σ H s:=⟨I.ok.wish E,I.os,I.bare,I.base,I.loc,I.cell,I.free,I.freeC,I.pin,I.hok,I.len⟩
theorem Inv.lO (I:Inv (X.wish E) pins σ H s):Inv X pins σ H s:=⟨I.ok.lO,I.os,I.bare,I.base,I.loc,I.cell,I.free,I.freeC,I.pin,I.hok,I.len⟩
theorem SP.lO {D:Ends}{f:Flow}{s':Shared}(h:SP (X.wish E) pins D f s'):SP X pins D f s':=by
 cases f with
 | next=>obtain⟨σ',H',I,q⟩:=h;exact⟨σ',H',I.lO,q⟩
 | brk=>obtain⟨σ',H',I,q⟩:=h;exact⟨σ',H',I.lO,q⟩
 | cont=>obtain⟨σ',H',I,q⟩:=h;exact⟨σ',H',I.lO,q⟩
 | ret u=>obtain⟨v,σ',H',I,r,q⟩:=h;exact⟨v,σ',H',I.lO,r,q⟩
theorem PSs.nox {st:List Stmt}{t:TS}(h:PSs X.nox st t):PSs X st t:=fun pins s σ H D I hw=>
 wpAny_mono (h pins s σ H D (I.wish _) hw) (fun _ _ q=>q.lO) fun _ _ z=>False.elim z
end
section
variable {X:Cx}{st:Stmt}{rest:List Stmt}{t u:TS}{e:Expr}{te:TE}{pos:Pos}
noncomputable def G4:TS:=fun D σ H=>D.nx σ H
noncomputable def Jl (t u:TS):TS:=fun D σ H=>t { D with nx:=u D } σ H
theorem Ti:PSs X [] G4:=fun _ _ σ H _ I h=>wpAny_execs_nil ⟨σ,H,I,h⟩
theorem NQ (h1:PS X st t)(h2:PSs X rest u):PSs X (st::rest) (Jl t u):=by
 intro pins s σ H D I h;refine wpAny_execs_cons (thn (h1 pins s σ H { D with nx:=u D } I h) fun f s1 q=>?_);cases f with
 | next=>
  obtain⟨σ',H',I',q⟩:=q;exact h2 pins s1 σ' H' D I' q
 | ret v=>exact q
 | brk=>exact q
 | cont=>exact q
theorem Tg (h1:PS X st t):PSs X [st] t:=by
 intro pins s σ H D I h;refine wpAny_execs_cons (thn (h1 pins s σ H D I h) fun f s1 q=>?_);cases f with
 | next=>exact wpAny_execs_nil q
 | ret v=>exact q
 | brk=>exact q
 | cont=>exact q
theorem Inv.quiet {pins:List (Addr×Obj)}{σ:St}{H:Hp}{s:Shared}(I:Inv X pins σ H s):interactive X.env=false:=by simp [interactive,I.ok.kind]
noncomputable def Ly (te:TE):TS:=fun D σ H=>te σ H fun _ H1=>D.nx σ H1
theorem Tp (he:PE X e te)(hs:swapsWith e none pos.line X.env=pure false:=by rfl):PS X (.Expr e pos) (Ly te):=by
 intro pins s σ H D I h;exact wpAny_Expr_any (thE (he pins s σ H _ I h) fun v s1 x H1 I1 r1 q1=>⟨σ,H1,I1,q1⟩) I.quiet hs
noncomputable def Lp (te:TE):TS:=fun D σ H=>te σ H D.rt
theorem Xb (he:PE X e te):PS X (.Return (some e) pos) (Lp te):=by
 intro pins s σ H D I h;exact wpAny_Return_some (thE (he pins s σ H _ I h) fun v s1 x H1 I1 r1 q1=>⟨x,σ,H1,I1,r1,q1⟩)
noncomputable def Lx (c:TT)(t u:TS):TS:=fun D σ H=>c σ H fun b H1=>if b=true then t D σ H1 else u D σ H1
theorem Y6 {c:Expr}{a b:List Stmt}{tc:TT}(hc:PT X c tc)(ha:PSs X a t)(hb:PSs X b u):PS X (.If c a b pos) (Lx tc t u):=by
 intro pins s σ H D I h;refine wpAny_If (thT (hc pins s σ H _ I h) fun d s1 H1 I1 q1=>?_);cases d with
 | true=>exact ha pins s1 σ H1 D I1 q1
 | false=>exact hb pins s1 σ H1 D I1 q1
end
noncomputable abbrev TG:=V->St->Hp->(St->Hp->Prop)->Prop
noncomputable abbrev TGs:=List V->St->Hp->(St->Hp->Prop)->Prop
noncomputable def PG (X:Cx)(target:Expr)(t:TG):Prop:=
 ∀(pins:List (Addr×Obj)) (s:Shared) (σ:St) (H:Hp) (v:V) (u:Value) (Q:St->Hp->Prop),Inv X pins σ H s->RelV v u->t v σ H Q ->
  wpAny (model X.prog X.w) X.A (assign target X.env u) (fun _ s'=>∃σ' H',Inv X pins σ' H' s'/\Q σ' H') X.xe s
noncomputable def PGs (X:Cx)(ts:List Expr)(t:TGs):Prop:=
 ∀(pins:List (Addr×Obj)) (s:Shared) (σ:St) (H:Hp) (vs:List V) (us:List Value) (Q:St->Hp->Prop),Inv X pins σ H s->Vals vs us->t vs σ H Q ->
  wpAny (model X.prog X.w) X.A (assignInOrder ((assignEach ts X.env).map (·.2)) us) (fun _ s'=>∃σ' H',Inv X pins σ' H' s'/\Q σ' H') X.xe s
noncomputable abbrev KY:=V->V->V->Hp->(Hp->Prop)->Prop
noncomputable def KZ (X:Cx)(t:KY):Prop:=
 ∀(pins:List (Addr×Obj)) (s:Shared) (σ:St) (H:Hp) (o i v:V) (ov iv u:Value) (Q:Hp->Prop),Inv X pins σ H s->RelV o ov->RelV i iv->RelV v u->t o i v H Q ->
  wpAny (model X.prog X.w) X.A (setItem ov iv u) (fun _ s'=>∃H',Inv X pins σ H' s'/\Q H') X.xe s
noncomputable abbrev TIp:=V->V->Hp->VK->Prop
noncomputable def PIp (X:Cx)(op:Operator)(t:TIp):Prop:=
 ∀(pins:List (Addr×Obj)) (s:Shared) (σ:St) (H:Hp) (x y:V) (v u:Value) (Q:VK),Inv X pins σ H s->RelV x v->RelV y u->t x y H Q ->
  wpAny (model X.prog X.w) X.A (inplaceOp op v u) (EP X pins σ Q) X.xe s
section
variable {X:Cx}{pos:Pos}
noncomputable def j6 (i:Nat):TG:=fun v σ H Q=>Q (σ.set i (some v)) H
theorem HB {i:Nat}{x:Str}(hN:X.N.Nodup)(hi:X.N[i]?=some x)(hx:Loc X.env.scope x)(hf:X.fn x=true\/X.env.scope.names.lookup x=some .local:=by first|exact .inl rfl|exact .inr rfl|assumption):PG X (.Name x pos) (j6 i):=by
 intro pins s σ H v u Q I r h;exact wpAny_assign_Name (lU I hN hi hx r (fun s' I'=>⟨_,H,I',h⟩) hf)
noncomputable def Yq:TGs:=fun vs σ H Q=>vs=[]/\Q σ H
noncomputable def Qt (t:TG)(u:TGs):TGs:=fun vs σ H Q=>∃v r,vs=v::r/\t v σ H fun σ' H'=>u r σ' H' Q
theorem TV:PGs X [] Yq:=by
 intro pins s σ H vs us Q I r h;obtain⟨e,h⟩:=h;subst e;cases r;exact assignInOrder_nil ⟨σ,H,I,h⟩
theorem Oa {e:Expr}{es:List Expr}{t:TG}{u:TGs}(h1:PG X e t)(h2:PGs X es u)
  (hs:(assignEach (e::es) X.env).map (·.2)=assign e X.env::(assignEach es X.env).map (·.2):=by rfl):PGs X (e::es) (Qt t u):=by
 intro pins s σ H vs us Q I r h;obtain⟨v,vr,e1,h⟩:=h;subst e1;cases r with
 | cons r rr=>
  rw[hs];refine assignInOrder_cons (thn (h1 pins s σ H _ _ _ I r h) fun _ s1 ⟨σ1,H1,I1,q1⟩=>?_);exact h2 pins s1 σ1 H1 _ _ Q I1 rr q1
noncomputable def aac (K:PySem.W.Frag)(n:Nat)(t:TGs):TG:=fun v σ H Q=>∃a xs,v=.ref a/\SqT K H a xs/\xs.length=n/\t xs σ H Q
theorem Xi {es:List Expr}{k:Nat}{t:TGs}{n:Nat}(hc:X.calm=true)(h:PGs X es t)
  (hn:(assignEach es X.env).length=n:=by rfl) (hst:(assignEach es X.env).findIdx? (·.1)=none:=by rfl):PG X (.Tuple es k pos) (aac X.K n t):=by
 intro pins s σ H v u Q I r hw;obtain⟨a,xs,e1,hq,hl,hw⟩:=hw;subst e1;cases r;obtain⟨its,rv,ht,hz⟩:=I.tuple hq;refine assign_Tuple_tuple (I.ok.hd hc) ht (by simp [hn,<- hl,rv.length]) hst fun h' hx=>?_;have I1:Inv X pins σ H { s with heap:=h' }:=I.kept (t':=s.toks) fun b o e=>hx b o (ne_of_lt (lt_size e)) e;exact h pins _ σ H xs _ Q I1 (by simpa using rv) hw
noncomputable def Qp (to ti:TE)(t:KY):TG:=fun v σ H Q=>to σ H fun o H1=>ti σ H1 fun i H2=>t o i v H2 fun H3=>Q σ H3
theorem Fe {o i:Expr}{to ti:TE}{t:KY}(ho:PE X o to)(hi:PE X i ti)(hs:KZ X t)
  (ha:∀v,assign (.Subscript o i pos) X.env v=(do
   let ov <- holding [v] (eval o X.env)
   let iv <- holding [v,ov] (eval i X.env)
   standAt pos
   holding [v,ov,iv] (setItem ov iv v)
   release [v,ov,iv] []):=by intro _;rfl):PG X (.Subscript o i pos) (Qp to ti t):=by
 intro pins s σ H v u Q I r h;rw[ha];refine wpAny_bind (wpAny_holding (thE (ho pins s σ H _ I h) fun ov s1 x H1 I1 r1 q1=>?_));refine wpAny_bind (wpAny_holding (thE (hi pins s1 σ H1 _ I1 q1) fun iv s2 y H2 I2 r2 q2=>?_));refine wpAny_bind (wpAny_standAt (wpAny_bind (wpAny_holding (thn (hs pins s2 σ H2 x y v ov iv u _ I2 r1 r2 r q2) fun _ s3 ⟨H3,I3,q3⟩=>?_))));exact wpAny_release ⟨σ,H3,I3,q3⟩
noncomputable def wB (te:TE)(g:TG):TS:=fun D σ H=>te σ H fun x H1=>g x σ H1 D.nx
theorem Xf {tg e:Expr}{te:TE}{g:TG}(he:PE X e te)(hg:PG X tg g)(hs:swapsWithSole [tg] e pos.line X.env=pure false:=by rfl)(hw:swappedStores [tg] e X.env=pure none:=by rfl)
  (h1:(assignEach [tg] X.env).map (·.2)=[assign tg X.env]:=by rfl):PS X (.Assign [tg] e pos) (wB te g):=by
 intro pins s σ H D I h;refine wpAny_Assign_stores (thE (he pins s σ H _ I h) fun v s1 x H1 I1 r1 q1=>?_) hs hw;rw[h1];exact thn (hg pins s1 σ H1 x v _ I1 r1 q1) fun _ s2 q=>q
theorem Xa {i:Nat}{x:Str}{e:Expr}{te:TE}{pos':Pos}(hN:X.N.Nodup)(hi:X.N[i]?=some x)(hx:Loc X.env.scope x)(he:PE X e te)(hs:swapsWith e (some (.Name x pos')) pos.line X.env=pure false:=by rfl)(hf:X.fn x=true\/X.env.scope.names.lookup x=some .local:=by first|exact .inl rfl|exact .inr rfl|assumption) :
  PS X (.Assign [.Name x pos'] e pos) (wB te (j6 i)):=by
 intro pins s σ H D I h;refine wpAny_Assign_Name (thE (he pins s σ H _ I h) fun v s1 y H1 I1 r1 q1=>?_) hs;exact lU I1 hN hi hx r1 (fun s2 I2=>⟨_,H1,I2,q1⟩) hf
noncomputable def Wt (i j:Nat)(ta:TA):TS:=fun D σ H=>ta σ H fun vs H1=>∃v w,vs=[v,w]/\D.nx ((σ.set i (some v)).set j (some w)) H1
theorem Xc {i j:Nat}{x y:Str}{a b:Expr}{ta:TA}{px py pt:Pos}{kt k2 pt2}(hc:X.calm=true)(hN:X.N.Nodup)(hi:X.N[i]?=some x)(hj:X.N[j]?=some y)(hij:i≠j)
  (hx:X.env.scope.names.lookup x=some .local) (hy:X.env.scope.names.lookup y=some .local) (ha:PA X [a,b] ta)
  (hw:swappedStores [.Tuple [.Name x px,.Name y py] kt pt] (.Tuple [a,b] k2 pt2) X.env=pure (some [x,y]))
  (hs:swapsWithSole [.Tuple [.Name x px,.Name y py] kt pt] (.Tuple [a,b] k2 pt2) pos.line X.env=pure false:=by rfl) :
  PS X (.Assign [.Tuple [.Name x px,.Name y py] kt pt] (.Tuple [a,b] k2 pt2) pos) (Wt i j ta):=by
 intro pins s σ H D I h;rw[exec_Assign_arm];refine wpAny_bind (wpAny_standAt ?_);rw[hs];refine wpAny_bind (wpAny_pure ?_);rw[if_neg δ];refine wpAny_bind (Tuple_ (thA (ha _ pins s σ H _ I h) fun us s1 vs H1 I1 r1 q1=>?_));obtain⟨v,w,e1,q1⟩:=q1;subst e1;obtain⟨u1,u2,rfl,rv,rw'⟩:∃u1 u2,us=[u1,u2]/\RelV v u1/\RelV w u2:=by
  cases r1 with
  | cons p q=>
   cases q with
   | cons p' q'=>
    cases q';exact⟨_,_,rfl,p,p'⟩
 refine wpAny_newObj_type ?_ (by show 2<=sizeLine;decide);have I2:Inv X pins σ H1 { s1 with heap:=s1.heap.push { cls:=.type "tuple",data:=.seq [u1,u2].toArray } }:=I1.kept (t':=s1.toks) fun b o e=>get?_push_of_some _ e;rw[hw];refine wpAny_bind (wpAny_pure ?_);show wpAny (model X.prog X.w) X.A (do rule "assign.swapped-stores";let items <- unpackItems (.ref s1.heap.objs.size) 2 none;assignInOrder [fun v=>bindName X.env y v,fun v=>bindName X.env x v] items.reverse;pure Flow.next) _ _ _;refine wpAny_bind (wpAny_rule (wpAny_bind (unpackItems_tuple (items:=#[u1,u2]) (I.ok.hd hc) (IsTup.new s1.heap _) fun h' hx'=>?_)));have I3:=I2.kept (h':=h') (t':=s1.toks) fun b o e=>hx' b o (ne_of_lt (lt_size e)) e;show wpAny _ _ (assignInOrder [fun v=>bindName X.env y v,fun v=>bindName X.env x v] [u2,u1] >>= fun _=>pure Flow.next) _ _ _;refine wpAny_bind (assignInOrder_cons (wpAny_bindName (lU I3 hN hj (.inl hy) rw' (fun s2 I4=>?_) (.inr hy))));refine assignInOrder_cons (wpAny_bindName (lU I4 hN hi (.inl hx) rv (fun s3 I5=>assignInOrder_nil (wpAny_pure ?_)) (.inr hx)));rw[List.set_comm _ _ (Ne.symm hij)] at I5;exact⟨_,H1,I5,q1⟩
noncomputable def Wv (i:Nat)(te:TE)(ti:TIp):TS:=fun D σ H=>∃x,σ[i]?=some (some x)/\te σ H fun y H1=>ti x y H1 fun z H2=>D.nx (σ.set i (some z)) H2
theorem Xe {i:Nat}{x:Str}{e:Expr}{te:TE}{op:Operator}{ti:TIp}{pos':Pos}(hN:X.N.Nodup)(hi:X.N[i]?=some x)(hx:Loc X.env.scope x)(he:PE X e te)(ho:PIp X op ti)(hf:X.fn x=true\/X.env.scope.names.lookup x=some .local:=by first|exact .inl rfl|exact .inr rfl|assumption) :
  PS X (.AugAssign (.Name x pos') op e pos) (Wv i te ti):=by
 intro pins s σ H D I h;obtain⟨v,e1,h⟩:=h;obtain⟨m,hn,hl⟩:=I.loc;have vis:Vis X.env.scope x:=by rcases hx with k|k;exact .inl k;exact .inr (.inl k)
 obtain⟨u,r,l⟩:=hl i x v hi e1 vis;refine wpAny_AugAssign_Name ?_;have go:wpAny (model X.prog X.w) X.A (eval e X.env) (fun w s₂=>wpAny (model X.prog X.w) X.A (inplaceOp op u w) (fun r s₃=>wpAny (model X.prog X.w) X.A (storeName X.env x r) (fun _=>SP X pins D .next) X.xe s₃) X.xe s₂) X.xe s:=by
  refine thE (he pins s σ H _ I h) fun w s1 y H1 I1 r1 q1=>?_;refine thE (ho pins s1 σ H1 v y u w _ I1 r r1 q1) fun z s2 zv H2 I2 r2 q2=>?_;exact lU I2 hN hi hx r2 (fun s3 I3=>⟨_,H2,I3,q2⟩) hf
 rcases l with⟨hk,hm⟩|⟨hk,c,hc,hcell⟩
 ·exact wpAny_loadName_local I.ok.kind hk hn hm go
 rcases hk with hk|hk
 ·exact wpAny_loadName_cell I.ok.kind hk hc hcell go
 rcases hx with k|k
 ·have:X.env.scope.names.lookup x=some .free:=hk;rw[k] at this;cases this
 have:X.env.scope.names.lookup x=some .free:=hk;rw[k] at this;cases this
noncomputable def ipI (f:Int->Int->Int):TIp:=fun x y H Q=>∃i j,x=.int i/\y=.int j/\Q (.int (f i j)) H
theorem Qg:PIp X .Add (ipI fun i j=>i+j):=by
 intro pins s σ H x y v u Q I r1 r2 h;obtain⟨i,j,e1,e2,q⟩:=h;subst e1;subst e2;obtain⟨t,rfl⟩:=r1;obtain⟨t',rfl⟩:=r2;exact iadd_int ⟨.int _,H,I.tok _,⟨_,rfl⟩,q⟩
noncomputable def zb (c:TT)(tb:TS):TS:=fun D σ H=>∃W:Nat->St->Hp->Prop,(∃m,W m σ H)/\∀m σ H,W m σ H ->
 c σ H fun b H1=>if b=true then ∃N:St->Hp->Prop,(∀σ' H',N σ' H'->∃m',m'<m/\W m' σ' H')/\tb { D with nx:=N,ct:=N,bk:=D.nx } σ H1 else D.nx σ H1
theorem NT {c:Expr}{body:List Stmt}{tc:TT}{tb:TS}(hp:PassesOwn (model X.prog X.w) X.A X.env X.xe)(hc:PT X c tc)(hb:PSs X body tb):PS X (.While c body [] pos) (zb tc tb):=by
 intro pins s σ H D I h;obtain⟨W,⟨m0,w0⟩,turn⟩:=h;refine wpAny_While (codeAny_whileLoop (fun n s'=>∃σ' H',Inv X pins σ' H' s'/\W n σ' H') ?_ m0 ⟨σ,H,I,w0⟩);rintro n s1 ⟨σ1,H1,I1,w1⟩;refine wpAny_passesOwn hp (thT (hc pins s1 σ1 H1 _ I1 (turn n σ1 H1 w1)) fun b s2 H2 I2 q2=>?_);cases b with
 | true=>
  obtain⟨N,hN,q2⟩:=q2;rw[if_pos rfl];refine wpAny_passesOwn hp (thn (hb pins s2 σ1 H2 _ I2 q2) fun f s3 q3=>?_);cases f with
  | next=>
   obtain⟨σ3,H3,I3,n3⟩:=q3;obtain⟨m',hm,w3⟩:=hN σ3 H3 n3;exact⟨m',hm,σ3,H3,I3,w3⟩
  | cont=>
   obtain⟨σ3,H3,I3,n3⟩:=q3;obtain⟨m',hm,w3⟩:=hN σ3 H3 n3;exact⟨m',hm,σ3,H3,I3,w3⟩
  | brk=>exact q3
  | ret v=>exact q3
 | false=>
  rw[if_neg Bool.false_ne_true];exact wpAny_execs_nil ⟨σ1,H2,I2,q2⟩
end
structure It where
 go:Nat->Hp->Prop
 yld:Nat->Hp->V->Hp->Prop
 stop:Nat->Hp->Prop
noncomputable def rO (X:Cx)(pins:List (Addr×Obj))(H:Hp)(b:Addr):Prop:=
 H b=none/\b≠X.env.locals/\b∉X.fs/\(b∈X.ex\/X.s₀.heap.objs.size<=b)/\(∀x c,X.env.cells.lookup x=some c->c≠b)/\∀p∈X.pn++pins,p.1≠b
theorem Inv.Dq {X:Cx}{pins:List (Addr×Obj)}{σ:St}{H H':Hp}{s:Shared}{b:Addr}(I:Inv X pins σ H s)(hb:s.heap.objs.size<=b)(hn:H' b=none):rO X pins H' b:=by
 refine⟨hn,ne_of_gt (lt_of_lt_of_le I.lt hb),I.XH hb,.inr (le_trans I.sz hb),fun x c e z=>?_,fun p hp z=>?_⟩
 ·obtain⟨v,q⟩:=I.cell x c e;exact absurd (lt_of_lt_of_le q.lt (by rw[z];exact hb)) (lt_irrefl _)
 exact absurd (lt_of_lt_of_le (lt_size (I.pin p hp).1) (by rw[z];exact hb)) (lt_irrefl _)
structure Turn (P:Program)(w:World)(K:PySem.W.Frag)(tg:Expr)(J:It)(fp:List Addr)(it:Addr)(tn:Nat->Heap->Prop):Prop where
 mem:it∈fp
 obj:∀i h,tn i h->∀b∈fp,∃o,h.get? b=some o/\∀v,o.data≠.cell v
 keep:∀i h h',tn i h->(∀b∈fp,∀o,h.get? b=some o->h'.get? b=some o)->tn i h'
 item:∀(X:Cx),X.prog=P->X.w=w->X.K=K->X.calm=true->∀(i:Nat)(pins:List (Addr×Obj)) (s:Shared) (σ:St) (H:Hp) (E:Value->Shared->Prop),Inv X pins σ H s->(∀b∈fp,rO X pins H b)->tn i s.heap->J.go i H ->
  wpAny (model P w) X.A (pyNext (.ref it)) (fun r s1=>∃u,r=some u /\
   wpAny (model P w) X.A (letOwnedTupleGo tg (.ref it) u) (fun _ s2=>∃x H',Inv X pins σ H' s2/\RelV x u/\J.yld i H x H'/\tn (i+1) s2.heap/\∀b∈fp,H' b=none) E s1) E s
 done:∀(X:Cx),X.prog=P->X.w=w->X.K=K->X.calm=true->∀(i:Nat)(pins:List (Addr×Obj)) (s:Shared) (σ:St) (H:Hp) (E:Value->Shared->Prop),Inv X pins σ H s->(∀b∈fp,rO X pins H b)->tn i s.heap->J.stop i H ->
  wpAny (model P w) X.A (pyNext (.ref it)) (fun r s1=>r=none/\Inv X pins σ H s1) E s
 self:∀(A:Around)(i:Nat)(s:Shared)(Q:Value->Shared->Prop)(E:Value->Shared->Prop),tn i s.heap->Q (.ref it) s->wpAny (model P w) A (pyIter (.ref it)) Q E s
noncomputable abbrev TI:=St->Hp->(It->Hp->Prop)->Prop
noncomputable def PIE (X:Cx)(pins:List (Addr×Obj))(σ:St)(tg:Expr)(R:It->Hp->Prop)(itv:Value)(s2:Shared):Prop:=
 ∃(it:Addr)(fp:List Addr)(tn:Nat->Heap->Prop)(J:It)(H':Hp),itv=.ref it/\Inv X pins σ H' s2/\Turn X.prog X.w X.K tg J fp it tn/\tn 0 s2.heap/\(∀b∈fp,rO X pins H' b)/\R J H'
noncomputable def PI (X:Cx)(tg iter:Expr)(wi:TI):Prop:=
 ∀(pins:List (Addr×Obj)) (s:Shared) (σ:St) (H:Hp) (R:It->Hp->Prop),Inv X pins σ H s->wi σ H R ->
  wpAny (model X.prog X.w) X.A (eval iter X.env) (fun v s1=>wpAny (model X.prog X.w) X.A (pyIter v) (PIE X pins σ tg R) X.xe s1) X.xe s
theorem Qo {M:Model}{A:Around}{E:Value->Shared->Prop}{s:Shared}{tg:Expr}{it:Addr}{u:Value}{o:Obj}{n:String}{vs:Array Value}{Q:Unit->Shared->Prop}(ho:s.heap.get? it=some o)(hc:o.cls=.type n)(hd:o.data=.fields vs)
  (hn:["enumerate","zip","dict_itemiterator","dict_reverseitemiterator","odict_iterator","itertools.zip_longest","itertools.pairwise"].contains n=false) (hQ:Q () s):wpAny M A (letOwnedTupleGo tg (.ref it) u) Q E s:=by
 unfold letOwnedTupleGo;cases tg <;> first
  | exact wpAny_pure hQ
  | (cases u <;> first
    | exact wpAny_pure hQ
    | (refine wpAny_bind (wpAny_load ho ?_)
       rw[hc,hd];show wpAny M A (if (["enumerate","zip","dict_itemiterator","dict_reverseitemiterator","odict_iterator","itertools.zip_longest","itertools.pairwise"].contains n&&vs[0]? == some (rawInt _))=true then _ else _) Q E s;rw[if_neg (by intro h;rw[hn,Bool.false_and] at h;cases h)];exact wpAny_pure hQ))
noncomputable def Itl (K:PySem.W.Frag)(a:Addr):It:=
 ⟨fun i H=>∃xs x,SqL K H a xs/\xs[i]?=some x,fun i H x H'=>H'=H/\∀xs,SqL K H a xs->xs[i]?=some x,fun i H=>∃xs,SqL K H a xs/\xs.length<=i⟩
noncomputable def Itt (K:PySem.W.Frag)(a:Addr):It:=
 ⟨fun i H=>∃xs x,SqT K H a xs/\xs[i]?=some x,fun i H x H'=>H'=H/\∀xs,SqT K H a xs->xs[i]?=some x,fun i H=>∃xs,SqT K H a xs/\xs.length<=i⟩
noncomputable def Itr (lo:Int)(n:Nat):It:=⟨fun i _=>i<n,fun i H x H'=>H'=H/\x=.int (lo+i),fun i _=>n<=i⟩
theorem Jg {P:Program}{w:World}{K:PySem.W.Frag}{tg:Expr}(a it:Addr):Turn P w K tg (Itl K a) [it] it (fun i h=>h.IsListIter it a i) where
 mem:=by simp
 obj:=fun i h st b hb=>by
  have e:b=it:=by simpa using hb
  subst e;obtain⟨o,e,c,d⟩:=st;exact⟨o,e,fun v z=>by rw[d] at z;cases z⟩
 keep:=fun i h h' st k=>st.at fun o e=>k it (by simp) o e
 item:=by
  intro X hP hw hK hc i pins s σ H E I hf st hg;subst hP hw hK;obtain⟨xs,x,hq,hx⟩:=hg;obtain⟨its,rv,p,hz⟩:=I.list hq;obtain⟨u,hu,ru⟩:=rv.get hx;obtain⟨f0,f1,f2,f3,f4,f5⟩:=hf it (by simp);refine wpAny_pyNext_list_item st p.isList (x:=u) (by simpa using hu) fun h' st' sb=>?_;have I1:Inv X pins σ H { s with heap:=h' }:=I.turned (t':=s.toks) (fun b o hb e=>(sb.2 b hb).trans e) f0 f1 f3 f4 f5;obtain⟨o,e,c,d⟩:=id st';exact⟨u,rfl,Qo (s:={ s with heap:=h' }) e c d δ ⟨x,H,I1,ru,⟨rfl,fun ys hy=>by rw[I.mU hy hq];exact hx⟩,st',fun b hb=>(hf b hb).1⟩⟩
 done:=by
  intro X hP hw hK hc i pins s σ H E I hf st hg;subst hP hw hK;obtain⟨xs,hq,hx⟩:=hg;obtain⟨its,rv,p,hz⟩:=I.list hq;obtain⟨f0,f1,f2,f3,f4,f5⟩:=hf it (by simp);have hl:=rv.length;exact wpAny_pyNext_list_end (I.ok.hd hc) st p.isList (by simp;omega) fun h' eb=>⟨rfl,I.turned (t':=s.toks) (fun b o hb e=>eb b o hb e) f0 f1 f3 f4 f5⟩
 self:=fun _ _ _ _ _ st h=>wpAny_pyIter_listiter st h
theorem Eg {P:Program}{w:World}{K:PySem.W.Frag}{tg:Expr}(a it:Addr):Turn P w K tg (Itt K a) [it] it (fun i h=>h.IsTupleIter it a i) where
 mem:=by simp
 obj:=fun i h st b hb=>by
  have e:b=it:=by simpa using hb
  subst e;obtain⟨o,e,c,d⟩:=st;exact⟨o,e,fun v z=>by rw[d] at z;cases z⟩
 keep:=fun i h h' st k=>st.at fun o e=>k it (by simp) o e
 item:=by
  intro X hP hw hK hc i pins s σ H E I hf st hg;subst hP hw hK;obtain⟨xs,x,hq,hx⟩:=hg;obtain⟨its,rv,p,hz⟩:=I.tuple hq;obtain⟨u,hu,ru⟩:=rv.get hx;obtain⟨f0,f1,f2,f3,f4,f5⟩:=hf it (by simp);refine wpAny_pyNext_tuple_item st (show s.heap.IsTuple a its.toArray from p) (x:=u) (by simpa using hu) fun h' st' sb=>?_;have I1:Inv X pins σ H { s with heap:=h' }:=I.turned (t':=s.toks) (fun b o hb e=>(sb.2 b hb).trans e) f0 f1 f3 f4 f5;obtain⟨o,e,c,d⟩:=id st';exact⟨u,rfl,Qo (s:={ s with heap:=h' }) e c d δ ⟨x,H,I1,ru,⟨rfl,fun ys hy=>by rw[I.jN hy hq];exact hx⟩,st',fun b hb=>(hf b hb).1⟩⟩
 done:=by
  intro X hP hw hK hc i pins s σ H E I hf st hg;subst hP hw hK;obtain⟨xs,hq,hx⟩:=hg;obtain⟨its,rv,p,hz⟩:=I.tuple hq;obtain⟨f0,f1,f2,f3,f4,f5⟩:=hf it (by simp);have hl:=rv.length;exact wpAny_pyNext_tuple_end (I.ok.hd hc) st (show s.heap.IsTuple a its.toArray from p) (by simp;omega) fun h' eb=>⟨rfl,I.turned (t':=s.toks) (fun b o hb e=>eb b o hb e) f0 f1 f3 f4 f5⟩
 self:=fun _ _ _ _ _ st h=>wpAny_pyIter_tupleiter st h
theorem Eh {P:Program}{w:World}{K:PySem.W.Frag}{tg:Expr}(it:Addr)(lo:Int)(n:Nat):Turn P w K tg (Itr lo n) [it] it (fun i h=>IsRangeIter h it (lo+(i:Nat)*1) ((n:Int)-(i:Nat)) 1) where
 mem:=by simp
 obj:=fun i h st b hb=>by
  have e:b=it:=by simpa using hb
  subst e;exact⟨_,st,fun v z=>by
   have z':Data.fields _=Data.cell v:=z;cases z'⟩
 keep:=fun i h h' st k=>k it (by simp) _ st
 item:=by
  intro X hP hw hK hc i pins s σ H E I hf st hg;subst hP hw hK;obtain⟨f0,f1,f2,f3,f4,f5⟩:=hf it (by simp);have W:=Walks.range (prog:=X.prog) (w:=X.w) (I.ok.hd hc) it lo 1 n;refine W.item i s _ _ hg st fun v h' tk hv st' kk=>?_;obtain⟨t,rfl⟩:=hv;have I1:Inv X pins σ H { s with heap:=h',toks:=tk }:=I.turned (fun b o hb e=>kk b o (by simpa using hb) e) f0 f1 f3 f4 f5;refine⟨_,rfl,Qo (s:={ s with heap:=h',toks:=tk }) (n := "range_iterator") st' rfl rfl δ ⟨.int (lo+i),H,I1,⟨t,?_⟩,⟨rfl,rfl⟩,st',fun b hb=>(hf b hb).1⟩⟩;rw[Int.mul_one]
 done:=by
  intro X hP hw hK hc i pins s σ H E I hf st hg;subst hP hw hK;obtain⟨f0,f1,f2,f3,f4,f5⟩:=hf it (by simp);exact wpAny_pyNext_range_end (I.ok.hd hc) st (by have:n<=i:=hg;omega) fun h' eb=>⟨rfl,I.turned (t':=s.toks) (fun b o hb e=>eb b o hb e) f0 f1 f3 f4 f5⟩
 self:=fun _ _ _ _ _ st h=>wpAny_pyIter_rangeiter st h
section
variable {X:Cx}{tg:Expr}
theorem Ce {pins:List (Addr×Obj)}{σ:St}{H:Hp}{s:Shared}{R:It->Hp->Prop}{E:Value->Shared->Prop}{lo hi:Int}{t u v:Tok}{tk:Nat}(I:Inv X pins σ H s)(h1:-(2^62)<=lo)(h2:lo<2^62)(h3:-(2^62)<=hi)(h4:hi<2^62)
  (q:R (Itr lo (hi-lo).toNat) H):wpAny (model X.prog X.w) X.A (pyIter (.ref s.heap.objs.size)) (PIE X pins σ tg R) E { s with heap:=s.heap.push { cls:=.type "range",data:=.fields #[.int lo t,.int hi u,.int 1 v] },toks:=tk }:=by
 refine wpAny_pyIter_range (IsRange.new ..) (small_one h1 h2 h3 h4) ?_;have I1:Inv X pins σ H { s with heap:=s.heap.push { cls:=.type "range",data:=.fields #[.int lo t,.int hi u,.int 1 v] },toks:=tk }:=I.kept fun b o e=>get?_push_of_some _ e;refine⟨(s.heap.push { cls:=.type "range",data:=.fields #[.int lo t,.int hi u,.int 1 v] }).objs.size,[(s.heap.push { cls:=.type "range",data:=.fields #[.int lo t,.int hi u,.int 1 v] }).objs.size],_,_,H,rfl,
  I1.kept (t':=tk) fun b o e=>get?_push_of_some _ e,Eh _ lo (hi-lo).toNat,?_,fun b hb=>?_,q⟩
 ·have e1:lo+((0:Nat):Int)*1=lo:=by simp
  have e2:(((hi-lo).toNat:Nat):Int)-((0:Nat):Int)=Builtin.Range.rangeSize lo hi 1:=by rw[rangeSize_one];split <;> omega
  show IsRangeIter _ _ (lo+((0:Nat):Int)*1) ((((hi-lo).toNat:Nat):Int)-((0:Nat):Int)) 1;rw[e1,e2];exact get?_push_size _ rfl
 have e:b=(s.heap.push { cls:=.type "range",data:=.fields #[.int lo t,.int hi u,.int 1 v] }).objs.size:=by simpa using hb
 subst e;exact I1.Dq (le_refl _) (I1.hok.fresh (le_refl _))
noncomputable def oN (ta:TA):TI:=fun σ H R=>ta σ H fun vs H1=>∃j:Int,vs=[.int j]/\-(2^62)<=j/\j<2^62/\R (Itr 0 j.toNat) H1
noncomputable def Ih (ta:TA):TI:=fun σ H R=>ta σ H fun vs H1=>∃i j:Int,vs=[.int i,.int j]/\(-(2^62)<=i/\i<2^62/\-(2^62)<=j/\j<2^62)/\R (Itr i (j-i).toNat) H1
theorem JD {a:Expr}{ta:TA}{p pos:Pos}(hg:Gl X "range") (hm:X.mg "range" = none) (ha:PA X [a] ta) (hs:starEach [a] X.env=[(false,eval a X.env)]:=by rfl):PI X tg (.Call (.Name "range" p) [a] [] pos) (oN ta):=by
 intro pins s σ H R I h;refine Call_ (iH I hg hm boot_range (PyProof.Rows.callWith_type1 (thA (ha pos pins s σ H _ I h) fun us s1 vs H1 I1 r1 q1=>?_) hs rfl));obtain⟨j,e,q1,q2,q⟩:=q1;subst e;cases r1 with
 | cons r rr=>
  cases rr;obtain⟨t,rfl⟩:=r;exact call_range_1 (Ce I1 ω ω q1 q2 (by simpa using q))
theorem JC {a b:Expr}{ta:TA}{p pos:Pos}(hg:Gl X "range") (hm:X.mg "range" = none) (ha:PA X [a,b] ta) (hs:starEach [a,b] X.env=[(false,eval a X.env),(false,eval b X.env)]:=by rfl) (hs2:starEach [b] X.env=[(false,eval b X.env)]:=by rfl) :
  PI X tg (.Call (.Name "range" p) [a,b] [] pos) (Ih ta):=by
 intro pins s σ H R I h;refine Call_ (iH I hg hm boot_range (PyProof.Rows.callWith_type1 (thA (ha pos pins s σ H _ I h) fun us s1 vs H1 I1 r1 q1=>?_) (by rw[hs,hs2]) (by rw[hs2];rfl)));obtain⟨i,j,e,⟨q1,q2,q3,q4⟩,q⟩:=q1;subst e;cases r1 with
 | cons r rr=>
  cases rr with
  | cons r' rr=>
   cases rr;obtain⟨t,rfl⟩:=r;obtain⟨t',rfl⟩:=r';exact call_range_2 (Ce I1 q1 q2 q3 q4 q)
noncomputable def Wu (wi:TI)(g:TG)(tb:TS):TS:=fun D σ H=>wi σ H fun J H1=>∃W:Nat->Nat->St->Hp->Prop,(∃m,W 0 m σ H1)/\∀i m σ H,W i m σ H ->
 (J.stop i H/\D.nx σ H)\/(J.go i H/\∃N:St->Hp->Prop,(∀σ' H',N σ' H'->∃m',m'<m/\W (i+1) m' σ' H')/\∀x H',J.yld i H x H'->g x σ H' fun σ2 H2=>tb { D with nx:=N,ct:=N,bk:=D.nx } σ2 H2)
noncomputable def jH (fp:List Addr)(h:Heap):List (Addr×Obj):=fp.filterMap fun b=>(h.get? b).map fun o=>(b,o)
theorem lA {fp:List Addr}{h:Heap}{b:Addr}{o:Obj}(hb:b∈fp)(e:h.get? b=some o):(b,o)∈jH fp h:=List.mem_filterMap.mpr ⟨b,hb,by rw[e];rfl⟩
theorem qX {fp:List Addr}{h:Heap}{p:Addr×Obj}(hp:p∈jH fp h):p.1∈fp/\h.get? p.1=some p.2:=by
 obtain⟨b,hb,e⟩:=List.mem_filterMap.mp hp;cases q:h.get? b with
 | none=>rw[q] at e;cases e
 | some o=>
  rw[q] at e;have e':(b,o)=p:=Option.some.inj e;subst e';exact⟨hb,q⟩
theorem Inv.pinned {pins:List (Addr×Obj)}{σ:St}{H:Hp}{s:Shared}{fp:List Addr}(I:Inv X pins σ H s)(hf:∀b∈fp,rO X pins H b)(ho:∀b∈fp,∃o,s.heap.get? b=some o/\∀v,o.data≠.cell v):Inv X (pins++jH fp s.heap) σ H s:=
 I.nA fun p hp=>(mem_append.mp hp).elim (fun z=>I.pin p (mem_append_right _ z)) fun z=>by
  obtain⟨hb,e⟩:=qX z;obtain⟨f0,f1,f2,_⟩:=hf p.1 hb;obtain⟨o,e',d⟩:=ho p.1 hb;rw[e] at e';cases e';exact⟨e,f0,f1,f2,d⟩
theorem Inv.lQ {pins pl:List (Addr×Obj)}{σ:St}{H:Hp}{s:Shared}(I:Inv X (pins++pl) σ H s):Inv X pins σ H s:=I.nA fun p hp=>I.pin p (mem_append_right _ (mem_append_left _ hp))
theorem Xd {iter:Expr}{body:List Stmt}{wi:TI}{g:TG}{tb:TS}{pos:Pos}(hp:PassesOwn (model X.prog X.w) X.A X.env X.xe)(hc:X.calm=true)(hi:PI X tg iter wi)(hg:PG X tg g)(hb:PSs X body tb)
  (hs:∀x,foldedSetIterable iter X.env x=pure x:=by intro _;rfl):PS X (.For tg iter body [] pos) (Wu wi g tb):=by
 intro pins s σ H D I h;refine wpAny_For (thn (hi pins s σ H _ I h) fun v s1 h1=>thn h1 fun itv s2 h2=>?_) hs;obtain⟨it,fp,tn,J,H2,e,I2,T,st2,f2,W,⟨m0,w0⟩,turn⟩:=h2;subst e
 -- what stays true of the iterator's objects through the loop
 have stat:∀{H':Hp},(∀b∈fp,H' b=none)->∀b∈fp,rO X pins H' b:=fun hn b hb=>⟨hn b hb,(f2 b hb).2⟩;refine codeAny_forLoop_any (fun n s'=>∃i σ' H',Inv X pins σ' H' s'/\tn i s'.heap/\(∀b∈fp,H' b=none)/\W i n σ' H') ?_ m0 ⟨0,σ,H2,I2,st2,fun b hb=>(f2 b hb).1,w0⟩;rintro n s3 ⟨i,σ3,H3,I3,st3,fr3,w3⟩;rcases turn i n σ3 H3 w3 with⟨stop,qn⟩|⟨go,N,hN,step⟩
 ·refine wpAny_passesOwn hp (thn (T.done X rfl rfl rfl hc i pins s3 σ3 H3 X.xe I3 (stat fr3) st3 stop) fun r s4 ⟨hr,I4⟩=>?_);subst hr;exact wpAny_execs_nil ⟨σ3,H3,I4,qn⟩
 refine wpAny_passesOwn hp (thn (T.item X rfl rfl rfl hc i pins s3 σ3 H3 X.xe I3 (stat fr3) st3 go) fun r s4 ⟨u,hr,h4⟩=>?_);subst hr;refine wpAny_passesOwn hp (thn h4 fun _ s5 ⟨x,H5,I5,r5,y5,st5,fr5⟩=>?_);have I5':=I5.pinned (stat fr5) (T.obj _ _ st5);refine wpAny_passesOwn hp (thn (hg _ s5 σ3 H5 x u _ I5' r5 (step x H5 y5)) fun _ s6 ⟨σ6,H6,I6,q6⟩=>?_);refine wpAny_passesOwn hp (thn (hb _ s6 σ6 H6 _ I6 q6) fun f s7 q7=>?_);have again:∀{σ7:St}{H7:Hp},Inv X (pins++jH fp s5.heap) σ7 H7 s7->N σ7 H7->∃m,m<n/\∃i σ' H',Inv X pins σ' H' s7/\tn i s7.heap/\(∀b∈fp,H' b=none)/\W i m σ' H':=fun {σ7 H7} I7 n7=>by
  obtain⟨m',hm,w7⟩:=hN σ7 H7 n7;refine⟨m',hm,i+1,σ7,H7,I7.lQ,T.keep _ _ _ st5 fun b hb o e=>(I7.pin (b,o) (mem_append_right _ (mem_append_right _ (lA hb e)))).1,fun b hb=>?_,w7⟩;obtain⟨o,e,d⟩:=T.obj _ _ st5 b hb;exact(I7.pin (b,o) (mem_append_right _ (mem_append_right _ (lA hb e)))).2.1
 cases f with
 | next=>obtain⟨σ7,H7,I7,n7⟩:=q7;exact again I7 n7
 | cont=>obtain⟨σ7,H7,I7,n7⟩:=q7;exact again I7 n7
 | brk=>obtain⟨σ7,H7,I7,q7⟩:=q7;exact⟨σ7,H7,I7.lQ,q7⟩
 | ret v=>obtain⟨x7,σ7,H7,I7,r7,q7⟩:=q7;exact⟨x7,σ7,H7,I7.lQ,r7,q7⟩
end
theorem Qv {K:PySem.W.Frag}{a:Addr}{xs:List V}{g:TG}{tb:TS}{D:Ends}{σ:St}{H:Hp}(Pv:Nat->St->Hp->Prop)(h0:Pv 0 σ H)(hl:∀i σ H,i<=xs.length->Pv i σ H->SqL K H a xs)
  (hs:∀i x σ H,xs[i]?=some x->Pv i σ H->g x σ H fun σ2 H2=>tb { D with nx:=Pv (i+1),ct:=Pv (i+1),bk:=D.nx } σ2 H2) (hd:∀σ H,Pv xs.length σ H->D.nx σ H) :
  ∃W:Nat->Nat->St->Hp->Prop,(∃m,W 0 m σ H)/\∀i m σ H,W i m σ H ->
   ((Itl K a).stop i H/\D.nx σ H)\/((Itl K a).go i H/\∃N:St->Hp->Prop,(∀σ' H',N σ' H'->∃m',m'<m/\W (i+1) m' σ' H')/\∀x H',(Itl K a).yld i H x H'->g x σ H' fun σ2 H2=>tb { D with nx:=N,ct:=N,bk:=D.nx } σ2 H2):=by
 refine⟨fun i m σ H=>m=xs.length-i/\i<=xs.length/\Pv i σ H,⟨xs.length,by simp,zero_le _,h0⟩,?_⟩;rintro i m σ H ⟨rfl,hi,p⟩;have q:=hl i σ H hi p;by_cases hlt:i<xs.length
 ·refine .inr ⟨⟨xs,xs[i],q,by simp [hlt]⟩,Pv (i+1),fun σ' H' p'=>⟨xs.length-(i+1),ω,rfl,hlt,p'⟩,fun x H' y=>?_⟩;obtain⟨e,y⟩:=y;subst e;exact hs i x σ _ (y xs q) p
 have e:i=xs.length:=ω;subst e;exact .inl ⟨⟨xs,q,le_refl _⟩,hd σ H p⟩
theorem Ka {lo:Int}{n:Nat}{g:TG}{tb:TS}{D:Ends}{σ:St}{H:Hp}(Pv:Nat->St->Hp->Prop)(h0:Pv 0 σ H)
  (hs:∀i σ H,i<n->Pv i σ H->g (.int (lo+i)) σ H fun σ2 H2=>tb { D with nx:=Pv (i+1),ct:=Pv (i+1),bk:=D.nx } σ2 H2) (hd:∀σ H,Pv n σ H->D.nx σ H) :
  ∃W:Nat->Nat->St->Hp->Prop,(∃m,W 0 m σ H)/\∀i m σ H,W i m σ H ->
   ((Itr lo n).stop i H/\D.nx σ H)\/((Itr lo n).go i H/\∃N:St->Hp->Prop,(∀σ' H',N σ' H'->∃m',m'<m/\W (i+1) m' σ' H')/\∀x H',(Itr lo n).yld i H x H'->g x σ H' fun σ2 H2=>tb { D with nx:=N,ct:=N,bk:=D.nx } σ2 H2):=by
 refine⟨fun i m σ H=>m=n-i/\i<=n/\Pv i σ H,⟨n,by simp,zero_le _,h0⟩,?_⟩;rintro i m σ H ⟨rfl,hi,p⟩;by_cases hlt:i<n
 ·refine .inr ⟨hlt,Pv (i+1),fun σ' H' p'=>⟨n-(i+1),ω,rfl,hlt,p'⟩,fun x H' y=>?_⟩;obtain⟨e,y⟩:=y;subst e y;exact hs i σ _ hlt p
 have e:i=n:=ω;subst e;exact .inl ⟨le_refl _,hd σ H p⟩
noncomputable abbrev R2:=V->V->Hp->VK->Prop
noncomputable def OpR (X:Cx)(f:Value->Value->Sem Value)(r:R2):Prop:=
 ∀(pins:List (Addr×Obj)) (s:Shared) (σ:St) (H:Hp) (x y:V) (v u:Value) (Q:VK),Inv X pins σ H s->RelV x v->RelV y u->r x y H Q ->
  wpAny (model X.prog X.w) X.A (f v u) (EP X pins σ Q) X.xe s
noncomputable def UnR (X:Cx)(f:Value->Sem Value)(r:V->Hp->VK->Prop):Prop:=
 ∀(pins:List (Addr×Obj)) (s:Shared) (σ:St) (H:Hp) (x:V) (v:Value) (Q:VK),Inv X pins σ H s->RelV x v->r x H Q ->
  wpAny (model X.prog X.w) X.A (f v) (EP X pins σ Q) X.xe s
noncomputable def cV (X:Cx)(f:Value)(r:List V->Hp->VK->Prop):Prop:=
 ∀(pins:List (Addr×Obj)) (s:Shared) (σ:St) (H:Hp) (xs:List V) (us:List Value) (Q:VK),Inv X pins σ H s->Vals xs us->r xs H Q ->
  wpAny (model X.prog X.w) X.A (call f us) (EP X pins σ Q) X.xe s
noncomputable def aai (X:Cx)(r:V->Hp->(Bool->Hp->Prop)->Prop):Prop:=
 ∀(pins:List (Addr×Obj)) (s:Shared) (σ:St) (H:Hp) (x:V) (v:Value) (Q:Bool->Hp->Prop),Inv X pins σ H s->RelV x v->r x H Q ->
  wpAny (model X.prog X.w) X.A (truthy v) (TP X pins σ Q) X.xe s
noncomputable def tOp (r:R2)(ta tb:TE):TE:=fun σ H Q=>ta σ H fun x H1=>tb σ H1 fun y H2=>r x y H2 Q
noncomputable def tUn (r:V->Hp->VK->Prop)(ta:TE):TE:=fun σ H Q=>ta σ H fun x H1=>r x H1 Q
noncomputable def rI (C:Int->Int->Prop)(g:Int->Int->V):R2:=fun x y H Q=>∃i j,x=.int i/\y=.int j/\C i j/\Q (g i j) H
noncomputable def rI0 (g:Int->Int->V):R2:=fun x y H Q=>∃i j,x=.int i/\y=.int j/\Q (g i j) H
noncomputable def rU (g:Int->V):V->Hp->VK->Prop:=fun x H Q=>∃i,x=.int i/\Q (g i) H
section
variable {X:Cx}{a b c:Expr}{ta tb tc:TE}{pos:Pos}
theorem Yz (ha:PE X a ta)(hb:PE X b tb){pins:List (Addr×Obj)}{s:Shared}{σ:St}{H:Hp}{R:V->V->Hp->Prop}(I:Inv X pins σ H s)
  (h:ta σ H fun x H1=>tb σ H1 fun y H2=>R x y H2) {Q:Value->Shared->Prop} {f:Value->Value->Sem Value}
  (hf:∀v u s2 x y H2,Inv X pins σ H2 s2->RelV x v->RelV y u->R x y H2->wpAny (model X.prog X.w) X.A (f v u) Q X.xe s2) :
  wpAny (model X.prog X.w) X.A (eval a X.env) (fun v s₁=>wpAny (model X.prog X.w) X.A (eval b X.env) (fun u s₂=>wpAny (model X.prog X.w) X.A (f v u) Q X.xe s₂) X.xe s₁) X.xe s:=by
 refine thE (ha pins s σ H _ I h) fun v s1 x H1 I1 r1 q1=>?_;refine thE (hb pins s1 σ H1 _ I1 q1) fun u s2 y H2 I2 r2 q2=>?_;exact hf v u s2 x y H2 I2 r1 r2 q2
theorem Y9 {op:Operator}{r:R2}(ho:OpR X (binaryOp op) r)(ha:PE X a ta)(hb:PE X b tb):PE X (.BinOp a op b pos) (tOp r ta tb):=by
 intro pins s σ H Q I h;exact wpAny_BinOp (Yz ha hb I h fun v u s2 x y H2 I2 rx ry q=>ho pins s2 σ H2 x y v u Q I2 rx ry q)
theorem Y8 {op:UnaryOp}{r:V->Hp->VK->Prop}(ho:UnR X (unaryOp op) r)(ha:PE X a ta):PE X (.UnaryOp op a pos) (tUn r ta):=by
 intro pins s σ H Q I h;exact UnaryOp_ (thE (ha pins s σ H _ I h) fun v s1 x H1 I1 r1 q1=>ho pins s1 σ H1 x v Q I1 r1 q1)
theorem opI {f:Value->Value->Sem Value}{C:Int->Int->Prop}{g:Int->Int->Int}
  (rule:∀(i j:Int)(t u:Tok)(s:Shared)(Q:Value->Shared->Prop)(E:Value->Shared->Prop),C i j->Q (.int (g i j) s.toks) { s with toks:=s.toks+1 }->wpAny (model X.prog X.w) X.A (f (.int i t) (.int j u)) Q E s) :
  OpR X f (rI C fun i j=>.int (g i j)):=by
 intro pins s σ H x y v u Q I rx ry h;obtain⟨i,j,rfl,rfl,hc,q⟩:=h;obtain⟨t,rfl⟩:=rx;obtain⟨t',rfl⟩:=ry;exact rule i j t t' s _ _ hc ⟨.int (g i j),H,I.tok _,⟨_,rfl⟩,q⟩
theorem XD {f:Value->Value->Sem Value}{g:Int->Int->Int}
  (rule:∀(i j:Int)(t u:Tok)(s:Shared)(Q:Value->Shared->Prop)(E:Value->Shared->Prop),Q (.int (g i j) s.toks) { s with toks:=s.toks+1 }->wpAny (model X.prog X.w) X.A (f (.int i t) (.int j u)) Q E s) :
  OpR X f (rI0 fun i j=>.int (g i j)):=by
 intro pins s σ H x y v u Q I rx ry h;obtain⟨i,j,rfl,rfl,q⟩:=h;obtain⟨t,rfl⟩:=rx;obtain⟨t',rfl⟩:=ry;exact rule i j t t' s _ _ ⟨.int (g i j),H,I.tok _,⟨_,rfl⟩,q⟩
theorem Ud {f:Value->Value->Sem Value}{g:Int->Int->Bool}
  (rule:∀(i j:Int)(t u:Tok)(s:Shared)(Q:Value->Shared->Prop)(E:Value->Shared->Prop),Q (.bool (g i j)) s->wpAny (model X.prog X.w) X.A (f (.int i t) (.int j u)) Q E s) :
  OpR X f (rI0 fun i j=>.bl (g i j)):=by
 intro pins s σ H x y v u Q I rx ry h;obtain⟨i,j,rfl,rfl,q⟩:=h;obtain⟨t,rfl⟩:=rx;obtain⟨t',rfl⟩:=ry;exact rule i j t t' s _ _ ⟨.bl (g i j),H,I,rfl,q⟩
noncomputable def YJ (i j:Int):Prop:=0<=j/\j<=1000000/\i.natAbs<2^64
noncomputable def K1 (i j:Int):Prop:=(-(2^64)<i/\i<2^64)\/(-(2^64)<j/\j<2^64)
theorem K1.ok {i j:Int}(h:K1 i j):IntMulOk i j:=by
 rcases h with⟨h1,h2⟩|⟨h1,h2⟩
 ·exact .of_left (intBits_le_64 h1 h2)
 exact .of_right (intBits_le_64 h1 h2)
theorem Ef (k:Nat):(0:Int)<=2^k:=by
 rw[two_pow_cast];exact Int.natCast_nonneg _
theorem XC:OpR X (binaryOp .Add) (rI0 fun i j=>.int (i+j)):=XD fun _ _ _ _ _ _ _ q=>add_int q
theorem eO:OpR X (binaryOp .Sub) (rI0 fun i j=>.int (i-j)):=XD fun _ _ _ _ _ _ _ q=>sub_int q
theorem Xx:OpR X (binaryOp .Mult) (rI K1 fun i j=>.int (i*j)):=opI fun _ _ _ _ _ _ _ hc q=>mul_int q hc.ok
theorem jf:OpR X (binaryOp .Mod) (rI (fun _ j=>0<j) fun i j=>.int (i%j)):=opI fun i j _ _ _ _ _ hc q=>by
 have h1:(0:Int)<j:=hc;exact mod_int' ω (by rw[Int.fmod_eq_emod_of_nonneg i ω];exact q)
theorem uL:OpR X (binaryOp .Pow) (rI YJ fun i j=>.int (i^j.toNat)):=opI fun _ _ _ _ _ _ _ hc q=>pow_int_small hc.1 hc.2.1 hc.2.2 q
theorem Xv:OpR X (binaryOp .LShift) (rI YJ fun i j=>.int (i*2^j.toNat)):=opI fun _ _ _ _ _ _ _ hc q=>lshift_int_small hc.1 hc.2.1 hc.2.2 q
theorem Oj:OpR X (binaryOp .RShift) (rI (fun _ j=>0<=j) fun i j=>.int (i/2^j.toNat)):=opI fun i j _ _ _ _ _ hc q=>
 rshift_int hc (by rw[Int.fdiv_eq_ediv_of_nonneg i (Ef _)];exact q)
theorem Om:OpR X (binaryOp .BitAnd) (rI0 fun i j=>.int (Builtin.bitAnd i j)):=XD fun _ _ _ _ _ _ _ q=>and_int q
theorem unI {f:Value->Sem Value}{g:Int->Int}
  (rule:∀(i:Int)(t:Tok)(s:Shared)(Q:Value->Shared->Prop)(E:Value->Shared->Prop),Q (.int (g i) s.toks) { s with toks:=s.toks+1 }->wpAny (model X.prog X.w) X.A (f (.int i t)) Q E s) :
  UnR X f (rU fun i=>.int (g i)):=by
 intro pins s σ H x v Q I rx h;obtain⟨i,rfl,q⟩:=h;obtain⟨t,rfl⟩:=rx;exact rule i t s _ _ ⟨.int (g i),H,I.tok _,⟨_,rfl⟩,q⟩
theorem cN:UnR X (unaryOp .USub) (rU fun i=>.int (-i)):=unI fun _ _ _ _ _ q=>neg_int q
end
noncomputable def Js:V->V->Bool
 | .non,.non=>true | .non,.int _=>true | .int _,.non=>true | .non,.bl _=>true | .bl _,.non=>true | .non,.str _=>true | .str _,.non=>true
 | .int _,.int _=>true | .bl _,.bl _=>true | .str _,.str _=>true | .byt _,.byt _=>true
 | .int _,.str _=>true | .str _,.int _=>true | .bl _,.str _=>true | .str _,.bl _=>true
 | _,_=>false
noncomputable def rEq:R2:=fun x y H Q=>Js x y=true/\Q (.bl (decide (x=y))) H
noncomputable def rNe:R2:=fun x y H Q=>Js x y=true/\Q (.bl (!decide (x=y))) H
theorem Ir {i j:Int}:decide (V.int i=V.int j)=(i == j):=by
 rw[Bool.eq_iff_iff];simp
theorem QM {i j:Bool}:decide (V.bl i=V.bl j)=(i == j):=by
 rw[Bool.eq_iff_iff];simp
theorem Ip {i j:Str}:decide (V.str i=V.str j)=(i == j):=by
 rw[Bool.eq_iff_iff];simp
theorem Iu {i j:Array UInt8}:decide (V.byt i=V.byt j)=(i.toList == j.toList):=by
 rw[Bool.eq_iff_iff];cases i;cases j;simp
section
variable {X:Cx}{a b c:Expr}{ta tb tc:TE}{pos:Pos}
theorem bI {pins:List (Addr×Obj)}{σ:St}{H:Hp}{s:Shared}{Q:VK}{k k':Bool}(I:Inv X pins σ H s)(q:Q (.bl k) H)(e:k=k'):EP X pins σ Q (.bool k') s:=by
 subst e;exact⟨.bl k,H,I,rfl,q⟩
theorem Zj:OpR X (compareOp .Eq) rEq:=by
 intro pins s σ H x y v u Q I rx ry h;obtain⟨hs,q⟩:=h;cases x with
 | non=>
  cases rx;cases y with
  | non=>cases ry;exact PySem.EqNone.eq_none_none (bI I q (by simp))
  | bl j=>cases ry;exact PySem.EqNone.eq_none_bool (bI I q (by simp))
  | int j=>obtain⟨t',rfl⟩:=ry;exact PySem.EqNone.eq_none_int (bI I q (by simp))
  | str j=>obtain⟨t',rfl⟩:=ry;exact PySem.EqNone.eq_none_str (bI I q (by simp))
  | _=>exact absurd (show false=true from hs) Bool.false_ne_true
 | bl i=>
  cases rx;cases y with
  | non=>cases ry;exact PySem.EqNone.eq_bool_none (bI I q (by simp))
  | bl j=>cases ry;exact eq_bool (bI I q QM)
  | str j=>obtain⟨t',rfl⟩:=ry;exact PySem.EqMixed.eq_bool_str (bI I q (by simp))
  | _=>exact absurd (show false=true from hs) Bool.false_ne_true
 | int i=>
  obtain⟨t,rfl⟩:=rx;cases y with
  | non=>cases ry;exact PySem.EqNone.eq_int_none (bI I q (by simp))
  | int j=>obtain⟨t',rfl⟩:=ry;exact eq_int (bI I q Ir)
  | str j=>obtain⟨t',rfl⟩:=ry;exact PySem.EqMixed.eq_int_str (bI I q (by simp))
  | _=>exact absurd (show false=true from hs) Bool.false_ne_true
 | str i=>
  obtain⟨t,rfl⟩:=rx;cases y with
  | non=>cases ry;exact PySem.EqNone.eq_str_none (bI I q (by simp))
  | bl j=>cases ry;exact PySem.EqMixed.eq_str_bool (bI I q (by simp))
  | int j=>obtain⟨t',rfl⟩:=ry;exact PySem.EqMixed.eq_str_int (bI I q (by simp))
  | str j=>obtain⟨t',rfl⟩:=ry;exact eq_str (bI I q Ip)
  | _=>exact absurd (show false=true from hs) Bool.false_ne_true
 | byt i=>
  obtain⟨t,rfl⟩:=rx;cases y with
  | byt j=>obtain⟨t',rfl⟩:=ry;exact PySem.W.eq_bytes (bI I q Iu)
  | _=>exact absurd (show false=true from hs) Bool.false_ne_true
 | _=>cases y <;> exact absurd (show false=true from hs) Bool.false_ne_true
theorem Zi:OpR X (compareOp .NotEq) rNe:=by
 intro pins s σ H x y v u Q I rx ry h;obtain⟨hs,q⟩:=h;cases x with
 | non=>
  cases rx;cases y with
  | non=>cases ry;exact PySem.EqNone.ne_none_none (bI I q (by simp))
  | bl j=>cases ry;exact PySem.EqNone.ne_none_bool (bI I q (by simp))
  | int j=>obtain⟨t',rfl⟩:=ry;exact PySem.EqNone.ne_none_int (bI I q (by simp))
  | str j=>obtain⟨t',rfl⟩:=ry;exact PySem.EqNone.ne_none_str (bI I q (by simp))
  | _=>exact absurd (show false=true from hs) Bool.false_ne_true
 | bl i=>
  cases rx;cases y with
  | non=>cases ry;exact PySem.EqNone.ne_bool_none (bI I q (by simp))
  | bl j=>cases ry;exact ne_bool (bI I q (congrArg not QM))
  | str j=>obtain⟨t',rfl⟩:=ry;exact PySem.EqMixed.ne_bool_str (bI I q (by simp))
  | _=>exact absurd (show false=true from hs) Bool.false_ne_true
 | int i=>
  obtain⟨t,rfl⟩:=rx;cases y with
  | non=>cases ry;exact PySem.EqNone.ne_int_none (bI I q (by simp))
  | int j=>obtain⟨t',rfl⟩:=ry;exact ne_int (bI I q (congrArg not Ir))
  | str j=>obtain⟨t',rfl⟩:=ry;exact PySem.EqMixed.ne_int_str (bI I q (by simp))
  | _=>exact absurd (show false=true from hs) Bool.false_ne_true
 | str i=>
  obtain⟨t,rfl⟩:=rx;cases y with
  | non=>cases ry;exact PySem.EqNone.ne_str_none (bI I q (by simp))
  | bl j=>cases ry;exact PySem.EqMixed.ne_str_bool (bI I q (by simp))
  | int j=>obtain⟨t',rfl⟩:=ry;exact PySem.EqMixed.ne_str_int (bI I q (by simp))
  | str j=>obtain⟨t',rfl⟩:=ry;exact ne_str (bI I q (congrArg not Ip))
  | _=>exact absurd (show false=true from hs) Bool.false_ne_true
 | byt i=>
  obtain⟨t,rfl⟩:=rx;cases y with
  | byt j=>obtain⟨t',rfl⟩:=ry;exact PySem.W.ne_bytes (bI I q (congrArg not Iu))
  | _=>exact absurd (show false=true from hs) Bool.false_ne_true
 | _=>cases y <;> exact absurd (show false=true from hs) Bool.false_ne_true
theorem mD:OpR X (compareOp .Lt) (rI0 fun i j=>.bl (decide (i<j))):=Ud fun _ _ _ _ _ _ _ q=>lt_int q
theorem xW:OpR X (compareOp .LtE) (rI0 fun i j=>.bl (decide (i<=j))):=Ud fun _ _ _ _ _ _ _ q=>le_int q
theorem V7:OpR X (compareOp .Gt) (rI0 fun i j=>.bl (decide (j<i))):=Ud fun _ _ _ _ _ _ _ q=>gt_int q
theorem V8:OpR X (compareOp .GtE) (rI0 fun i j=>.bl (decide (j<=i))):=Ud fun _ _ _ _ _ _ _ q=>ge_int q
theorem uM:OpR X (compareOp .Is) (fun x y H Q=>y=.non/\Q (.bl (decide (x=.non))) H):=by
 intro pins s σ H x y v u Q I rx ry h;obtain⟨rfl,q⟩:=h;cases ry;refine is_none_gen (bI I q ?_);cases x <;> first
  | (cases rx;rfl)
  | (obtain⟨t,rfl⟩:=rx;rfl)
theorem Ua:OpR X (compareOp .IsNot) (fun x y H Q=>y=.non/\Q (.bl (!decide (x=.non))) H):=by
 intro pins s σ H x y v u Q I rx ry h;obtain⟨rfl,q⟩:=h;cases ry;refine isnot_none_gen (bI I q ?_);cases x <;> first
  | (cases rx;rfl)
  | (obtain⟨t,rfl⟩:=rx;rfl)
theorem aP (b:Expr){op:CmpOp}(h:op≠.In:=by decide)(h2:op≠.NotIn:=by decide):behindInMarks op b=false:=by
 have e1:(op == CmpOp.In)=false:=by cases op <;> first|rfl|exact absurd rfl h
 have e2:(op == CmpOp.NotIn)=false:=by cases op <;> first|rfl|exact absurd rfl h2
 cases b <;> simp [behindInMarks,e1,e2]
theorem T5 {op:CmpOp}{r:R2}(ho:OpR X (compareOp op) r)(ha:PE X a ta)(hb:PE X b tb)(hm:behindInMarks op b=false):PE X (.Compare a [op] [b] pos) (tOp r ta tb):=by
 intro pins s σ H Q I h;exact wpAny_Compare1 (Yz ha hb I h fun v u s2 x y H2 I2 rx ry q=>ho pins s2 σ H2 x y v u Q I2 rx ry q) hm
noncomputable def rQ (t:TE):TT:=fun σ H Q=>t σ H fun x H'=>∃k,x=.bl k/\Q k H'
theorem Tf {op:CmpOp}{r:R2}(ho:OpR X (compareOp op) r)(ha:PE X a ta)(hb:PE X b tb)(hm:behindInMarks op b=false):PT X (.Compare a [op] [b] pos) (rQ (tOp r ta tb)):=by
 intro pins s σ H Q I h;refine wpAny_isTrue_Compare1 (thE (ha pins s σ H _ I h) fun v s1 x H1 I1 r1 q1=>thE (hb pins s1 σ H1 _ I1 q1) fun u s2 y H2 I2 r2 q2=>
  thn (ho pins s2 σ H2 x y v u _ I2 r1 r2 q2) fun c s3 ⟨z,H3,I3,r3,k,e,q3⟩=>?_) hm
 subst e;cases r3;exact wpAny_truthy_bool ⟨H3,I3,q3⟩
noncomputable def Em (r r':R2)(ta tb tc:TE):TE:=fun σ H Q=>ta σ H fun x H1=>tb σ H1 fun y H2=>r x y H2 fun z H3=>∃k,z=.bl k /\
 (if k=true then tc σ H3 fun w' H4=>r' y w' H4 Q else Q (.bl false) H3)
theorem NP {op op':CmpOp}{r r':R2}(ho:OpR X (compareOp op) r)(ho':OpR X (compareOp op') r')(ha:PE X a ta)(hb:PE X b tb)(hc:PE X c tc)
  (hm:lastMarks [op,op'] [b,c]=false:=by with_unfolding_all rfl):PT X (.Compare a [op,op'] [b,c] pos) (rQ (Em r r' ta tb tc)):=by
 intro pins s σ H Q I h;refine isTrue_chain (thE (ha pins s σ H _ I h) fun v s1 x H1 I1 r1 q1=>test_link (thE (hb pins s1 σ H1 _ I1 q1) fun u s2 y H2 I2 r2 q2=>
  thn (ho pins s2 σ H2 x y v u _ I2 r1 r2 q2) fun d s3 ⟨z,H3,I3,r3,k,e,q3⟩=>?_)) hm
 subst e;cases r3;refine wpAny_truthy_bool ?_;cases k with
 | false=>
  obtain⟨k',e',q'⟩:=q3;cases e';exact ite_ff ⟨H3,I3,q'⟩
 | true=>
  refine ite_tt (test_last (thn (hc pins s3 σ H3 _ I3 q3) fun w' s4 ⟨z',H4,I4,r4,q4⟩=>thn (ho' pins s4 σ H4 y z' u w' _ I4 r2 r4 q4) fun d' s5 ⟨z2,H5,I5,r5,k2,e2,q5⟩=>?_));subst e2;cases r5;exact wpAny_truthy_bool ⟨H5,I5,q5⟩
noncomputable def aah (K:PySem.W.Frag)(x:V)(H:Hp)(k:Bool):Prop:=
 match x with
 | .non=>k=false
 | .bl b=>k=b
 | .int i=>k=(i != 0)
 | .str y=>y.length<=sizeLine/\k=((y.length:Int) != 0)
 | .byt y=>y.size<=sizeLine/\k=((y.size:Int) != 0)
 | .ref p=>(∃xs,SqL K H p xs/\k=!xs.isEmpty)\/(∃xs,SqT K H p xs/\k=!xs.isEmpty)\/∃kvs,H p=some (.dK kvs)/\k=!kvs.isEmpty
 | _=>False
theorem Ga {κ:Type}{kvs:List (κ×V)}{vs:List (κ×Value)}(r:KV kvs vs):(!vs.isEmpty)=!kvs.isEmpty:=by
 cases r <;> rfl
theorem vA {xs:List V}{its:List Value}(r:Vals xs its):(!its.toArray.isEmpty)=!xs.isEmpty:=by
 cases r <;> simp
theorem vq:(sizeLine:Nat)<2^63:=by rw[sizeLine_eq];decide
theorem Wo:aai X (fun x H Q=>∃k,aah X.K x H k/\Q k H):=by
 intro pins s σ H x v Q I rx h;obtain⟨k,e,q⟩:=h;have hl:=vq;have hs:sizeLine=16777216:=sizeLine_eq;cases x with
 | non=>
  cases rx;have e':k=false:=e;subst e';exact truthy_none ⟨H,I,q⟩
 | bl b=>
  cases rx;have e':k=b:=e;subst e';exact wpAny_truthy_bool ⟨H,I,q⟩
 | int i=>
  obtain⟨t,rfl⟩:=rx;have e':k=(i != 0):=e;subst e';exact PySem.P.truthy_int ⟨H,I,q⟩
 | str y=>
  obtain⟨t,rfl⟩:=rx;obtain⟨hy,e'⟩:y.length<=sizeLine/\k=((y.length:Int) != 0):=e;subst e';exact PySem.P.truthy_str ω ⟨H,I.tok _,q⟩
 | byt y=>
  obtain⟨t,rfl⟩:=rx;obtain⟨hy,e'⟩:y.size<=sizeLine/\k=((y.size:Int) != 0):=e;subst e';exact PySem.W.truthy_bytes ω ⟨H,I.tok _,q⟩
 | ref p=>
  cases rx;have e':(∃xs,SqL X.K H p xs/\k=!xs.isEmpty)\/(∃xs,SqT X.K H p xs/\k=!xs.isEmpty)\/∃kvs,H p=some (.dK kvs)/\k=!kvs.isEmpty:=e;rcases e' with⟨xs,hx,e'⟩|⟨xs,hx,e'⟩|⟨kvs,hx,e'⟩
  ·subst e';obtain⟨its,r,pl,hz⟩:=I.list hx;have hlen:=r.length;exact wpAny_truthy_list pl.isList (by simp only[size_toArray];omega) ⟨H,I.tok _,by rw[vA r];exact q⟩
  ·subst e';obtain⟨its,r,pl,hz⟩:=I.tuple hx;have hlen:=r.length;exact truthy_tuple pl (by simp only[size_toArray];omega) ⟨H,I.tok _,by rw[vA r];exact q⟩
  subst e';obtain⟨hz,hS,vs,r,m⟩:kvs.length<=sizeLine/\(p == sysModules)=false/\∃vs,KV kvs vs/\s.heap.DictOf (bO X.prog X.w) p vs:=I.hok p _ hx;have hlen:kvs.length=vs.length:=Paired.length r;exact wpAny_truthy_dict hS m ω ⟨H,I.tok _,by rw[Ga r];exact q⟩
 | _=>exact(show False from e).elim
theorem vals1 {x:V}{us:List Value}(r:Vals [x] us):∃u,us=[u]/\RelV x u:=by
 cases r with
 | cons r1 r2=>cases r2;exact⟨_,rfl,r1⟩
theorem vals2 {x y:V}{us:List Value}(r:Vals [x,y] us):∃u w',us=[u,w']/\RelV x u/\RelV y w':=by
 cases r with
 | cons r1 r2=>
  cases r2 with
  | cons r3 r4=>cases r4;exact⟨_,_,rfl,r1,r3⟩
theorem Dy:cV X (.builtin "abs") (fun xs H Q=>∃i,xs=[.int i]/\Q (.int (if i<0 then -i else i)) H):=by
 intro pins s σ H xs us Q I r h;obtain⟨i,rfl,q⟩:=h;obtain⟨u,rfl,t,rfl⟩:=vals1 r;exact call_abs_int fun u tk=>⟨.int (if i<0 then -i else i),H,I.tok _,⟨_,rfl⟩,q⟩
theorem Ku (hc:X.calm=true):cV X (.builtin "max") (fun xs H Q=>∃i j,xs=[.int i,.int j]/\Q (.int (if j>i then j else i)) H):=by
 intro pins s σ H xs us Q I r h;obtain⟨i,j,rfl,q⟩:=h;obtain⟨u,w',rfl,⟨t,rfl⟩,⟨t',rfl⟩⟩:=vals2 r;refine max_two_ints (I.ok.hd hc) fun h' tk k=>⟨_,H,I.kept k,?_,q⟩;by_cases hj:j>i
 ·rw[if_pos hj,if_pos hj];exact⟨_,rfl⟩
 rw[if_neg hj,if_neg hj];exact⟨_,rfl⟩
theorem Ks (hc:X.calm=true):cV X (.builtin "min") (fun xs H Q=>∃i j,xs=[.int i,.int j]/\Q (.int (if j<i then j else i)) H):=by
 intro pins s σ H xs us Q I r h;obtain⟨i,j,rfl,q⟩:=h;obtain⟨u,w',rfl,⟨t,rfl⟩,⟨t',rfl⟩⟩:=vals2 r;refine min_two_ints (I.ok.hd hc) fun h' tk k=>⟨_,H,I.kept k,?_,q⟩;by_cases hj:j<i
 ·rw[if_pos hj,if_pos hj];exact⟨_,rfl⟩
 rw[if_neg hj,if_neg hj];exact⟨_,rfl⟩
theorem yQ:cV X (.type "int") (fun xs H Q=>(∃i,xs=[.int i]/\Q (.int i) H)\/∃k,xs=[.bl k]/\Q (.int (if k then 1 else 0)) H):=by
 intro pins s σ H xs us Q I r h;rcases h with⟨i,rfl,q⟩|⟨k,rfl,q⟩
 ·obtain⟨u,rfl,t,rfl⟩:=vals1 r;exact call_int_int ⟨.int i,H,I,⟨_,rfl⟩,q⟩
 obtain⟨u,rfl,r1⟩:=vals1 r;cases r1;exact call_int_bool ⟨.int (if k then 1 else 0),H,I.tok _,⟨_,rfl⟩,q⟩
end
structure YF (h:Heap)(x dx C:Addr)(mA:Str->Option Value):Prop where
 obj:h.get? x=some (PySem.W.instObj C dx)
 ns:h.Ns1 dx mA
 ne:dx≠x
theorem J0 {h:Heap}{dx:Addr}{mA:Str->Option Value}(n:h.Ns1 dx mA):∃od,h.get? dx=some od/\∀name,PySem.W.lookIn name od=some (mA name):=by
 obtain⟨o,es,ep,ho,hd,hk,_,hm⟩:=n;refine⟨o,ho,fun name=>?_⟩;have e:=hm name;unfold nsFind findBy at e;rw[<- Array.find?_toList] at e;unfold PySem.W.lookIn;rw[hd];dsimp only;split
 ·rename_i y q;rw[q] at e;exact congrArg some e
 rename_i q;rw[q] at e;have a:es.toList.any (·.refKey)=false:=by
  rw[List.any_eq_false];intro y hy;obtain⟨z,t,hkey⟩:=hk y (Array.mem_toList_iff.mp hy);simp [DictEntry.refKey,hkey]
 have a':¬es.toList.any (·.refKey)=true:=by rw[a];exact Bool.false_ne_true
 rw[if_neg a'];exact congrArg some e
theorem YF.look {h:Heap}{x dx C:Addr}{mA:Str->Option Value}(I:YF h x dx C mA):∃od,PySem.W.InstAt h x (PySem.W.instObj C dx) C (some od)/\∀name,PySem.W.lookIn name od=some (mA name):=
 let ⟨od,ho,hl⟩:=J0 I.ns
 ⟨od,⟨I.obj,rfl,rfl,ho⟩,hl⟩
section
variable {P:Program}{w:World}{H H':Hp}{h h':Heap}{a C dx:Addr}{fs fs':List (Str×V)}
theorem Vf (hok:HOk P w H h)(e:H a=some (.ins C dx fs)):∃mA,YF h a dx C mA/\(∀f,GQ (fs.lookup f) (mA f))/\PySem.Within mA (fs.map (·.1))/\fs.length<=1000/\H dx=some (.own a):=by
 obtain⟨d,z,ne,ob,mA,n,r,q⟩:=(show bN P w H h a (.ins C dx fs) from hok a _ e);exact⟨mA,⟨ob,n,ne⟩,r,q,z,d⟩
end
structure Cls (K:PySem.W.Frag)(C:Addr):Prop where
 pg:PySem.W.plainGet K C Str.empty=true
 hd:PySem.W.hasDictIn K C=true
 po:PySem.W.plainOver K C=true
 sa:PySem.W.findIn K (.ref C) "__setattr__" = some (some (.builtin "object.__setattr__"))
theorem Cls.get {K:PySem.W.Frag}{C:Addr}(c:Cls K C)(f:Str):PySem.W.plainGet K C f=true:=c.pg
section
variable {X:Cx}{pins:List (Addr×Obj)}{σ:St}{H:Hp}{s:Shared}{A:Around}{E:Value->Shared->Prop}{Q:Value->Shared->Prop}{c:Value}{b:Bool}
inductive oh (K:PySem.W.Frag)(H:Hp):V->Value->Prop where
 | non:oh K H .non (.type "NoneType")
 | bl (x:Bool):oh K H (.bl x) (.type "bool")
 | int (i:Int):oh K H (.int i) (.type "int")
 | str (x:Str):oh K H (.str x) (.type "str")
 | flt (x:UInt64):oh K H (.flt x) (.type "float")
 | lst {a:Addr} {xs:List V} (e:H a=some (.lst xs)):oh K H (.ref a) (.type "list")
 | frz {a:Addr} {o:Obj} {xs:List V} (e:H a=some (.frz o (.lst xs))):oh K H (.ref a) (.type "list")
 | tup {a:Addr} {xs:List V} (e:H a=some (.tup xs)):oh K H (.ref a) (.type "tuple")
 | dK {a:Addr} {kvs:List (Key×V)} (e:H a=some (.dK kvs)):oh K H (.ref a) (.type "dict")
 | dT {a:Addr} {kvs:List (List Key×V)} (e:H a=some (.dT kvs)):oh K H (.ref a) (.type "dict")
 | ins {a C dx:Addr} {fs:List (Str×V)} (e:H a=some (.ins C dx fs)) (cl:Cls K C) (ha:PySem.W.findIn K (.ref C) "__class__" = some (some (.builtin "object.__class__")))
   (hn:PySem.W.specialIn K (.builtin "object.__class__") "__get__" = some (some (.builtin "getset_descriptor.__get__"))) (htk:PySem.W.takesIn K (.builtin "object.__class__")=some true)
   (hm:PySem.W.mroIn K C (.type "object")=some true):oh K H (.ref a) (.ref C)
theorem J4 {x:V}{u t:Value}(I:Inv X pins σ H s)(rx:RelV x u)(ty:oh X.K H x t)(e:kitOne X.K t c=some b)(h:∀tk,Q (.bool b) { s with toks:=tk }) :
  wpAny (model X.prog X.w) A (call (.builtin "isinstance") [u,c]) Q E s:=by
 cases ty with
 | non=>cases (show u=Value.none from rx);exact PySem.W.kia_one PySem.W.kitx_none I.kIn True.intro e (fun z=>nomatch z) h
 | bl y=>cases (show u=Value.bool y from rx);exact PySem.W.kia_one PySem.W.kitx_bool I.kIn True.intro e (fun z=>nomatch z) h
 | int i=>obtain⟨t,q⟩:=(show ∃t,u=Value.int i t from rx);cases q;exact PySem.W.kia_one PySem.W.kitx_int I.kIn True.intro e (fun z=>nomatch z) h
 | str y=>obtain⟨t,q⟩:=(show ∃t,u=Value.str y t from rx);cases q;exact PySem.W.kia_one PySem.W.kitx_str I.kIn True.intro e (fun z=>nomatch z) h
 | flt y=>obtain⟨t,q⟩:=(show ∃t,u=Value.float y t from rx);cases q;exact PySem.W.kia_one PySem.W.kitx_float I.kIn True.intro e (fun z=>nomatch z) h
 | @lst a xs ea=>
  cases (show u=Value.ref a from rx);obtain⟨_,_,n,_,h1⟩:=(show bN X.prog X.w H s.heap a (.lst xs) from I.hok a _ ea);exact PySem.W.kia_one PySem.W.kitx_list I.kIn ⟨_,h1,rfl⟩ e (fun z=>nomatch z) h
 | @frz a ob xs ea=>
  cases (show u=Value.ref a from rx);obtain⟨_,_,_,n,_,h1⟩:=(show bN X.prog X.w H s.heap a (.frz ob (.lst xs)) from I.hok a _ ea);exact PySem.W.kia_one PySem.W.kitx_list I.kIn ⟨_,h1,rfl⟩ e (fun z=>nomatch z) h
 | @tup a xs ea=>
  cases (show u=Value.ref a from rx);obtain⟨_,_,_,p⟩:=(show bN X.prog X.w H s.heap a (.tup xs) from I.hok a _ ea);obtain⟨o,h1,h2,_⟩:=p;exact PySem.W.kia_one PySem.W.kitx_tuple I.kIn ⟨o,h1,h2⟩ e (fun z=>nomatch z) h
 | @dK a kvs ea=>
  cases (show u=Value.ref a from rx);obtain⟨_,_,vs,_,p⟩:=(show bN X.prog X.w H s.heap a (.dK kvs) from I.hok a _ ea);obtain⟨o,es,ep,h1,h2,_⟩:=p;exact PySem.W.kia_one PySem.W.kitx_dict I.kIn ⟨o,h1,h2.1⟩ e (fun z=>nomatch z) h
 | @dT a kvs ea=>
  cases (show u=Value.ref a from rx);obtain⟨_,_,xs,_,o,es,ep,h1,h2,_⟩:=(show bN X.prog X.w H s.heap a (.dT kvs) from I.hok a _ ea);exact PySem.W.kia_one PySem.W.kitx_dict I.kIn ⟨o,h1,h2.1⟩ e (fun z=>nomatch z) h
 | @ins a C dx fs ea cl ha hn htk hm=>
  cases (show u=Value.ref a from rx);obtain⟨mA,O,_⟩:=Vf I.hok ea;obtain⟨od,J,_⟩:=O.look;exact PySem.W.kia_one (PySem.W.kitx_own (cl.get _) cl.hd ha hn htk hm) I.kIn J e (fun z=>nomatch z) h
end
structure gW (k:Nat)(A:Around):Prop where
 hd:A.handled=none
 dp:A.depth+3*k+5<recursionLimit
 un:A.units+16*k+200<cLine
 gd:A.guards=some []
theorem gW.mono {j k:Nat}{A:Around}(r:gW k A)(h:j<=k):gW j A:=⟨r.hd,by have:=r.dp;omega,by have:=r.un;omega,r.gd⟩
theorem gW.deeper {k:Nat}{A:Around}(r:gW (k+1) A)(env:Env):gW k (A.deeper env):=
 ⟨r.hd,by have:=r.dp;show A.depth+1+3*k+5<_;omega,by have:=r.un;show A.units+3+16*k+200<_;omega,r.gd⟩
theorem gW.depth {k:Nat}{A:Around}(r:gW k A):A.depth<recursionLimit:=by have:=r.dp;omega
theorem gW.bA {k:Nat}{A:Around}(r:gW k A):A.units<cLine:=by have:=r.un;omega
noncomputable def BJ:TA:=fun _ H Q=>Q [] H
noncomputable def rR (ta:TE)(tr:TA):TA:=fun σ H Q=>ta σ H fun x H1=>tr σ H1 fun xs H2=>Q (x::xs) H2
section
variable {X:Cx}{e:Expr}{es:List Expr}{te:TE}{t:TA}{pos:Pos}
theorem Xu:PA X [] BJ:=fun _ _ _ _ H Q I h=>Calls.spliced_nil ⟨[],H,I,.nil,h⟩
theorem T9 (ha:PE X e te)(hr:PA X es t)(hs:starEach (e::es) X.env=(false,eval e X.env)::starEach es X.env:=by rfl):PA X (e::es) (rR te t):=by
 intro pos pins s σ H Q I h;rw[hs];show wpAny _ _ (spliced ((false,eval e X.env)::backTo pos (starEach es X.env))) _ _ s;refine Calls.spliced_cons (thE (ha pins s σ H _ I h) fun u s1 x H1 I1 r1 q1=>?_);exact thA (hr pos pins s1 σ H1 _ I1 q1) fun us s2 xs H2 I2 r2 q2=>⟨x::xs,H2,I2,.cons r1 r2,q2⟩
noncomputable def Ln (t:TA):TE:=fun σ H Q=>t σ H fun xs H1=>xs.length<=sizeLine/\∀p,H1 p=none->Q (.ref p) (upd H1 p (.tup xs))
noncomputable def Ls (t:TA):TE:=fun σ H Q=>t σ H fun xs H1=>xs.length<=sizeLine/\∀p,H1 p=none->Q (.ref p) (upd H1 p (.lst xs))
theorem Xj {x1}(h:PA X es t):PE X (.Tuple es x1 pos) (Ln t):=by
 intro pins s σ H Q I hq;refine wpAny_Tuple_spliced (thn (h pos pins s σ H _ I hq) fun us s1 ⟨xs,H1,I1,r,z,q⟩=>⟨by rw[<- r.length];exact z,?_⟩);have hf:H1 s1.heap.objs.size=none:=I1.hok.fresh (le_refl _);refine⟨.ref s1.heap.objs.size,upd H1 s1.heap.objs.size (.tup xs),I1.laid (t':=s1.toks) (fun b u e=>get?_push_of_some _ e) (le_refl _) ?_,rfl,q _ hf⟩;exact⟨z,us,r,⟨_,get?_push_size _ rfl,rfl,_,rfl⟩⟩
theorem Xo (h:PA X es t):PE X (.List es pos) (Ls t):=by
 intro pins s σ H Q I hq;refine wpAny_List_spliced (thn (h pos pins s σ H _ I hq) fun us s1 ⟨xs,H1,I1,r,z,q⟩=>⟨by rw[<- r.length];exact z,?_⟩);have hf:H1 s1.heap.objs.size=none:=I1.hok.fresh (le_refl _);refine⟨.ref s1.heap.objs.size,upd H1 s1.heap.objs.size (.lst xs),I1.laid (t':=s1.toks) (fun b u e=>get?_push_of_some _ e) (le_refl _) ?_,rfl,q _ hf⟩;exact⟨z,us,0,r,get?_push_size _ rfl⟩
end
noncomputable abbrev Sp:=List V->Hp->VK->XK->Prop
noncomputable abbrev CXT:=List Env->Hp->Shared->XK->Value->Shared->Prop
structure VR (P:Program)(w:World)(K:PySem.W.Frag)(mg:Str->Option Value)(base:Heap)(A:Around)(outer:List Env)(s:Shared)(H:Hp):Prop where
 frames:A.frames=some outer
 mod:Mod K mg base
 bs:∀b o,base.get? b=some o->s.heap.get? b=some o/\H b=none
 bsz:base.objs.size<=s.heap.objs.size
 tH:s.heap.FunFrames base outer
 frf:∀b∈frs outer,H b=none
 hok:HOk P w H s.heap
 bare:AllBare s.gens
noncomputable def CE (outer:List Env)(P:Program)(w:World)(H:Hp)(s:Shared)(Q:VK)(u:Value)(s':Shared):Prop:=
 ∃v H',s'.os=s.os/\AllBare s'.gens/\Un (frs outer) [] H H' s.heap s'.heap/\HOk P w H' s'.heap/\RelV v u/\Q v H'
noncomputable def CR (CX:CXT)(outer:List Env)(P:Program)(w:World)(H:Hp)(s:Shared)(Q:VK)(E:XK)(r:Result)(s':Shared):Prop:=
 match r with
 | .ok (.ret u)=>CE outer P w H s Q u s'
 | .ok _=>False
 | .error e=>CX outer H s E e s'
structure dF (P:Program)(w:World)(K:PySem.W.Frag)(mg:Str->Option Value)(base:Heap)(CX:CXT)(k:Nat)(f:Addr)(fd:FuncData)(ps:List Str)(sp:Sp):Prop where
 len:∀vs H Q E,sp vs H Q E->vs.length=ps.length
 run:∀(A:Around)(outer:List Env)(s:Shared)(H:Hp)(args:Args)(us:List Value)(vs:List V)(Q:VK)(E:XK),gW k A->VR P w K mg base A outer s H->BindsTo s fd args (ps.zip us)->Vals vs us->sp vs H Q E ->
  codeAny (model P w) A (.call (.ref f) args) (CR CX outer P w H s Q E) s
section
variable {X:Cx}{pins:List (Addr×Obj)}{σ:St}{H:Hp}{s s':Shared}
theorem Inv.env0 (I:Inv X pins σ H s):VR X.prog X.w X.K X.mg X.base X.A X.stack s H:=
 ⟨I.ok.frames,I.ok.mod,I.bs,le_trans I.ok.bsz I.sz,I.stack,I.G7,I.hok,I.bare⟩
theorem Inv.after {Q:VK}{u:Value}(I:Inv X pins σ H s)(h:CE X.stack X.prog X.w H s Q u s'):EP X pins σ Q u s':=by
 obtain⟨v,H',os,bare,un,hok,r,q⟩:=h;obtain⟨hh,g,d,t,os'⟩:=s';obtain rfl:os'=s.os:=os;exact⟨v,H',I.call (h':=hh) (g':=g) (d':=d) (t':=t) (ch:=[]) un hok bare (fun b z=>absurd z (by simp)),r,q⟩
end
noncomputable def uh (sp:Sp)(dvs:List V)(E:XK)(t:TA):TE:=fun σ H Q=>t σ H fun vs H1=>sp (vs++dvs) H1 Q E
noncomputable def Binds (K:PySem.W.Frag)(fd:FuncData)(ps:List Str)(ds:List Value):Prop:=
 ∀(s:Shared)(us:List Value),K.In s.heap->(us++ds).length=ps.length->BindsTo s fd ⟨us,[]⟩ (ps.zip (us++ds))
theorem Binds.all {K:PySem.W.Frag}{fd:FuncData}{ps:List Str}(h:∀us:List Value,us.length=ps.length->bindArgs fd ⟨us,[]⟩=pure (ps.zip us)):Binds K fd ps []:=fun s us _ hl=>by
 rw[append_nil] at hl |-;exact .of_eq (h us hl)
noncomputable def GR (CX:CXT)(X:Cx)(E:XK):Prop:=∀(pins:List (Addr×Obj)) (σ:St) (H:Hp) (s:Shared) (e:Value) (s':Shared),Inv X pins σ H s->CX X.stack H s E e s'->X.xe e s'
section
variable {X:Cx}{CX:CXT}{k:Nat}{f C:Addr}{fd:FuncData}{ps:List Str}{sp:Sp}{dvs:List V}{ds:List Value}{E:XK}{x m:Str}{p pos apos:Pos}{e o:Expr}{es:List Expr}{ta:TE}{t:TA}
theorem WM {pins:List (Addr×Obj)}{σ:St}{H:Hp}{s:Shared}{Q:VK}{us:List Value}{vs:List V}(F:dF X.prog X.w X.K X.mg X.base CX k f fd ps sp)(hr:gW k X.A)(hb:Binds X.K fd ps ds)(hd:Vals dvs ds)(hx:GR CX X E)
  (I:Inv X pins σ H s) (r:Vals vs us) (h:sp (vs++dvs) H Q E):wpAny (model X.prog X.w) X.A (call (.ref f) us) (EP X pins σ Q) X.xe s:=by
 have r2:Vals (vs++dvs) (us++ds):=r.append hd;have hl:(us++ds).length=ps.length:=by rw[<- r2.length];exact F.len _ _ _ _ h
 refine wpAny_call (codeAny_mono (F.run X.A X.stack s H ⟨us,[]⟩ (us++ds) (vs++dvs) Q E hr I.env0 (hb s us I.kIn hl) r2 h) fun r s' hq=>?_);cases r with
 | error e=>exact hx pins σ H s e s' I hq
 | ok fl=>
  cases fl with
  | ret u=>exact I.after hq
  | next=>exact False.elim hq
  | brk=>exact False.elim hq
  | cont=>exact False.elim hq
theorem T6 (F:dF X.prog X.w X.K X.mg X.base CX k f fd ps sp)(hr:gW k X.A)(hg:Gl X x)(hm:X.mg x=some (.ref f))(hk:keepIn X.K (.ref f)=true)(hb:Binds X.K fd ps ds)(hd:Vals dvs ds)(hx:GR CX X E)
  (ha:PA X (e::es) t) (hdb:(x == ("__debug__" : Str))=false:=by decide) (he:starEach (e::es) X.env=(false,eval e X.env)::starEach es X.env:=by rfl) (hpl:(backTo pos (starEach es X.env)).any (·.1)=false:=by rfl) :
  PE X (.Call (.Name x p) (e::es) [] pos) (uh sp dvs E t):=by
 intro pins s σ H Q I h;refine wpAny_Call_Name_kw (U8 I hg hm ?_ hdb);refine PySem.W.callWith_K (h₀:=X.base) I.ok.mod.kin hk (thA (ha pos pins s σ H _ I h) fun us s1 vs H1 I1 r q=>⟨I1.kIn,?_⟩) he hpl;exact WM F hr hb hd hx I1 r q
end
noncomputable def PK (X:Cx)(kws:List Keyword)(t:TA):Prop:=
 ∀(pos:Pos)(pins:List (Addr×Obj)) (s:Shared) (σ:St) (H:Hp) (Q:List V->Hp->Prop),Inv X pins σ H s->t σ H Q->wpAny (model X.prog X.w) X.A (evalAll ((backToKw pos (keywordEach kws X.env)).map (·.2))) (AP X pins σ Q) X.xe s
section
variable {X:Cx}{CX:CXT}{k:Nat}{f C:Addr}{fd:FuncData}{ps ks:List Str}{sp:Sp}{E:XK}{x m:Str}{p pos apos kpos:Pos}{e o:Expr}{es:List Expr}{kws:List Keyword}{te ta:TE}{t tk:TA}{nm:Option Str}
theorem Xh:PK X [] BJ:=fun _ _ _ _ H Q I h=>wpAny_evalAll_nil ⟨[],H,I,.nil,h⟩
theorem Tw (ha:PE X e te)(hr:PK X kws t):PK X (⟨nm,e,kpos⟩::kws) (rR te t):=by
 intro pos pins s σ H Q I h;show wpAny _ _ (evalAll ((do let v <- eval e X.env;standAt pos;pure v)::(backToKw pos (keywordEach kws X.env)).map (·.2))) _ _ s;refine wpAny_evalAll_cons (wpAny_bind (thE (ha pins s σ H _ I h) fun u s1 x H1 I1 r1 q1=>wpAny_bind (wpAny_standAt (wpAny_pure ?_))));exact thA (hr pos pins s1 σ H1 _ I1 q1) fun us s2 xs H2 I2 r2 q2=>⟨x::xs,H2,I2,.cons r1 r2,q2⟩
variable {g:List Value->List Value->List Value}{gV:List V->List V->List V}
end
structure bB (N P:List Str)(sc:Scope):Prop where
 kind:sc.kind=.function
 co:sc.isCoroutine=false
 gen:sc.isGenerator=false
 nd:N.Nodup
 pre:N.take P.length=P
 par:∀x∈P,sc.names.lookup x=some .local\/sc.names.lookup x=some .cell
 nofree:∀y∈sc.names,y.2≠.free
theorem yR {kindOf:Str->Option NameKind}{x:Str}:∀{binds:List (Str×Value)}{m:Str->Option Value},(∀v,(x,v)∉binds)->bindL kindOf binds m x=m x
 | [],_,_=>rfl
 | (n,v)::r,m,h=>by
  unfold bindL;rw[yR fun w hw=>h w (mem_cons_of_mem _ hw)];split
  ·have:x≠n:=by rintro rfl;exact h v mem_cons_self
   simp [this]
  rfl
theorem yU {kindOf:Str->Option NameKind}{x:Str}:∀{binds:List (Str×Value)}{m:Str->Option Value},(∀v,(x,v)∉binds)->bindC kindOf binds m x=m x
 | [],_,_=>rfl
 | (n,v)::r,m,h=>by
  unfold bindC;rw[yU fun w hw=>h w (mem_cons_of_mem _ hw)];split
  ·rfl
  have:x≠n:=by rintro rfl;exact h v mem_cons_self
  simp [this]
theorem yS {kindOf:Str->Option NameKind}{x:Str}{v:Value}:∀{P:List Str}{vs:List Value}{i:Nat}{m:Str->Option Value},P.Nodup->P[i]?=some x->vs[i]?=some v->kindOf x=some .local ->
  bindL kindOf (P.zip vs) m x=some v
 | [],_,_,_,_,h,_,_=>by simp at h
 | _::_,[],_,_,_,_,h,_=>by simp at h
 | p::P,w::vs,0,m,nd,h1,h2,hk=>by
  simp at h1 h2;subst h1;subst h2;show bindL kindOf ((p,w)::P.zip vs) m p=_;unfold bindL;rw[yR fun v hv=>(nodup_cons.mp nd).1 (of_mem_zip hv).1,if_pos hk];simp
 | p::P,w::vs,i+1,m,nd,h1,h2,hk=>by
  show bindL kindOf ((p,w)::P.zip vs) m x=_;unfold bindL;exact yS (i:=i) (nodup_cons.mp nd).2 (by simpa using h1) (by simpa using h2) hk
theorem yV {kindOf:Str->Option NameKind}{x:Str}{v:Value}:∀{P:List Str}{vs:List Value}{i:Nat}{m:Str->Option Value},P.Nodup->P[i]?=some x->vs[i]?=some v->kindOf x≠some .local ->
  bindC kindOf (P.zip vs) m x=some v
 | [],_,_,_,_,h,_,_=>by simp at h
 | _::_,[],_,_,_,_,h,_=>by simp at h
 | p::P,w::vs,0,m,nd,h1,h2,hk=>by
  simp at h1 h2;subst h1;subst h2;show bindC kindOf ((p,w)::P.zip vs) m p=_;unfold bindC;rw[yU fun v hv=>(nodup_cons.mp nd).1 (of_mem_zip hv).1,if_neg hk];simp
 | p::P,w::vs,i+1,m,nd,h1,h2,hk=>by
  show bindC kindOf ((p,w)::P.zip vs) m x=_;unfold bindC;exact yV (i:=i) (nodup_cons.mp nd).2 (by simpa using h1) (by simpa using h2) hk
noncomputable def start (N:List Str)(vs:List V):St:=vs.map some++List.replicate (N.length-vs.length) none
noncomputable def Gu (CX:CXT)(P:Program)(w:World)(K:PySem.W.Frag)(mg:Str->Option Value)(base:Heap)(N:List Str)(qual:Str)(scope:Scope)(f:Addr)(cd:Value)(A:Around)(outer:List Env)(s:Shared)(H:Hp)(E:XK):Cx where
 prog:=P
 w:=w
 K:=K
 mg:=mg
 base:=base
 A:=A.deeper (envOfC qual scope s.heap.objs.size f cd)
 N:=N
 s₀:=s
 H₀:=H
 env:=envOfC qual scope s.heap.objs.size f cd
 outer:=outer
 stack:=envOfC qual scope s.heap.objs.size f cd::outer
 ex:=[]
 calm:=true
 fn:=fun _=>true
 pn:=[]
 xe:=fun e s'=>wpAny (model P w) (A.deeper (envOfC qual scope s.heap.objs.size f cd)) (leaving (envOfC qual scope s.heap.objs.size f cd) e) (fun _ s''=>CX outer H s E e s'') (fun e' s''=>CX outer H s E e' s'') s'
theorem Dv {sc:Scope}{n:Nat}{x:Str}(h:sc.names.lookup x=some .cell):∃c,(cellsFrom n sc.names []).lookup x=some c:=by
 have q:=PySem.W.cellsFrom_some sc.names n [] (.inl h);exact Option.isSome_iff_exists.mp q
theorem J6 {CX:CXT}{P:Program}{w:World}{K:PySem.W.Frag}{mg:Str->Option Value}{base:Heap}{N ps:List Str}{qual:Str}{scope:Scope}{f:Addr}{cd:Value}{A:Around}{outer:List Env}{s s1:Shared}{H:Hp}{E:XK}{us:List Value}{vs:List V}
  (S:bB N ps scope) (hd:A.handled=none) (e0:VR P w K mg base A outer s H) (hl:vs.length=ps.length) (r:Vals vs us)
  (x:InCallC s s.heap.objs.size (bindL (envOfC qual scope s.heap.objs.size f cd).kindOf (ps.zip us) fun _=>none) (cellsFrom (s.heap.objs.size+1) scope.names []) (bindC (envOfC qual scope s.heap.objs.size f cd).kindOf (ps.zip us) fun _=>none) s1) :
  Inv (Gu CX P w K mg base N qual scope f cd A outer s H E) [] (start N vs) H s1:=by
 have hpl:ps.length<=N.length:=by have:=congrArg List.length S.pre;rw[length_take] at this;omega
 obtain⟨h1,tk,rfl,hk⟩:=x.done;have noA:∀b:Addr,b∉(Gu CX P w K mg base N qual scope f cd A outer s H E).ex:=fun b z=>absurd (show b∈([]:List Addr) from z) (by simp);refine⟨⟨e0.mod,S.kind,rfl,rfl,le_refl _,fun y z c h1 h2=>?_,fun y hy=>?_,fun y c _ h=>?_,fun _=>hd,Around.frames_deeper e0.frames,.inr ⟨rfl,rfl⟩,fun b z=>absurd z (noA b),e0.bs,e0.bsz,fun b _ _=>noA b,fun b z=>absurd z (noA b),e0.tH,e0.frf⟩,
  rfl,e0.bare,Un.kept hk,⟨_,x.toInCall.ns,fun i y v h1 h2 h3=>?_⟩,fun y c h=>⟨_,x.cell y c h⟩,e0.hok.fresh (le_refl _),fun y c h=>?_,fun p hp=>absurd (show p∈([]:List (Addr×Obj)) from hp) (by simp),e0.hok.kept hk,?_⟩
 ·exact name_of_addr x.apart (PySem.mem_of_lookup h1) (PySem.mem_of_lookup h2)
 ·have hy:scope.names.lookup y=some .cell\/scope.names.lookup y=some .free:=hy;rcases hy with hy|hy
  ·exact Dv hy
  exact absurd rfl (S.nofree _ (PySem.mem_of_lookup hy))
 ·exact le_of_lt (x.above y c (PySem.mem_of_lookup h))
 ·have hi:i<vs.length:=by
   unfold start at h2;by_cases hi:i<vs.length
   ·exact hi
   rw[getElem?_append_right (by simpa using hi)] at h2;rw[List.getElem?_replicate] at h2;split at h2 <;> cases h2
  have ha:vs[i]?=some v:=by
   unfold start at h2;rw[List.getElem?_append_left (by simpa using hi),getElem?_map] at h2;cases e:vs[i]? with
   | none=>rw[e] at h2;cases h2
   | some a=>rw[e] at h2;cases h2;rfl
  obtain⟨u,hu,rv⟩:=r.get ha;have hp:ps[i]?=some y:=by
   rw[<- S.pre,List.getElem?_take_of_lt ω];exact h1
  have ndP:ps.Nodup:=by rw[<- S.pre];exact S.nd.sublist (take_sublist _ _)
  refine⟨u,rv,?_⟩;rcases S.par y (mem_of_getElem? hp) with k|k
  ·exact .inl ⟨k,yS ndP hp hu k⟩
  obtain⟨c,e⟩:=Dv (n:=s.heap.objs.size+1) k;refine .inr ⟨.inl k,c,e,?_⟩;have q:=x.cell y c e;rw[yV ndP hp hu (by show scope.names.lookup y≠_;rw[k];decide)] at q;exact q
 ·exact e0.hok.fresh (le_of_lt (x.above y c (PySem.mem_of_lookup h)))
 unfold start;show _=N.length;rw[length_append,length_map,List.length_replicate];omega
theorem Zw {CX:CXT}{P:Program}{w:World}{K:PySem.W.Frag}{mg:Str->Option Value}{base:Heap}{k:Nat}{f:Addr}{name qual:Str}{params:Arguments}{body:List Stmt}{scope:Scope}{dV kV doc pm cdv ct oc:Value}{an od:Option Addr}
  {osl:Array (Option Value)} {N ps:List Str} {sp:Sp} (lk:K.lookup f=some ⟨oc,od,.func (fnOf name qual params body scope dV kV doc pm an cdv ct),osl⟩) (hcd:codeIn K cdv qual=true) (S:bB N ps scope)
  (len:∀vs H Q E,sp vs H Q E->vs.length=ps.length)
  (hbody:∀(A:Around)(outer:List Env)(s:Shared)(H:Hp)(vs:List V)(Q:VK)(E:XK),gW k (A.deeper (envOfC qual scope s.heap.objs.size f cdv))->sp vs H Q E ->
   ∃t,PSs (Gu CX P w K mg base N qual scope f cdv A outer s H E) body t/\t { nx:=fun _ H'=>Q .non H',rt:=Q } (start N vs) H) :
  dF P w K mg base CX (k+1) f (fnOf name qual params body scope dV kV doc pm an cdv ct) ps sp:=by
 refine⟨len,fun A outer s H args us vs Q E hr e0 hb r hsp=>?_⟩;have hl:=len _ _ _ _ hsp;have KX:K.In s.heap:=e0.mod.kin.keeps fun b o e=>(e0.bs b o e).1;have lim:s.heap.NoLimit:=e0.mod.nolimit.keeps fun b o e=>(e0.bs b o e).1;have hkind:∀y∈ps.zip us,scope.names.lookup y.1=some .local\/(scope.names.lookup y.1=some .cell/\((cellsFrom (s.heap.objs.size+1) scope.names []).lookup y.1).isSome=true):=fun⟨n,v⟩ hy=>by
  rcases S.par n (of_mem_zip hy).1 with q|q
  ·exact .inl q
  exact .inr ⟨q,PySem.W.cellsFrom_some _ _ _ (.inl q)⟩
 refine codeAny_call_function hr.depth (KX _ _ lk) rfl S.co S.gen rfl (PySem.W.codeRec_of KX hcd) (hb _ _ _ _ ?_);refine wpAny_newFunctionEnv_cells S.kind hkind fun env he s1 x=>?_;subst he;refine⟨lim.keeps x.toInCall.keep,codeAny_func ?_⟩;obtain⟨t,ht,hq⟩:=hbody A outer s H vs Q E (hr.deeper _) hsp;have I:Inv (Gu CX P w K mg base N qual scope f cdv A outer s H E) [] (start N vs) H s1:=J6 S hr.hd e0 hl r x;refine wpAny_mono (ht [] s1 (start N vs) H _ I hq) (fun fl s' hs=>?_) fun e s' hs=>hs;have fin:∀{σ':St}{H':Hp}{v:V}{u:Value},Inv (Gu CX P w K mg base N qual scope f cdv A outer s H E) [] σ' H' s'->RelV v u->Q v H'->CE outer P w H s Q u s':=
  fun {σ' H' v u} J rv q=>⟨v,H',J.os,J.bare,J.base,J.hok,rv,q⟩
 cases fl with
 | ret u=>
  obtain⟨v,σ',H',J,rv,q⟩:=hs;exact fin J rv q
 | next=>
  obtain⟨σ',H',J,q⟩:=hs;exact fin (v:=V.non) (u:=Value.none) J rfl q
 | brk=>
  obtain⟨_,_,_,q⟩:=hs;exact False.elim q
 | cont=>
  obtain⟨_,_,_,q⟩:=hs;exact False.elim q
section
variable {X:Cx}{x:Str}{p pos:Pos}{e:Expr}{es:List Expr}{t:TA}{id T:String}{r:List V->Hp->VK->Prop}
noncomputable def tCB (r:List V->Hp->VK->Prop)(t:TA):TE:=fun σ H Q=>t σ H fun vs H1=>r vs H1 Q
theorem Oh (hc:cV X (.builtin id) r) (hg:Gl X x) (hm:X.mg x=none) (hv:bootBuiltins x=some (.builtin id)) (ha:PA X (e::es) t) (hn:x ≠ "__name__" := by decide) (hdb:(x == ("__debug__" : Str))=false:=by decide)
  (he:starEach (e::es) X.env=(false,eval e X.env)::starEach es X.env:=by rfl) (hpl:(backTo pos (starEach es X.env)).any (·.1)=false:=by rfl):PE X (.Call (.Name x p) (e::es) [] pos) (tCB r t):=by
 intro pins s σ H Q I h;refine wpAny_Call_Name_kw (iH I hg hm hv ?_ hn hdb);exact PyProof.Rows.callWith_builtin1 (thA (ha pos pins s σ H _ I h) fun us s1 vs H1 I1 r1 q1=>hc pins s1 σ H1 vs us Q I1 r1 q1) he hpl
theorem JG (hc:cV X (.type T) r) (hg:Gl X x) (hm:X.mg x=none) (hv:bootBuiltins x=some (.type T)) (ha:PA X (e::es) t) (hn:x ≠ "__name__" := by decide) (hdb:(x == ("__debug__" : Str))=false:=by decide)
  (he:starEach (e::es) X.env=(false,eval e X.env)::starEach es X.env:=by rfl) (hpl:(backTo pos (starEach es X.env)).any (·.1)=false:=by rfl):PE X (.Call (.Name x p) (e::es) [] pos) (tCB r t):=by
 intro pins s σ H Q I h;refine wpAny_Call_Name_kw (iH I hg hm hv ?_ hn hdb);exact PyProof.Rows.callWith_type1 (thA (ha pos pins s σ H _ I h) fun us s1 vs H1 I1 r1 q1=>hc pins s1 σ H1 vs us Q I1 r1 q1) he hpl
end
end L2
namespace HT
open PySem PyProof.Rows
noncomputable def lexLt:List Int->List Int->Bool
 | [],[]=>false
 | [],_::_=>true
 | _::_,[]=>false
 | x::xs,y::ys=>if x=y then lexLt xs ys else decide (x<y)
theorem pC (x y:Int)(xs ys:List Int):lexLt (x::xs) (y::ys)=if x=y then lexLt xs ys else decide (x<y):=rfl
theorem oM:lexLt [] []=false:=rfl
theorem vy (y:Int)(ys:List Int):lexLt [] (y::ys)=true:=rfl
theorem vz (x:Int)(xs:List Int):lexLt (x::xs) []=false:=rfl
theorem QF (A:Around)(s:Shared)(a:Int)(t:Tok)(c:Int)(u:Tok):∃e,SeqAt.EqAt A s (.int a t) (.int c u) e/\(e=true↔a=c):=
 ⟨(a == c),SeqAt.EqAt.int_int a t c u,by simp⟩
theorem M5 (A:Around)(s:Shared)(a:Int)(t:Tok)(c:Int)(u:Tok)(prog:Program)(w:World)(E:Value->Shared->Prop)(Q:Value->Shared->Prop)(h:Q (.bool (decide (a<c))) s) :
  wpAny (model prog w) A (richCompare .Lt (.int a t) (.int c u)) Q E s:=
 (PyProof.Rows.lt_int h:wpAny (model prog w) A (compareOp .Lt (.int a t) (.int c u)) Q E s)
section
open PySem.SeqAt
open PySem.AutoSeq1 (wpAny_loadPart')
open PySem.MeetsSeq PySem.MeetsSeq2 PySem.MeetsSeq3
theorem wz (l b:Addr)(items items2:Array Value)(n n2:Nat)(dd dd2:Option Addr)(sl sl2:Array (Option Value))(ns ms:List Int)(hi:IntsAre items.toList ns)(hj:IntsAre items2.toList ms) :
  Meets (Builtin.«tuple.__lt__» ⟨[.ref l,.ref b],[]⟩)
   (fun _ R s=>s.heap.get? l=some { cls:=.type "tuple",dict:=dd,data:=.seq items n,slots:=sl }/\s.heap.get? b=some { cls:=.type "tuple",dict:=dd2,data:=.seq items2 n2,slots:=sl2 } /\
    R (.ok (.ret (.bool (lexLt ns ms)))) s):=
 .of_wp fun prog w A R s h=>by
  obtain⟨hp,g,d,tk,os⟩:=s;obtain⟨hl,hb,h⟩:=h;have f2:=AutoSeq1.sub_tuple_tuple;have z1:items.size=ns.length:=by rw[<- hi.length];simp
  have z2:items2.size=ms.length:=by rw[<- hj.length];simp
  wp_walk using wpAny_loadPart' hl,wpAny_loadPart' hb,wpAny_forIn_list _ (fun rest b s'=>b.1=none/\s'=⟨hp,g,d,tk,os⟩/\∃(vs ws:List Value)(ns' ms':List Int),rest=vs.zip ws /\
   IntsAre vs ns'/\IntsAre ws ms'/\ns'.length+items2.size=ms'.length+items.size/\R (.ok (.ret (.bool (lexLt ns' ms')))) ⟨hp,g,d,tk,os⟩) _
  case turn=>
   rintro⟨y,x⟩ rest b s' ⟨hb',rfl,vs,ws,ns',ms',hz,hvi,hwi,hlen,hR⟩;cases hvi with
   | nil=>rw[List.zip_nil_left] at hz;cases hz
   | cons a t hvi'=>
    cases hwi with
    | nil=>rw[List.zip_nil_right] at hz;cases hz
    | cons c u hwi'=>
     rw[List.zip_cons_cons] at hz;injection hz with hyx hrest;injection hyx with hy hx;subst hy hx;rw[pC] at hR;simp only[length_cons] at hlen;obtain⟨e,he,hiff⟩:=QF A.in1 ⟨hp,g,d,tk,os⟩ a t c u;refine wpAny_bind (he prog w _ _ ?_);cases e with
     | true=>
      rw[if_pos (hiff.mp rfl)] at hR
      wp_walk
      exact⟨rfl,rfl,_,_,_,_,hrest,hvi',hwi',ω,hR⟩
     | false=>
      rw[if_neg (fun q=>absurd (hiff.mpr q) Bool.false_ne_true)] at hR;have hri:=M5 A.in1 ⟨hp,g,d,tk,os⟩ a t c u prog w
      wp_walk using hri
      exact⟨_,rfl,by simpa using hR⟩
  case fin=>
   rintro⟨b1,b2⟩ s' ⟨hb',rfl,vs,ws,ns',ms',hz,hvi,hwi,hlen,hR⟩;simp only at hb';subst hb';have hv:lexLt ns' ms'=decide (items.size<items2.size):=by
    cases hvi with
    | nil=>
     cases hwi with
     | nil=>
      simp only[length_nil] at hlen;rw[oM];exact(decide_eq_false ω).symm
     | cons c u hw=>
      simp only[length_nil,length_cons] at hlen;rw[vy];exact(decide_eq_true ω).symm
    | cons a t hv=>
     cases hwi with
     | nil=>
      simp only[length_nil,length_cons] at hlen;rw[vz];exact(decide_eq_false ω).symm
     | cons c u hw=>
      rw[List.zip_cons_cons] at hz;cases hz
   rw[hv] at hR
   wp_walk
   exact⟨_,rfl,by simpa [Builtin.Tuple.tupleCompareSizes] using hR⟩
  case h=>
   exact⟨rfl,rfl,items.toList,items2.toList,ns,ms,rfl,hi,hj,ω,h⟩
end
section
variable {prog:Program}{w:World}{A:Around}{E:Value->Shared->Prop}{s:Shared}
theorem VD {t b:Addr}{vs ws:List Value}{Q:Value->Shared->Prop}(ht:IsTup s.heap t vs.toArray)(hb:IsTup s.heap b ws.toArray)(hv:vs≠[])
  (h1:ws=[]->Q (.ref t) s) (h2:ws≠[]->Q (.ref s.heap.objs.size) { s with heap:=s.heap.push { cls:=.type "tuple",data:=.seq (vs++ws).toArray } })
  (hsz:vs.length+ws.length<=sizeLine):wpAny (model prog w) A (binaryOp .Add (.ref t) (.ref b)) Q E s:=by
 obtain⟨⟨cls,dd,data,sl⟩,ho,hc,n,hd⟩:=id ht;obtain⟨⟨cls2,dd2,data2,sl2⟩,ho2,hc2,n2,hd2⟩:=id hb;simp only at hc hd hc2 hd2;subst hc hd hc2 hd2;have e:vs.toArray++ws.toArray=(vs++ws).toArray:=by simp
 by_cases hw:ws=[]
 ·exact concat_meets ⟨_,ho,rfl⟩ ⟨_,ho2,rfl⟩ noFill_tuple_add seq_tuple_add PySem.F.slot_tuple_add PySem.F.entry_tuple_add (PySem.F.args_tuple_add_2 _ _)
   (tuple_addW1 t b vs.toArray ws.toArray n n2 dd dd2 sl sl2 (by simpa using hv) (by simp [hw])) ⟨ho,ho2,h1 hw⟩
 refine concat_meets ⟨_,ho,rfl⟩ ⟨_,ho2,rfl⟩ noFill_tuple_add seq_tuple_add PySem.F.slot_tuple_add PySem.F.entry_tuple_add (PySem.F.args_tuple_add_2 _ _)
  (tuple_addW2 t b vs.toArray ws.toArray n n2 dd dd2 sl sl2 (by simpa using hv) (by simpa using hw) (by rw[size_toArray,size_toArray];exact hsz)) ⟨ho,ho2,?_⟩
 rw[e];exact h2 hw
noncomputable def sIx (n d:Nat):Option Int->Nat
 | none=>d
 | some v=>if v<0 then (v+(n:Int)).toNat else min v.toNat n
theorem WK (n d:Nat)(hd:d<=n)(o:Option Int):sIx n d o<=n:=by
 cases o with
 | none=>exact hd
 | some v=>
  show(if v<0 then (v+(n:Int)).toNat else min v.toNat n)<=n;by_cases hv:v<0
  ·rw[if_pos hv];omega
  rw[if_neg hv];exact Nat.min_le_right _ _
theorem IK (v:Int)(n d:Nat):(if v<0 then max (v+(n:Int)) 0 else min v (n:Int))=((sIx n d (some v):Nat):Int):=by
 show(if v<0 then max (v+(n:Int)) 0 else min v (n:Int))=(((if v<0 then (v+(n:Int)).toNat else min v.toNat n):Nat):Int);by_cases hv:v<0
 ·simp only[if_pos hv];omega
 simp only[if_neg hv];omega
theorem GK (lo hi:Option Int)(n:Nat):Builtin.Slice.sliceAdjust lo hi 1 (n:Int)=(((sIx n 0 lo:Nat):Int),((sIx n n hi:Nat):Int)):=by
 have h1:¬((1:Int)<0):=ω;unfold Builtin.Slice.sliceAdjust;simp only[h1,if_false];refine Prod.ext ?_ ?_
 ·cases lo with
  | none=>rfl
  | some v=>exact IK v n 0
 cases hi with
 | none=>rfl
 | some v=>exact IK v n n
theorem Fd (i j:Nat):Builtin.Slice.slicePlaces (i:Int) (j:Int) 1=j-i:=by
 unfold Builtin.Slice.slicePlaces;have h1:(1:Int)>0:=ω;simp only[h1,if_true,Int.ediv_one];split <;> omega
theorem ux {v:Value}{o:Option Int}{Q:Option Int->Shared->Prop}(p:IsPart v o)(h:Q o s):wpAny (model prog w) A (Builtin.Slice.slicePartIndex v) Q E s:=by
 cases p with
 | none=>exact slicePart_none h
 | int i t=>exact slicePart_int h
theorem qO {sl:Addr}{vl vu:Value}{lo hi:Option Int}{n:Nat}{Q:Int×Int×Nat->Shared->Prop}(hs:s.heap.IsSliceOf sl vl vu .none)(pl:IsPart vl lo)(pu:IsPart vu hi)
  (h:Q (((sIx n 0 lo:Nat):Int),1,sIx n n hi-sIx n 0 lo) s):wpAny (model prog w) A (Builtin.Slice.sliceApplied (.ref sl) (pure (n:Int))) Q E s:=by
 obtain⟨os,hos,hcs,hds⟩:=id hs;unfold Builtin.Slice.sliceApplied Builtin.Slice.sliceFields;refine wpAny_bind (wpAny_bind (wpAny_field hos hds (x:=vl) rfl (wpAny_bind (wpAny_field hos hds (x:=vu) rfl (wpAny_bind (wpAny_field hos hds (x:=.none) rfl (wpAny_pure ?_)))))));refine wpAny_bind (slicePart_none ?_);show wpAny _ _ (if ((1:Int) == 0)=true then _ else _) _ _ s;rw[if_neg δ];refine wpAny_bind (ux pl (wpAny_bind (ux pu (wpAny_bind (wpAny_pure ?_)))));show wpAny _ _ (match Builtin.Slice.sliceAdjust lo hi 1 (n:Int) with|(lo,hi)=>pure (lo,(1:Int),Builtin.Slice.slicePlaces lo hi 1)) _ _ s
 rw[GK lo hi n];show wpAny _ _ (pure (((sIx n 0 lo:Nat):Int),(1:Int),Builtin.Slice.slicePlaces ((sIx n 0 lo:Nat):Int) ((sIx n n hi:Nat):Int) 1)) _ _ s;rw[Fd];exact wpAny_pure h
theorem N6 (xs:Array Value)(i k:Nat):((List.range k).filterMap fun(m:Nat)=>xs[((i:Int)+(m:Int)*1).toNat]?).toArray=((xs.toList.drop i).take k).toArray:=by
 have e:(fun(m:Nat)=>xs[((i:Int)+(m:Int)*1).toNat]?)=fun m=>xs[i+m]?:=by
  funext m;have:((i:Int)+(m:Int)*1).toNat=i+m:=by omega
  rw[this]
 rw[e];have:=pick_run xs i k;rw[filterMap_map] at this;have e2:((fun x=>xs[x]?)∘fun x=>i+x)=fun m=>xs[i+m]?:=rfl;rw[e2] at this;rw[this]
theorem ql {t sl:Addr}{items:Array Value}{vl vu:Value}{lo hi:Option Int}{Q:Value->Shared->Prop}(ht:IsTup s.heap t items)(hs:s.heap.IsSliceOf sl vl vu .none)(pl:IsPart vl lo)(pu:IsPart vu hi)
  (hw:¬(sIx items.size 0 lo=0/\sIx items.size items.size hi=items.size))
  (h:Q (.ref s.heap.objs.size) { s with heap:=s.heap.push { cls:=.type "tuple",data:=.seq ((items.toList.drop (sIx items.size 0 lo)).take (sIx items.size items.size hi-sIx items.size 0 lo)).toArray } })
  (hsz:items.size<=sizeLine):wpAny (model prog w) A (getItem (.ref t) (.ref sl)) Q E s:=by
 have htake:sizeOk (.seq ((items.toList.drop (sIx items.size 0 lo)).take (sIx items.size items.size hi-sIx items.size 0 lo)).toArray):=by
  show((items.toList.drop (sIx items.size 0 lo)).take (sIx items.size items.size hi-sIx items.size 0 lo)).toArray.size<=sizeLine;rw[size_toArray,length_take,length_drop,length_toList];omega
 have hj:sIx items.size items.size hi<=items.size:=WK _ _ (le_refl _) hi;obtain⟨os,hos,hcs,hds⟩:=id hs;have hTs:s.TypeIs (.ref sl) "slice" := ⟨os,hos,hcs⟩;unfold getItem
 try with_reducible refine wpAny_holding ?_
 first|refine wpAny_bind (wpAny_pure ?_)|skip
 refine wpAny_bind (wpAny_sequenceKey ht.typeIs δ ?_);refine wpAny_bind (wpAny_callSpecial?_slot (name:=Str.ofString "__getitem__") ht.typeIs PyProof.Rows.slot_tuple_getitem
  (wpAny_call_entry PyProof.Rows.slot_tuple_getitem ht.typeIs entry_tuple_getitem ?_ (args_tuple_getitem _ _)))
 show wpAny _ _ (Builtin.Tuple.tupleItemsOf (.ref t) >>= _) _ _ s;refine wpAny_bind (tupleItemsOf_ ht ?_);refine wpAny_bind (wpAny_typeOf hTs ?_);rw[if_pos δ];refine wpAny_bind (qO hs pl pu ?_);have hno:¬((((sIx items.size 0 lo:Nat):Int) == 0&&(1:Int) == 1&&(sIx items.size items.size hi-sIx items.size 0 lo) == items.size)=true):=by
  intro q;rw[and_eq_true,and_eq_true] at q;have q1:((sIx items.size 0 lo:Nat):Int)=0:=eq_of_beq q.1.1;have q2:sIx items.size items.size hi-sIx items.size 0 lo=items.size:=eq_of_beq q.2;exact hw ⟨ω,ω⟩
 show wpAny _ _ (if (((sIx items.size 0 lo:Nat):Int) == 0&&(1:Int) == 1&&(sIx items.size items.size hi-sIx items.size 0 lo) == items.size)=true then _ else _) _ _ s;rw[if_neg hno,N6]
 first
  | exact wpAny_bind (m:=Builtin.Tuple.tupleExact _) (wpAny_newObj_type (wpAny_pure ⟨_,rfl,wpAny_pure h⟩) htake)
  | exact wpAny_bind (m:=Builtin.Tuple.tupleExact _) (wpAny_newObj_type (wpAny_bind (wpAny_pure (wpAny_pure ⟨_,rfl,wpAny_pure h⟩))) htake)
  | exact wpAny_bind (wpAny_bind (m:=Builtin.Tuple.tupleExact _) (wpAny_newObj_type (wpAny_pure (wpAny_pure ⟨_,rfl,wpAny_pure h⟩)) htake))
  | exact wpAny_bind (wpAny_bind (m:=Builtin.Tuple.tupleExact _) (wpAny_newObj_type (wpAny_pure ⟨_,rfl,wpAny_pure h⟩) htake))
end
end HT
namespace L2
open PySem PySem.Spec PyProof.Rows
noncomputable abbrev TO:=St->Hp->(Option Int->Hp->Prop)->Prop
noncomputable def PO (X:Cx)(e:Option Expr)(t:TO):Prop:=
 ∀(pins:List (Addr×Obj)) (s:Shared) (σ:St) (H:Hp) (Q:Option Int->Hp->Prop),Inv X pins σ H s->t σ H Q ->
  wpAny (model X.prog X.w) X.A (evalPart e X.env) (fun u s'=>∃o H',Inv X pins σ H' s'/\IsPart u o/\Q o H') X.xe s
noncomputable def zc:TO:=fun _ H Q=>Q none H
noncomputable def Lq (t:TE):TO:=fun σ H Q=>t σ H fun x H1=>∃i,x=.int i/\Q (some i) H1
section
variable {X:Cx}{e:Expr}{te:TE}{lo hi:Option Expr}{tl th:TO}{pos p2:Pos}
theorem Tv:PO X none zc:=by
 intro pins s σ H Q I h;rw[evalPart_none];exact wpAny_pure ⟨none,H,I,.none,h⟩
theorem Tt (h:PE X e te):PO X (some e) (Lq te):=by
 intro pins s σ H Q I hw;rw[evalPart_some];refine thE (h pins s σ H _ I hw) fun u s1 x H1 I1 r1 q1=>?_;obtain⟨i,rfl,q⟩:=q1;obtain⟨t,rfl⟩:=r1;exact⟨some i,H1,I1,.int i t,q⟩
noncomputable def SlR (X:Cx)(r:V->Option Int->Option Int->Hp->VK->Prop):Prop:=
 ∀(pins:List (Addr×Obj)) (s:Shared) (σ:St) (H:Hp) (x:V) (v vl vu:Value) (lo hi:Option Int) (sl:Addr) (Q:VK),Inv X pins σ H s->RelV x v->s.heap.IsSliceOf sl vl vu .none->IsPart vl lo->IsPart vu hi->r x lo hi H Q ->
  ∃T id,typeLookup (.type T) "__getitem__" = pure (some (.builtin id))/\s.TypeIs v T/\wpAny (model X.prog X.w) X.A (getItem v (.ref sl)) (EP X pins σ Q) X.xe s
noncomputable def tSl (r:V->Option Int->Option Int->Hp->VK->Prop)(te:TE)(tl th:TO):TE:=fun σ H Q=>te σ H fun x H1=>tl σ H1 fun l H2=>th σ H2 fun u H3=>r x l u H3 Q
theorem Od {r:V->Option Int->Option Int->Hp->VK->Prop}(hr:SlR X r)(he:PE X e te)(hl:PO X lo tl)(hu:PO X hi th):PE X (.Subscript e (.Slice lo hi none p2) pos) (tSl r te tl th):=by
 intro pins s σ H Q I h;refine Subscript_ (thE (he pins s σ H _ I h) fun v s1 x H1 I1 r1 q1=>?_);refine wpAny_Slice (thn (hl pins s1 σ H1 _ I1 q1) fun vl s2 ⟨l,H2,I2,pl,q2⟩=>thn (hu pins s2 σ H2 _ I2 q2) fun vu s3 ⟨u,H3,I3,pu,q3⟩=>?_);rw[evalPart_none];refine wpAny_pure ?_;have I4:Inv X pins σ H3 { s3 with heap:=s3.heap.push { cls:=.type "slice",data:=.fields #[vl,vu,.none] } }:=I3.kept (t':=s3.toks) fun b ob q=>get?_push_of_some _ q;obtain⟨T,id,hT,ht,hg⟩:=hr pins { s3 with heap:=s3.heap.push { cls:=.type "slice",data:=.fields #[vl,vu,.none] } } σ H3 x v vl vu l u s3.heap.objs.size Q I4 r1 (Heap.IsSliceOf.new ..) pl pu q3;show wpAny (model X.prog X.w) X.A (subscriptTail e (.Slice lo hi none p2) v (.ref s3.heap.objs.size)) (EP X pins σ Q) X.xe { s3 with heap:=s3.heap.push { cls:=.type "slice",data:=.fields #[vl,vu,.none] } };exact tail_any (ops:=[.ref s3.heap.objs.size,v]) ht hT hg (by with_unfolding_all rfl)
noncomputable def tK (xs:List V)(lo hi:Option Int):List V:=(xs.drop (HT.sIx xs.length 0 lo)).take (HT.sIx xs.length xs.length hi-HT.sIx xs.length 0 lo)
theorem sJ (xs:List V)(lo hi:Option Int):(tK xs lo hi).length<=xs.length:=by
 unfold tK;rw[length_take,length_drop];omega
noncomputable def ZM (K:PySem.W.Frag):V->Option Int->Option Int->Hp->VK->Prop:=fun x lo hi H Q=>∃a xs,x=.ref a/\SqT K H a xs /\
 ¬(HT.sIx xs.length 0 lo=0/\HT.sIx xs.length xs.length hi=xs.length)/\∀p,H p=none->Q (.ref p) (upd H p (.tup (tK xs lo hi)))
theorem Wz:SlR X (ZM X.K):=by
 intro pins s σ H x v vl vu lo hi sl Q I rx hs pl pu h;obtain⟨a,xs,rfl,hx,hw,q⟩:=h;cases rx;obtain⟨its,r,ht,hz⟩:=I.tuple hx;have hlen:its.toArray.size=xs.length:=by rw[size_toArray];exact r.length.symm
 refine⟨"tuple",_,PyProof.Rows.slot_tuple_getitem.lookup,ht.typeIs,?_⟩;refine HT.ql ht hs pl pu (by rw[hlen];exact hw) ?_ (by rw[hlen];exact hz);rw[hlen];refine⟨.ref s.heap.objs.size,_,I.laid (t':=s.toks) (o:=.tup (tK xs lo hi)) (fun b ob q=>get?_push_of_some _ q) (le_refl _) ?_,rfl,q _ (I.hok.fresh (le_refl _))⟩;exact⟨le_trans (sJ xs lo hi) hz,_,(r.drop (HT.sIx xs.length 0 lo)).take (HT.sIx xs.length xs.length hi-HT.sIx xs.length 0 lo),IsTup.new _ _⟩
noncomputable def Y0 (K:PySem.W.Frag):R2:=fun x y H Q=>∃a b xs ys,x=.ref a/\y=.ref b/\SqT K H a xs/\SqT K H b ys/\xs≠[]/\xs.length+ys.length<=sizeLine /\
 (ys=[]->Q (.ref a) H)/\(ys≠[]->∀p,H p=none->Q (.ref p) (upd H p (.tup (xs++ys))))
theorem Vals.zY {xs:List V}{us:List Value}(r:Vals xs us):us=[]↔xs=[]:=by
 cases r with
 | nil=>simp
 | cons _ _=>simp
theorem Ub:OpR X (binaryOp .Add) (Y0 X.K):=by
 intro pins s σ H x y v u Q I rx ry h;obtain⟨a,b,xs,ys,rfl,rfl,ha,hb,hx,hz,q1,q2⟩:=h;cases rx;cases ry;obtain⟨its,r1,p1,_⟩:=I.tuple ha;obtain⟨its2,r2,p2,_⟩:=I.tuple hb;refine HT.VD p1 p2 (fun z=>hx (r1.zY.mp z)) (fun z=>⟨.ref a,H,I,rfl,q1 (r2.zY.mp z)⟩) (fun z=>?_) (by rw[<- r1.length,<- r2.length];exact hz);refine⟨.ref s.heap.objs.size,_,I.laid (t':=s.toks) (o:=.tup (xs++ys)) (fun b ob q=>get?_push_of_some _ q) (le_refl _) ?_,rfl,q2 (fun w=>z (r2.zY.mpr w)) _ (I.hok.fresh (le_refl _))⟩;exact⟨by rw[length_append];exact hz,_,r1.append r2,IsTup.new _ _⟩
end
noncomputable def ixN (n:Nat)(i:Int):Option Nat:=if 0<=i then (if i<n then some i.toNat else none) else if -(n:Int)<=i then some (i+n).toNat else none
noncomputable def atI {α:Type}(xs:List α)(i:Int):Option α:=(ixN xs.length i).bind fun j=>xs[j]?
theorem Ig {n:Nat}{i:Int}{j:Nat}(h:ixN n i=some j):seqIndex? i n=some j/\j<n/\-(n:Int)<=i/\i<n:=by
 unfold ixN at h;by_cases h0:0<=i
 ·rw[if_pos h0] at h;by_cases h1:i<n
  ·rw[if_pos h1] at h;have e:i.toNat=j:=Option.some.inj h;exact⟨by rw[seqIndex_of h0 h1,e],ω,ω,h1⟩
  rw[if_neg h1] at h;cases h
 rw[if_neg h0] at h;by_cases h1:-(n:Int)<=i
 ·rw[if_pos h1] at h;have e:(i+n).toNat=j:=Option.some.inj h;exact⟨by rw[seqIndex_neg ω h1,e],ω,h1,ω⟩
 rw[if_neg h1] at h;cases h
theorem Jc {α:Type}{xs:List α}{i:Int}{v:α}(h:atI xs i=some v):∃j,seqIndex? i xs.length=some j/\xs[j]?=some v/\j<xs.length/\-(xs.length:Int)<=i/\i<xs.length:=by
 unfold atI at h;cases e:ixN xs.length i with
 | none=>rw[e] at h;cases h
 | some j=>
  rw[e] at h;obtain⟨h1,h2,h3,h4⟩:=Ig e;exact⟨j,h1,h,h2,h3,h4⟩
theorem bM {α:Type}{xs:List α}{j:Nat}{v:α}(h:xs[j]?=some v):atI xs (j:Int)=some v:=by
 have hj:j<xs.length:=(List.getElem?_eq_some_iff.mp h).1;have e:ixN xs.length (j:Int)=some j:=by
  unfold ixN;rw[if_pos ω,if_pos ω];simp
 unfold atI;rw[e];exact h
noncomputable def Jd (b:Expr):Prop:=∀o i,subscripted b false o i=operate [o,i] (getItem o i)
noncomputable def IxR (X:Cx)(r:R2):Prop:=
 ∀(value slice:Expr)(pins:List (Addr×Obj)) (s:Shared) (σ:St) (H:Hp) (x y:V) (v u:Value) (Q:VK),Inv X pins σ H s->RelV x v->RelV y u->r x y H Q ->
  subscripted slice false v u=operate [v,u] (getItem v u)->wpAny (model X.prog X.w) X.A (subscriptTail value slice v u) (EP X pins σ Q) X.xe s
section
variable {X:Cx}{a b:Expr}{ta tb:TE}{pos:Pos}
theorem Za {r:R2}(hr:IxR X r)(ha:PE X a ta)(hb:PE X b tb)(hs:Jd b):PE X (.Subscript a b pos) (tOp r ta tb):=by
 intro pins s σ H Q I h;exact Subscript_ (Yz ha hb I h fun v u s2 x y H2 I2 rx ry q=>hr a b pins s2 σ H2 x y v u Q I2 rx ry q (hs _ _))
noncomputable def YX (K:PySem.W.Frag):R2:=fun x y H Q=>∃p xs i v,x=.ref p/\y=.int i/\SqL K H p xs/\atI xs i=some v/\Q v H
noncomputable def ZS (K:PySem.W.Frag):R2:=fun x y H Q=>∃p xs i v,x=.ref p/\y=.int i/\SqT K H p xs/\atI xs i=some v/\Q v H
theorem Ie:IxR X (YX X.K):=by
 intro value slice pins s σ H x y v u Q I rx ry h hs;obtain⟨p,xs,i,z,rfl,rfl,hq,he,q⟩:=h;cases rx;obtain⟨t,rfl⟩:=ry;obtain⟨its,r,pl,hz⟩:=I.list hq;obtain⟨j,h1,h2,h3,h4,h5⟩:=Jc he;obtain⟨w,ew,rw'⟩:=r.get h2;have hl:=r.length;have hn:=vq;have fin:EP X pins σ Q w s:=⟨z,H,I,rw',q⟩;by_cases h0:0<=i
 ·have hj:i.toNat=j:=by
   rw[seqIndex_of h0 h5] at h1;exact Option.some.inj h1
  exact item_listR pl.isList h0 ω (by rw[hj];simpa using ew) fin hs
 have hj:(i+(its.toArray.size:Int)).toNat=j:=by
  rw[seqIndex_neg ω h4] at h1;rw[size_toArray,<- hl];exact Option.some.inj h1
 exact subscriptTail_builtinR (x:=w) pl.isList.typeIs slot_list_getitem.lookup
  (wpAny_getItem_list_neg (Q:=fun r s'=>r=w/\EP X pins σ Q r s') pl.isList ω (by rw[size_toArray] <;> omega) ω (by rw[hj];simpa using ew) ⟨rfl,fin⟩) hs
theorem Yi:IxR X (ZS X.K):=by
 intro value slice pins s σ H x y v u Q I rx ry h hs;obtain⟨p,xs,i,z,rfl,rfl,hq,he,q⟩:=h;cases rx;obtain⟨t,rfl⟩:=ry;obtain⟨its,r,pl,hz⟩:=I.tuple hq;obtain⟨j,h1,h2,h3,h4,h5⟩:=Jc he;obtain⟨w,ew,rw'⟩:=r.get h2;have hl:=r.length;have hn:=vq;have fin:EP X pins σ Q w s:=⟨z,H,I,rw',q⟩;exact subscriptTail_builtinR (x:=w) pl.typeIs slot_tuple_getitem.lookup
  (getItem_tuple (j:=j) (Q:=fun r s'=>r=w/\EP X pins σ Q r s') pl ω ω (by rw[size_toArray,<- hl];exact h1) (by simpa using ew) ⟨rfl,fin⟩) hs
theorem FQ (its:List Value) (n j:Nat) (u:Value):Obj.mapSeq (·.setIfInBounds j u) { cls:=.type "list",data:=.seq its.toArray n }={ cls:=.type "list",data:=.seq (its.set j u).toArray n }:=by
 simp [Obj.mapSeq]
theorem Inv.lst {pins:List (Addr×Obj)}{σ:St}{H:Hp}{s:Shared}{p:Addr}{xs:List V}(I:Inv X pins σ H s)(h:H p=some (.lst xs)) :
  ∃(its:List Value)(n:Nat),Vals xs its/\s.heap.get? p=some { cls:=.type "list",data:=.seq its.toArray n }/\xs.length<=sizeLine:=by
 obtain⟨z,its,n,r,e⟩:=I.hok p _ h;exact⟨its,n,r,e,z⟩
theorem Inv.X3 {pins:List (Addr×Obj)}{σ:St}{H:Hp}{s:Shared}{p:Addr}{xs ys:List V}{its its':List Value}{n n':Nat}{f:Obj->Obj}(I:Inv X pins σ H s)(h:H p=some (.lst xs))
  (ho:s.heap.get? p=some { cls:=.type "list",data:=.seq its.toArray n }) (hf:f { cls:=.type "list",data:=.seq its.toArray n }={ cls:=.type "list",data:=.seq its'.toArray n' }) (r:Vals ys its') (hz:ys.length<=sizeLine) (t:Nat) :
  Inv X pins σ (upd H p (.lst ys)) { s with heap:=s.heap.update p f,toks:=t }:=by
 have e:(s.heap.update p f).get? p=some { cls:=.type "list",data:=.seq its'.toArray n' }:=by
  rw[get?_update_self f ho (by rw[hf] <;> rfl),hf]
 refine I.write (x:=p) (e:=p) (by rw[h];trivial) (.inl rfl) (fun b u hb q=>(get?_update_other _ _ (Ne.symm hb)).trans q) ⟨_,e⟩ ?_;exact⟨hz,its',n',r,e⟩
noncomputable def YW:V->V->V->Hp->(Hp->Prop)->Prop:=fun o i v H Q=>∃p xs k j,o=.ref p/\i=.int k/\H p=some (.lst xs)/\ixN xs.length k=some j/\Q (upd H p (.lst (xs.set j v)))
theorem set_list:KZ X YW:=by
 intro pins s σ H o i v ov iv u Q I ro ri rv h;obtain⟨p,xs,k,j,rfl,rfl,hp,hj,q⟩:=h;cases ro;obtain⟨t,rfl⟩:=ri;obtain⟨its,n,r,ho,hz⟩:=I.lst hp;obtain⟨h1,h2,h3,h4⟩:=Ig hj;have hl:=r.length;have hn:=vq;have I':Inv X pins σ (upd H p (.lst (xs.set j v))) { s with heap:=s.heap.update p (Obj.mapSeq (·.setIfInBounds j u)) }:=
  I.X3 hp ho (FQ its n j u) (r.set rv j) (by rw[length_set];exact hz) s.toks
 by_cases h0:0<=k
 ·have hk:k.toNat=j:=by
   rw[seqIndex_of h0 h4] at h1;exact Option.some.inj h1
  exact PySem.W.ki_setAt ho h0 ω (by rw[size_toArray,<- hl];exact h4) (by rw[hk];exact⟨_,I',q⟩)
 have hk:(k+(its.toArray.size:Int)).toNat=j:=by
  rw[seqIndex_neg ω h3] at h1;rw[size_toArray,<- hl];exact Option.some.inj h1
 exact PySem.W.ki_setBack ho ω (by rw[size_toArray,<- hl];exact h3) ω (by rw[hk];exact⟨_,I',q⟩)
theorem zm (lo hi:Option Int)(n:Nat):(sliceBounds lo hi none n).1=((HT.sIx n 0 lo:Nat):Int)/\(sliceBounds lo hi none n).2.1=((HT.sIx n n hi:Nat):Int)/\(sliceBounds lo hi none n).2.2=1:=by
 refine⟨?_,?_,rfl⟩
 ·cases lo with
  | none=>simp [sliceBounds,HT.sIx]
  | some i=>
   simp only[sliceBounds,HT.sIx,getD_none,show(1:Int)>0 by decide,if_true];by_cases h:i<0
   ·simp only[h,if_true] <;> omega
   simp only[h,if_false] <;> omega
 cases hi with
 | none=>simp [sliceBounds,HT.sIx]
 | some i=>
  simp only[sliceBounds,HT.sIx,getD_none,show(1:Int)>0 by decide,if_true];by_cases h:i<0
  ·simp only[h,if_true] <;> omega
  simp only[h,if_false] <;> omega
theorem wC (its:List Value)(lo hi:Option Int):slicePick its.toArray lo hi none=((its.drop (HT.sIx its.length 0 lo)).take (HT.sIx its.length its.length hi-HT.sIx its.length 0 lo)).toArray:=by
 obtain⟨h1,h2,h3⟩:=zm lo hi its.toArray.size;unfold slicePick;rw[h1,h2,h3];simp only[sliceRange_one,pick_run,size_toArray] <;> rfl
noncomputable def ZP (K:PySem.W.Frag):V->Option Int->Option Int->Hp->VK->Prop:=fun x lo hi H Q=>∃a xs,x=.ref a/\SqL K H a xs/\∀p,H p=none->Q (.ref p) (upd H p (.lst (tK xs lo hi)))
theorem R8:SlR X (ZP X.K):=by
 intro pins s σ H x v vl vu lo hi sl Q I rx hs pl pu h;obtain⟨a,xs,rfl,hx,q⟩:=h;cases rx;obtain⟨its,r,ht,hz⟩:=I.list hx;have hlen:=r.length;refine⟨"list",_,slot_list_getitem.lookup,ht.isList.typeIs,?_⟩;refine wpAny_getItem_list_slice ht.isList hs pl pu .none (by simp) ?_ (by rw[size_toArray] <;> omega)
 rw[wC,<- hlen];refine⟨.ref s.heap.objs.size,_,I.laid (t':=s.toks) (o:=.lst (tK xs lo hi)) (fun b ob q=>get?_push_of_some _ q) (le_refl _) ?_,rfl,q _ (I.hok.fresh (le_refl _))⟩;exact⟨le_trans (sJ xs lo hi) hz,_,0,(r.drop (HT.sIx xs.length 0 lo)).take (HT.sIx xs.length xs.length hi-HT.sIx xs.length 0 lo),get?_push_size _ rfl⟩
noncomputable def iK:V->Bool
 | .non=>true
 | .bl _=>true
 | .int _=>true
 | .str _=>true
 | _=>false
noncomputable def eqV:V->V->Bool
 | .non,.non=>true
 | .bl a,.bl b=>a == b
 | .bl a,.int b=>(if a then 1 else 0) == b
 | .int a,.bl b=>a == (if b then 1 else 0)
 | .int a,.int b=>a == b
 | .str a,.str b=>a == b
 | _,_=>false
theorem QJ {A:Around}{s:Shared}{y x:V}{u v:Value}(ry:RelV y u)(rx:RelV x v)(fy:iK y=true)(fx:iK x=true):SeqAt.EqAt A s u v (eqV y x):=by
 cases y with
 | non=>
  cases ry;cases x with
  | non=>cases rx;exact SeqAt.EqAt.same _
  | bl b=>cases rx;exact SeqAt.EqAt.none_bool b
  | int b=>obtain⟨t,rfl⟩:=rx;exact SeqAt.EqAt.none_int b t
  | str b=>obtain⟨t,rfl⟩:=rx;exact SeqAt.EqAt.none_str b t
  | _=>exact absurd (show false=true from fx) Bool.false_ne_true
 | bl a=>
  cases ry;cases x with
  | non=>cases rx;exact SeqAt.EqAt.bool_none a
  | bl b=>cases rx;exact SeqAt.EqAt.bool_bool a b
  | int b=>obtain⟨t,rfl⟩:=rx;exact SeqAt.EqAt.bool_int a b t
  | str b=>obtain⟨t,rfl⟩:=rx;exact SeqAt.EqAt.bool_str a b t
  | _=>exact absurd (show false=true from fx) Bool.false_ne_true
 | int a=>
  obtain⟨t',rfl⟩:=ry;cases x with
  | non=>cases rx;exact SeqAt.EqAt.int_none a t'
  | bl b=>cases rx;exact SeqAt.EqAt.int_bool a t' b
  | int b=>obtain⟨t,rfl⟩:=rx;exact SeqAt.EqAt.int_int a t' b t
  | str b=>obtain⟨t,rfl⟩:=rx;exact SeqAt.EqAt.int_str a t' b t
  | _=>exact absurd (show false=true from fx) Bool.false_ne_true
 | str a=>
  obtain⟨t',rfl⟩:=ry;cases x with
  | non=>cases rx;exact SeqAt.EqAt.str_none a t'
  | bl b=>cases rx;exact SeqAt.EqAt.str_bool a t' b
  | int b=>obtain⟨t,rfl⟩:=rx;exact SeqAt.EqAt.str_int a t' b t
  | str b=>obtain⟨t,rfl⟩:=rx;exact SeqAt.EqAt.str_str a t' b t
  | _=>exact absurd (show false=true from fx) Bool.false_ne_true
 | _=>exact absurd (show false=true from fy) Bool.false_ne_true
noncomputable def eqU (x:V)(u:Value):Bool:=match u with
 | .none=>eqV .non x
 | .bool b=>eqV (.bl b) x
 | .int i _=>eqV (.int i) x
 | .str z _=>eqV (.str z) x
 | _=>false
theorem QD {x y:V}{u:Value}(r:RelV y u)(f:iK y=true):eqU x u=eqV y x:=by
 cases y with
 | non=>cases r;rfl
 | bl b=>cases r;rfl
 | int i=>obtain⟨t,rfl⟩:=r;rfl
 | str z=>obtain⟨t,rfl⟩:=r;rfl
 | _=>exact absurd (show false=true from f) Bool.false_ne_true
theorem Bm {x:V}:∀{xs:List V}{us:List Value},Vals xs us->xs.all iK=true->us.any (eqU x)=xs.any fun y=>eqV y x
 | _,_,.nil,_=>rfl
 | y::xs,u::us,.cons r t,f=>by
  rw[all_cons,and_eq_true] at f;rw[any_cons,any_cons,QD r f.1,Bm t f.2]
theorem vh {A:Around}{s:Shared}{x:V}{v:Value}(rx:RelV x v)(fx:iK x=true):∀{xs:List V}{us:List Value},Vals xs us->xs.all iK=true->∀u∈us,SeqAt.EqAt A s u v (eqU x u)
 | _,_,.nil,_=>fun u hu=>by cases hu
 | y::xs,u::us,.cons r t,f=>fun u' hu=>by
  rw[all_cons,and_eq_true] at f;rcases mem_cons.mp hu with rfl|hu
  ·rw[QD r f.1];exact QJ r rx f.1 fx
  exact vh rx fx t f.2 u' hu
noncomputable def inV (x:V)(xs:List V):Bool:=xs.any fun y=>eqV y x
noncomputable def rIn (K:PySem.W.Frag)(neg:Bool):R2:=fun x y H Q=>∃p xs,y=.ref p/\(SqL K H p xs\/SqT K H p xs)/\iK x=true/\xs.all iK=true/\Q (.bl (if neg then !inV x xs else inV x xs)) H
theorem JK:OpR X (compareOp .In) (rIn X.K false):=by
 intro pins s σ H x y v u Q I rx ry h;obtain⟨p,xs,rfl,hq,fx,fs,q⟩:=h;cases ry;rcases hq with hq|hq
 ·obtain⟨its,r,pl,hz⟩:=I.list hq;refine SeqAt.in_listAt (eqU x) pl.isList (fun w hw=>vh rx fx r fs w (by simpa using hw)) ⟨.bl _,H,I,rfl,?_⟩;rw[show its.toArray.any (eqU x)=its.any (eqU x) by simp,Bm r fs];exact q
 obtain⟨its,r,pl,hz⟩:=I.tuple hq;refine SeqAt.in_tupleAt (eqU x) pl (fun w hw=>vh rx fx r fs w (by simpa using hw)) ⟨.bl _,H,I,rfl,?_⟩;rw[show its.toArray.any (eqU x)=its.any (eqU x) by simp,Bm r fs];exact q
theorem iU:cV X (.builtin "len") (fun xs H Q=>∃p ys,xs=[.ref p]/\(SqL X.K H p ys\/SqT X.K H p ys)/\Q (.int ys.length) H):=by
 intro pins s σ H xs us Q I r h;obtain⟨p,ys,rfl,hq,q⟩:=h;obtain⟨u,rfl,rx⟩:=vals1 r;cases rx;have hn:=vq;rcases hq with hq|hq
 ·obtain⟨its,r',pl,hz⟩:=I.list hq;have hlen:=r'.length;exact Calls.call_len_list pl.isList (by simp only[size_toArray] <;> omega) ⟨.int ys.length,H,I.tok _,⟨s.toks+1,by rw[size_toArray,hlen]⟩,q⟩
 obtain⟨its,r',pl,hz⟩:=I.tuple hq;have hlen:=r'.length;exact len_tuple pl (by simp only[size_toArray] <;> omega) ⟨.int ys.length,H,I.tok _,⟨s.toks+1,by rw[size_toArray,hlen]⟩,q⟩
theorem wX:cV X (.type "tuple") (fun xs H Q=>∃p ys,xs=[.ref p]/\((SqL X.K H p ys/\∀l,H l=none->Q (.ref l) (upd H l (.tup ys)))\/(SqT X.K H p ys/\Q (.ref p) H))):=by
 intro pins s σ H xs us Q I r h;obtain⟨p,ys,rfl,h⟩:=h;obtain⟨u,rfl,rx⟩:=vals1 r;cases rx;rcases h with⟨hq,q⟩|⟨hq,q⟩
 ·obtain⟨its,r',pl,hz⟩:=I.list hq;have hlen:=r'.length;refine call_tuple_list pl.isList (fun h' kp=>?_) (by simp only[size_toArray] <;> omega)
  have I1:Inv X pins σ H { s with heap:=h' }:=I.kept (t':=s.toks) kp;have I2:Inv X pins σ (upd H h'.objs.size (.tup ys)) { s with heap:=h'.push { cls:=.type "tuple",data:=.seq its.toArray } }:=
   I1.laid (t':=s.toks) (fun b o e=>get?_push_of_some _ e) (le_refl _) (show bN X.prog X.w _ _ _ (.tup ys) from⟨hz,its,r',IsTup.new _ _⟩)
  exact⟨.ref h'.objs.size,_,I2,rfl,q _ (I1.hok.fresh (le_refl _))⟩
 obtain⟨its,r',pl,hz⟩:=I.tuple hq;exact call_tuple_same pl ⟨.ref p,H,I,rfl,q⟩
noncomputable def tyV (K:PySem.W.Frag)(T:String)(x:V)(H:Hp):Prop:=match x with
 | .str _=>T = "str"
 | .int _=>T = "int"
 | .ref p=>(T = "list" /\ ∃xs,SqL K H p xs)\/(T = "tuple" /\ ∃o,K.lookup p=some o/\o.cls=.type "tuple" /\ o.dict=none) \/
   (T = "dict" /\ ((∃kvs,H p=some (.dK kvs))\/∃kvs,H p=some (.dT kvs)))\/(T = "set" /\ ∃S n,H p=some (.set S n))
 | _=>False
theorem Wn {pins:List (Addr×Obj)}{σ:St}{H:Hp}{s:Shared}{T:String}{x:V}{v:Value}(I:Inv X pins σ H s)(r:RelV x v)(ty:tyV X.K T x H) :
  s.TypeIs v T/\∀a,v=.ref a->∃ob,s.heap.get? a=some ob/\ob.dict=none:=by
 cases x with
 | str z=>
  obtain⟨t,rfl⟩:=r;cases (show T = "str" from ty);exact⟨typeIs_str s z t,fun _ e=>nomatch e⟩
 | int i=>
  obtain⟨t,rfl⟩:=r;cases (show T = "int" from ty);exact⟨typeIs_int s i t,fun _ e=>nomatch e⟩
 | ref p=>
  cases r;rcases ty with⟨rfl,xs,hq⟩|⟨rfl,o,hk,hc,hd⟩|⟨rfl,hk⟩|⟨rfl,S,n,hk⟩
  ·obtain⟨its,_,pl,_⟩:=I.list hq;refine⟨pl.isList.typeIs,fun a e=>?_⟩;cases e;obtain⟨o,n,e,c,hd,_⟩:=pl;exact⟨o,e,hd⟩
  ·refine⟨⟨o,I.kIn p o hk,hc⟩,fun a e=>?_⟩;cases e;exact⟨o,I.kIn _ o hk,hd⟩
  ·have z:∃o,s.heap.get? p=some o/\o.ExactDict:=by
    rcases hk with⟨kvs,hk⟩|⟨kvs,hk⟩
    ·obtain⟨_,_,_,_,o,_,_,e,ex,_⟩:=I.hok p _ hk;exact⟨o,e,ex⟩
    obtain⟨_,_,_,_,o,_,_,e,ex,_⟩:=I.hok p _ hk;exact⟨o,e,ex⟩
   obtain⟨o,e,ex⟩:=z;refine⟨⟨o,e,ex.1⟩,fun a e2=>?_⟩;cases e2;exact⟨o,e,ex.2.1⟩
  obtain⟨o,_,_,_,e,ex,_⟩:=I.hok p _ hk;refine⟨⟨o,e,ex.1⟩,fun a e2=>?_⟩;cases e2;exact⟨o,e,ex.2.1⟩
 | _=>exact False.elim ty
variable {o e:Expr}{es:List Expr}{to:TE}{t:TA}{name:Str}{apos cpos:Pos}{T id:String}{r:V->List V->Hp->VK->Prop}
end
noncomputable def MtM (X:Cx)(id:String)(r:V->List V->Hp->VK->Prop):Prop:=
 ∀(pins:List (Addr×Obj)) (s:Shared) (σ:St) (H:Hp) (x:V) (xs:List V) (v:Value) (us:List Value) (Q:VK),Inv X pins σ H s->RelV x v->Vals xs us->r x xs H Q ->
  wpAny (model X.prog X.w) X.A (call (.builtin id) (v::us)) (EP X pins σ Q) X.xe s
theorem Vals.one:∀{x:V}{us:List Value},Vals [x] us->∃u,us=[u]/\RelV x u:=fun h=>by
 cases h with
 | cons r h=>
  cases h;exact⟨_,rfl,r⟩
theorem Vals.rep {xs:List V}{us:List Value}(h:Vals xs us):∀k:Nat,Vals (List.replicate k xs).flatten (List.replicate k us).flatten
 | 0=>.nil
 | k+1=>by
  rw[replicate_succ,replicate_succ,flatten_cons,flatten_cons];exact Vals.append h (Vals.rep h k)
theorem foldl_rep (its:List Value):∀(k:Nat)(acc:List Value),
  List.foldl (fun x1 x2=>x1++x2) acc.toArray (List.replicate k its.toArray)=(acc++(List.replicate k its).flatten).toArray
 | 0,acc=>by simp
 | k+1,acc=>by
  have e:acc.toArray++its.toArray=(acc++its).toArray:=by simp
  have e2:(acc++its)++(List.replicate k its).flatten=acc++(List.replicate (k+1) its).flatten:=by
   rw[replicate_succ,flatten_cons,append_assoc]
  rw[<- e2,<- foldl_rep its k (acc++its),<- e,replicate_succ,List.foldl_cons]
section
variable {X:Cx}{pins:List (Addr×Obj)}{σ:St}{H:Hp}{s:Shared}{l b:Addr}{xs ys zs:List V}
theorem Inv.Z4 {its its':List Value}{n:Nat}{f:Array Value->Array Value}{t':Nat}(I:Inv X pins σ H s)(hH:H l=some (.lst xs))
  (e:s.heap.get? l=some { cls:=.type "list",data:=.seq its.toArray n }) (hf:f its.toArray=its'.toArray) (hv:Vals ys its') (hz:ys.length<=sizeLine) :
  Inv X pins σ (upd H l (.lst ys)) { s with heap:=s.heap.update l (Obj.mapSeq f),toks:=t' }:=by
 have q:=PySem.IsL.update e f;rw[hf] at q;refine I.write (x:=l) (e:=l) (by rw[hH];exact trivial) (.inl rfl) (fun b' u hb hu=>(get?_update_other s.heap (Obj.mapSeq f) (Ne.symm hb)).trans hu) ⟨_,q⟩ ?_;exact⟨hz,its',_,hv,q⟩
theorem Inv.Zq {its:List Value}{t':Nat}(I:Inv X pins σ H s)(hv:Vals ys its)(hz:ys.length<=sizeLine) :
  Inv X pins σ (upd H s.heap.objs.size (.lst ys)) { s with heap:=s.heap.push { cls:=.type "list",data:=.seq its.toArray },toks:=t' }:=
 I.laid (fun _ _ q=>get?_push_of_some _ q) (le_refl _) ⟨hz,its,0,hv,get?_push_size _ rfl⟩
theorem Inv.fresh (I:Inv X pins σ H s):H s.heap.objs.size=none:=I.hok.fresh (le_refl _)
theorem Inv.UW (I:Inv X pins σ H s) (hH:H l=some (.lst xs)):xs.length<=sizeLine/\∃(its:List Value)(n:Nat),Vals xs its/\xs.length=its.length/\s.heap.get? l=some { cls:=.type "list",data:=.seq its.toArray n }:=by
 obtain⟨z,its,n,r,e⟩:=I.hok l _ hH;exact⟨z,its,n,r,r.length,e⟩
theorem OJ {n:Nat}(h:n<=sizeLine):Builtin.List.listTooLong n=false:=by
 unfold Builtin.List.listTooLong;exact decide_eq_false ω
end
section
variable {X:Cx}
noncomputable def SM:V->List V->Hp->VK->Prop:=fun x vs H Q=>∃l xs y,x=.ref l/\vs=[y]/\H l=some (.lst xs)/\xs.length<sizeLine/\Q .non (upd H l (.lst (xs++[y])))
theorem JT:MtM X "list.append" SM:=by
 intro pins s σ H x vs v us Q I rx rv h;obtain⟨l,xs,y,rfl,rfl,hH,hz,q⟩:=h;cases rx;obtain⟨u,rfl,ru⟩:=rv.one;obtain⟨z,its,n,r,hl,e⟩:=I.UW hH;refine call_meets F.slot_list_append ⟨_,e,rfl⟩ F.entry_list_append (F.args_list_append_2 _ _) (PySem.list_append l its.toArray n u (by rw[size_toArray];omega)) ⟨e,?_⟩;refine⟨.non,_,I.Z4 (its':=its++[u]) hH e (by simp) (r.append (.cons ru .nil)) ?_,rfl,q⟩;rw[length_append,length_singleton];omega
noncomputable def ZX:R2:=fun x y H Q=>∃l b xs zs,x=.ref l/\y=.ref b/\H l=some (.lst xs)/\H b=some (.lst zs)/\xs.length+zs.length<=sizeLine/\∀p,H p=none->Q (.ref p) (upd H p (.lst (xs++zs)))
theorem Xz:OpR X (binaryOp .Add) ZX:=by
 intro pins s σ H x y v u Q I rx ry h;obtain⟨l,b,xs,zs,rfl,rfl,hH,hB,hz,q⟩:=h;cases rx;cases ry;obtain⟨z,its,n,r,hl,e⟩:=I.UW hH;obtain⟨z2,its2,n2,r2,hl2,e2⟩:=I.UW hB;refine PySem.P.add_list e e2 ?_ (by rw[size_toArray,size_toArray];omega);have ea:its.toArray++its2.toArray=(its++its2).toArray:=by simp
 rw[ea];exact⟨.ref _,_,I.Zq (t':=s.toks) (r.append r2) (by rw[length_append];omega),rfl,q _ I.fresh⟩
noncomputable def ZQ:R2:=fun x y H Q=>∃l k xs,x=.ref l/\y=.int k/\H l=some (.lst xs)/\-(2^63)<=k/\k<2^63/\xs.length*k.toNat<=sizeLine /\
 ∀p,H p=none->Q (.ref p) (upd H p (.lst (List.replicate k.toNat xs).flatten))
theorem len_rep {α:Type}(xs:List α)(k:Nat):(List.replicate k xs).flatten.length=k*xs.length:=by
 induction k with
 | zero=>simp
 | succ k ih=>rw[replicate_succ,flatten_cons,length_append,ih,Nat.succ_mul,Nat.add_comm]
theorem Xw:OpR X (binaryOp .Mult) ZQ:=by
 intro pins s σ H x y v u Q I rx ry h;obtain⟨l,k,xs,rfl,rfl,hH,h1,h2,hz,q⟩:=h;cases rx;obtain⟨t,rfl⟩:=ry;obtain⟨z,its,n,r,hl,e⟩:=I.UW hH;have hlen:its.toArray.size*k.toNat<=sizeLine:=by rw[size_toArray,<- hl];exact hz
 have hcap:¬its.toArray.size*k.toNat>(2^63-1)/8:=by
  have:(sizeLine:Nat)<=(2^63-1)/8:=by decide
  omega
 have hfit:¬(!Builtin.List.listFitsIndex k)=true:=by
  rw[fitsIndex_both h1 h2];exact Bool.false_ne_true
 have hlong:¬Builtin.List.listTooLong (its.toArray.size*k.toNat)=true:=by
  rw[OJ hlen];exact Bool.false_ne_true
 have hnew:List.foldl (fun x1 x2=>x1++x2) #[] (List.replicate (if its.toArray.isEmpty=true then 0 else k.toNat) its.toArray)=(List.replicate k.toNat its).flatten.toArray:=by
  have f0:∀m:Nat,List.foldl (fun x1 x2=>x1++x2) #[] (List.replicate m its.toArray)=(List.replicate m its).flatten.toArray:=fun m=>by
   have:=foldl_rep its m [];rw[nil_append] at this;exact this
  rw[f0];cases its with
  | nil=>simp
  | cons a r'=>rw[if_neg (by simp)]
 refine wpAny_binaryOp_repeat_ref (T := "list") (U := "int") δ ⟨_,e,rfl⟩ (fun s'=>typeIs_int s' k t) noFill_list_mul F.fills_int_mul F.slot_int_rmul repeat_list F.slot_int_index.lookup
  (call_meets F.slot_int_rmul (typeIs_int s k t) F.entry_int_rmul (F.args_int_rmul_2 _ _) (int___rmul___int_list k t l its.toArray n)
   ⟨e,rfl,⟨_,e,rfl⟩,call_meets F.slot_list_mul ⟨_,e,rfl⟩ F.entry_list_mul (F.args_list_mul_2 _ _) (AutoListH.list___mul___list_int_3 l its.toArray n k t hfit hcap hlong) ⟨e,?_⟩⟩)
 rw[hnew];exact⟨.ref _,_,I.Zq (t':=s.toks) (r.rep k.toNat) (by rw[len_rep,Nat.mul_comm];exact hz),rfl,q _ I.fresh⟩
end
end L2
namespace Att
open PySem PySem.W PySem.Calls PyProof.Rows
theorem tD {P:Params}{h:Heap}:∀(ns:List Int)(vs:List Value),WellAll P h vs (ns.map WData.int)->IntsAre vs ns:=by
 intro ns
 induction ns with
 | nil=>
  intro vs w;rw[map_nil] at w;cases w;exact .nil
 | cons n ns ih=>
  intro vs w;rw[map_cons] at w;cases w with
  | cons a b=>
   cases a;exact .cons _ _ (ih _ b)
theorem Jr {l:OpenLaw}{n:Nat}(hn:l.most=some n){P:Params}{h:Heap}{args:List WData}{vals:List Value}
  (hpre:l.row.toRowW.claim.pre args=true) (hwl:WellAll P h vals args) :
  ∃a vs ns,vals=[Value.ref a]/\args=[WData.list (ns.map WData.int)]/\h.get? a=some { cls:=.type "list",data:=.seq vs.toArray }/\IntsAre vs ns/\ns.length<=n:=by
 have hsh:WShape.hasAll [] args [.list .int]=true:=(pre_splitW hpre).1;have hc:l.pre.holds [] { args:=args }=true:=(pre_splitW hpre).2;obtain⟨d,r,rfl,h1,h2⟩:=hasAllW_cons hsh;obtain rfl:=hasAllW_nil h2;obtain⟨xs,rfl,h3⟩:=hasW_list h1;obtain⟨ns,rfl⟩:=items_int h3;have hlen:ns.length<=n:=by
  unfold OpenLaw.pre at hc;have h4:(WTm.not (.lt (.lit (.int (n:Int))) (.len (.arg 0)))).holds [] { args:=[.list (ns.map .int)] }=true:=by
   have h4:=(holds_andW hc).1;rw[hn] at h4;exact h4
  have h5:=condW_of h4 (w_not (w_lt w_lit (w_len_list (w_arg rfl))));rw[length_map] at h5;refine Nat.le_of_not_lt fun q=>?_;have q':(n:Int)<((ns.length:Nat):Int):=ω
  first
   | (rw[decide_eq_true q'] at h5;exact absurd h5 δ)
   | (simp at h5;omega)
 cases hwl with
 | cons w1 w2=>
  cases w2;cases w1 with
  | list ho hall=>exact⟨_,_,ns,rfl,rfl,ho,tD ns _ hall,hlen⟩
theorem Jz (l:OpenLaw)(args:List WData):l.row.toRowW.claim.post args (.bool true) args=true:=
 postW_of (r:=l.row.toRowW) (X:=(true == true))
  (show WShape.has [] (.bool true) .bool=true by first|rfl|decide|simp [WShape.has,WShape.arms,WShape.armsAll])
  (show(WTm.eq .res (.lit (.bool true))).value [] { args:=args,res:=some (.bool true),after:=args }=some (.bool (true == true)) from w_eq_bool (w_res rfl) w_lit) rfl
theorem DW {l:OpenLaw}{n:Nat}{q:Program}{loose:List Str}{XP:(Str->Option Value)->Heap->Prop}{YP:World->Heap->Prop}{d:DefRec}
  (hn:l.most=some n) (hdf:d.params.defaults=[])
  (call:∀(w:World)(s₀ s₁:Shared)(mg mb:Str->Option Value)(fa:Addr)(o:Obj)(pm cd doc:Value)(a:Addr)(vs:List Value)(ns:List Int),
   Ground q loose [] XP w s₀ mg mb s₁.heap->YP w s₁.heap ->
   s₁.heap.get? fa=some o->o.data=.func (docDef d.name d.params d.body d.scope pm cd doc)->s₁.heap.CodeRec cd d.name->mg d.name=some (.ref fa) ->
   s₁.heap.get? a=some { cls:=.type "list",data:=.seq vs.toArray }->IntsAre vs ns->ns.length<=n->s₁.gens=#[] ->
   codeAny (model l.prog w) callerA (.call (.ref fa) ⟨[.ref a],[]⟩) (fun r s'=>r=.ok (.ret (.bool true))/\OldK s₁.heap s'.heap/\s'.os=s₁.os/\AllBare s'.gens) s₁) :
  WalkO q loose XP YP l.row.toRowW d [] (fun f vs=>PySem.call f vs):=by
 intro w s₀ s₁ mg mb G Y fa o pm cd doc dV kV ho hd hcd hD hmg hg args vals as hpre hlay hrd hwl hlo;obtain rfl:dV=.none:=Dflts.none hD hdf;obtain rfl:kV=.none:=Dflts.noKw hD;obtain⟨a,vs,ns,rfl,rfl,hobj,hints,hlen⟩:=Jr hn hpre hwl;refine enter_call (codeAny_mono (call w s₀ s₁ mg mb fa o pm cd doc a vs ns G Y ho (fd_plain hd) hcd hmg hobj hints hlen hg) fun r s' hq=>?_);obtain⟨rfl,h2,h3,h4⟩:=hq;exact⟨.inl ⟨.bool true,.bool true,[],rfl,fun _=>rfl,.bool true,Jz l _,fun _=>⟨List.Pairwise.nil,fun _ hm=>(nomatch hm)⟩⟩,h2,h3,h4⟩
end Att
namespace L2
open PySem PySem.Spec PyProof.Rows
theorem xj:∀{vs:List Value}{ns:List Int},IntsAre vs ns->Vals (ns.map V.int) vs
 | _,_,.nil=>.nil
 | _,_,.cons n t h=>.cons ⟨t,rfl⟩ (xj h)
noncomputable def Only (H:Hp):Prop:=∀b,H b=none\/∃o xs,H b=some (.frz o (.lst xs))
theorem PL {P:Program}{w:World}{K:PySem.W.Frag}{mg mb:Str->Option Value}{CX:CXT}{k:Nat}{fa a:Addr}{fd:FuncData}{x:Str}{sp:Sp}{s₁:Shared}{vs:List Value}{ns:List Int}
  (KX:K.In s₁.heap) (hns:s₁.heap.Ns mainGlobals mg) (hb:s₁.heap.Ns builtinsNs mb) (hbb:∀x:Str,x ≠ "__name__" -> mb x=bootBuiltins x) (hlim:s₁.heap.NoLimit) (hg:s₁.gens=#[])
  (ha:s₁.heap.get? a=some { cls:=.type "list",data:=.seq vs.toArray }) (hi:IntsAre vs ns) (hl:ns.length<=sizeLine) (hr:gW k callerA)
  (F:∀base:Heap,K.In base->base.Ns mainGlobals mg->dF P w K mg base CX k fa fd [x] sp) (hbind:∀(s:Shared)(u:Value),BindsTo s fd ⟨[u],[]⟩ [(x,u)])
  (hsp:∀H:Hp,Only H->SqL K H a (ns.map V.int)->sp [.ref a] H (fun v _=>v=.bl true) fun _ _ _=>False)
  (hCX:∀H e s',CX [] H s₁ (fun _ _ _=>False) e s'->False) :
  codeAny (model P w) callerA (.call (.ref fa) ⟨[.ref a],[]⟩) (fun r s'=>r=.ok (.ret (.bool true))/\OldK s₁.heap s'.heap/\s'.os=s₁.os/\AllBare s'.gens) s₁:=by
 have rv:=xj hi;have lenV:=hi.length
 -- from an abstract heap in which nothing but the script may be tracked
 have core:∀H:Hp,Only H->SqL K H a (ns.map V.int)->HOk P w H s₁.heap->(∀b,H b≠none->b=a)->(H a≠none->K.lookup a=none) ->
   codeAny (model P w) callerA (.call (.ref fa) ⟨[.ref a],[]⟩) (fun r s'=>r=.ok (.ret (.bool true))/\OldK s₁.heap s'.heap/\s'.os=s₁.os/\AllBare s'.gens) s₁:=by
  intro H hO hS hok hA hK;have base_of:∀{b:Addr}{o:Obj},s₁.heap.get? b=some o->H b=none->(Aq s₁.heap H).get? b=some o:=fun e n=>Ql e n;have noA:∀{b:Addr}{o:Obj}{es:Array DictEntry}{ep:Nat},s₁.heap.get? b=some o->o.data=.dict es ep->H b=none:=fun {b o es ep} e d=>by
   cases q:H b with
   | none=>rfl
   | some u=>
    have e':b=a:=hA b (by rw[q];simp);subst e';rw[ha] at e;cases e;have d':Data.seq vs.toArray _=Data.dict es ep:=d;cases d'
  have nsK:∀{b:Addr}{m:Str->Option Value},s₁.heap.Ns b m->(Aq s₁.heap H).Ns b m:=fun {b m} ⟨o,es,ep,e,d,r⟩=>⟨o,es,ep,base_of e (noA e d),d,r⟩;have hKb:K.In (Aq s₁.heap H):=fun b o e=>base_of (KX b o e) (by
   cases q:H b with
   | none=>rfl
   | some u=>
    have e':b=a:=hA b (by rw[q];simp);subst e';rw[hK (by rw[q];simp)] at e;cases e)
  have hM:Mod K mg (Aq s₁.heap H):=⟨hKb,nsK hns,⟨mb,nsK hb,hbb⟩,let ⟨mc,h1,h2⟩:=hlim;⟨mc,nsK h1,h2⟩⟩;have e0:VR P w K mg (Aq s₁.heap H) callerA [] s₁ H:=⟨rfl,hM,fun b o e=>Uv e,le_of_eq (J8 _ _),trivial,fun b hb=>absurd (show b∈([]:List Addr) from hb) (by simp),hok,.of_eq hg⟩;refine codeAny_mono ((F _ hKb (nsK hns)).run callerA [] s₁ H ⟨[.ref a],[]⟩ [.ref a] [.ref a] _ _ hr e0 (hbind s₁ (.ref a)) (.cons rfl .nil) (hsp H hO hS)) fun r s' h=>?_;cases r with
  | error e=>exact(hCX H e s' h).elim
  | ok fl=>
   cases fl with
   | next=>exact False.elim h
   | brk=>exact False.elim h
   | cont=>exact False.elim h
   | ret u=>
    obtain⟨v,H',os,bare,un,hok',r',q⟩:=h;have q':v=.bl true:=q;subst q';obtain rfl:u=Value.bool true:=r';refine⟨rfl,OldK.of_keep fun b o e=>?_,os,bare⟩;cases q:H b with
    | none=>exact un.keep b o e q (by intro z;exact absurd (show b∈([]:List Addr) from z) (by simp)) (by simp)
    | some u=>
     rcases hO b with z|⟨ob,xs,z⟩
     ·rw[q] at z;cases z
     have z2:=un.frzs b ob _ z;obtain⟨e1,_⟩:=hok b _ z;obtain⟨e2,_⟩:=hok' b _ z2;rw[e] at e1;cases e1;exact e2
 cases hk:K.lookup a with
 | some o=>
  -- the script is one of the module's own objects
  have e:=KX a o hk;rw[ha] at e;cases e;refine core (fun _=>none) (fun _=>.inl rfl) (.inr ⟨_,vs.toArray,_,hk,rfl,rfl,rfl,by rw[size_toArray,lenV];exact hl,by simpa using rv⟩) (fun b u z=>by have z':(none:Option HO)=some u:=z;cases z') (fun b z=>absurd rfl z) fun z=>absurd rfl z
 | none=>
  refine core (fun b=>if b=a then some (.frz { cls:=.type "list",data:=.seq vs.toArray } (.lst (ns.map V.int))) else none) (fun b=>?_) (.inl (.inr ⟨{ cls:=.type "list",data:=.seq vs.toArray },if_pos rfl⟩)) (fun b u z=>?_) (fun b z=>?_) fun _=>hk
  ·by_cases hb:b=a
   ·exact .inr ⟨_,_,if_pos hb⟩
   exact .inl (if_neg hb)
  ·by_cases hb:b=a
   ·have z':=(if_pos hb).symm.trans z;cases z';subst hb;exact⟨ha,by rw[length_map];exact hl,vs,_,rv,ha⟩
   have z':=(if_neg hb).symm.trans z;cases z'
  by_cases hb:b=a
  ·exact hb
  exact absurd (if_neg hb) z
theorem RK {l:PySem.W.OpenLaw}{n k:Nat}{q:Program}{loose:List Str}{XP:(Str->Option Value)->Heap->Prop}{YP:World->Heap->Prop}{d:DefRec}{K:Params->PySem.W.Frag}{CX:World->CXT}{sp:World->Sp}{x:Str}
  (hn:l.most=some n) (hn2:n<=sizeLine) (hdf:d.params.defaults=[]) (hr:gW k callerA)
  (hY:∀(w:World)(h:Heap),YP w h->(K w.params).In h)
  (F:∀(w:World)(mg:Str->Option Value)(fa:Addr)(h:Heap),(K w.params).In h->h.Ns mainGlobals mg->mg d.name=some (.ref fa) ->
   ∃fd:FuncData,(∀(s:Shared)(u:Value),BindsTo s fd ⟨[u],[]⟩ [(x,u)]) /\
    ∀base:Heap,(K w.params).In base->base.Ns mainGlobals mg->dF l.prog w (K w.params) mg base (CX w) k fa fd [x] (sp w))
  (hsp:∀(w:World)(H:Hp)(a:Addr)(ns:List Int),ns.length<=n->Only H->SqL (K w.params) H a (ns.map V.int)->sp w [.ref a] H (fun v _=>v=.bl true) fun _ _ _=>False)
  (hCX:∀(w:World)(H:Hp)(s:Shared)(e:Value)(s':Shared),CX w [] H s (fun _ _ _=>False) e s'->False) :
  PySem.W.WalkO q loose XP YP l.row.toRowW d [] (fun f vs=>PySem.call f vs):=by
 refine Att.DW hn hdf fun w s₀ s₁ mg mb fa o pm cd doc a vs ns G Y ho hd hcd hmg hobj hints hlen hg=>?_;have KX:=hY w _ Y;obtain⟨fd,hb,hF⟩:=F w mg fa _ KX G.T.g hmg;exact PL KX G.T.g G.T.b G.T.builtins G.T.nolimit hg hobj hints (le_trans hlen hn2) hr hF hb (fun H hO hS=>hsp w H a ns hlen hO hS) fun H e s'=>hCX w H s₁ e s'
noncomputable def gD (s:Stmt):Arguments:=match s with
 | .FunctionDef _ a _ _ _ _ _ _ _ _=>a
 | _=>{ posonlyargs:=[],args:=[],vararg:=none,kwonlyargs:=[],kw_defaults:=[],kwarg:=none,defaults:=[] }
noncomputable def eF (s:Stmt):List Stmt:=match s with
 | .FunctionDef _ _ b _ _ _ _ _ _ _=>b
 | _=>[]
noncomputable def ak (s:Stmt):Scope:=match s with
 | .FunctionDef _ _ _ _ _ _ sc _ _ _=>sc
 | _=>{ kind:=.function,names:=[],isGenerator:=false,isCoroutine:=false }
noncomputable abbrev CX0:CXT:=fun _ _ _ _ _ _=>False
noncomputable abbrev E0:XK:=fun _ _ _=>False
theorem Zh {X:Cx}:GR CX0 X E0:=fun _ _ _ _ _ _ _ h=>h.elim
structure Fun (K:PySem.W.Frag)(x qual:Str)(st:Stmt)(f:Addr)(fd:FuncData):Prop where
 ex:∃(oc:Value)(od:Option Addr)(kV doc pm:Value)(an:Option Addr)(cdv ct:Value)(osl:Array (Option Value)),
  fd=fnOf x qual (gD st) (eF st) (ak st) .none kV doc pm an cdv ct/\K.lookup f=some ⟨oc,od,.func fd,osl⟩/\codeIn K cdv qual=true
 kp:keepIn K (.ref f)=true
section
variable {P:Program}{w:World}{K:PySem.W.Frag}{mg:Str->Option Value}{base:Heap}
theorem Fun.ok {x qual:Str}{st:Stmt}{f:Addr}{fd:FuncData}{N ps:List Str}{k:Nat}{sp:Sp}(F:Fun K x qual st f fd)(S:bB N ps (ak st))(len:∀vs H Q E,sp vs H Q E->vs.length=ps.length)
  (hbody:∀(cdv:Value)(A:Around)(outer:List Env)(s:Shared)(H:Hp)(vs:List V)(Q:VK)(E:XK),gW k (A.deeper (envOfC qual (ak st) s.heap.objs.size f cdv))->sp vs H Q E ->
   ∃t,PSs (Gu CX0 P w K mg base N qual (ak st) f cdv A outer s H E).nox (eF st) t/\t { nx:=fun _ H'=>Q .non H',rt:=Q } (start N vs) H):dF P w K mg base CX0 (k+1) f fd ps sp:=by
 obtain⟨oc,od,kV,doc,pm,an,cdv,ct,osl,rfl,lk,hcd⟩:=F.ex;refine Zw lk hcd S len fun A outer s H vs Q E hr hsp=>?_;obtain⟨t,h,q⟩:=hbody cdv A outer s H vs Q E hr hsp;exact⟨t,h.nox,q⟩
theorem Fun.binds {x qual:Str}{st:Stmt}{f:Addr}{fd:FuncData}{ps:List Str}(F:Fun K x qual st f fd)
  (h:∀(kV doc pm:Value)(an:Option Addr)(cdv ct:Value)(us:List Value),us.length=ps.length->bindArgs (fnOf x qual (gD st) (eF st) (ak st) .none kV doc pm an cdv ct) ⟨us,[]⟩=pure (ps.zip us)):Binds K fd ps []:=by
 obtain⟨oc,od,kV,doc,pm,an,cdv,ct,osl,rfl,lk,hcd⟩:=F.ex;exact .all (h kV doc pm an cdv ct)
theorem Qu {x qual:Str}{st:Stmt}{f:Addr}{oc:Value}{od an:Option Addr}{osl:Array (Option Value)}{kV doc pm cdv ct:Value}(l:K.lookup f=some ⟨oc,od,.func (fnOf x qual (gD st) (eF st) (ak st) .none kV doc pm an cdv ct),osl⟩)
  (c:codeIn K cdv qual=true) (k:keepIn K (.ref f)=true):Fun K x qual st f (fnOf x qual (gD st) (eF st) (ak st) .none kV doc pm an cdv ct):=⟨⟨oc,od,kV,doc,pm,an,cdv,ct,osl,rfl,l,c⟩,k⟩
end
noncomputable def Same (H H':Hp):Prop:=∀b o,H b=some o->H' b=some o
theorem Same.refl (H:Hp):Same H H:=fun _ _ h=>h
theorem Same.trans {H H1 H2:Hp}(a:Same H H1)(b:Same H1 H2):Same H H2:=fun c o h=>b c o (a c o h)
theorem Same.seq {K:PySem.W.Frag}{H H':Hp}{a:Addr}{xs:List V}(e:Same H H')(h:SqL K H a xs):SqL K H' a xs:=by
 rcases h with(h|⟨o,h⟩)|h
 ·exact .inl (.inl (e _ _ h))
 ·exact .inl (.inr ⟨o,e _ _ h⟩)
 exact .inr h
end L2
set_option maxHeartbeats 4000000
namespace L2
open PySem PySem.Spec PyProof.Rows
theorem vR {env:Env}:∀(names:List (Str×NameKind)) (acc:List (Str×Addr)),
  (∀y∈names,y.2=.free->∃c,env.cells.lookup y.1=some c)->(∀x c,acc.lookup x=some c->env.cells.lookup x=some c) ->
  ∃cl,(forIn names acc fun(y:Str×NameKind)(r:List (Str×Addr))=>(match y with
   | (name,kind)=>if (kind == .free)=true then (do let a <- cellOf env name;pure (ForInStep.yield ((name,a)::r))) else pure (ForInStep.yield r):Sem (ForInStep (List (Str×Addr)))))=pure cl /\
   (∀x c,cl.lookup x=some c->env.cells.lookup x=some c)/\(∀y∈names,y.2=.free->∃c,cl.lookup y.1=some c)/\(∀x c,acc.lookup x=some c->∃c',cl.lookup x=some c')
 | [],acc,_,ha=>⟨acc,rfl,ha,fun _ h=>(nomatch h),fun x c h=>⟨c,h⟩⟩
 | (n,k)::r,acc,hf,ha=>by
  have hf':∀y∈r,y.2=.free->∃c,env.cells.lookup y.1=some c:=fun y hy=>hf y (mem_cons_of_mem _ hy);by_cases hk:k=.free
  ·subst hk;obtain⟨c0,e0⟩:=hf (n,.free) mem_cons_self rfl;have hce:cellOf env n=pure c0:=by unfold cellOf;rw[e0]
   have ha2:∀x c,((n,c0)::acc).lookup x=some c->env.cells.lookup x=some c:=fun x c h=>by
    rw[lookup_cons] at h;cases hx:x == n with
    | true=>
     rw[hx] at h;have e1:x=n:=by simpa using hx
     rw[e1,e0];exact h
    | false=>
     rw[hx] at h;exact ha x c h
   obtain⟨cl,e,h1,h2,h3⟩:=vR r ((n,c0)::acc) hf' ha2;refine⟨cl,?_,h1,fun y hy hz=>?_,fun x c h=>?_⟩
   ·rw[forIn_cons];simp only[beq_self_eq_true,if_true,hce];exact e
   ·rcases mem_cons.mp hy with q|q
    ·subst q;exact h3 n c0 (by simp)
    exact h2 y q hz
   cases hx:x == n with
   | true=>exact h3 x c0 (by rw[lookup_cons,hx])
   | false=>exact h3 x c (by rw[lookup_cons,hx];exact h)
  have hb:(k == NameKind.free)=false:=by simpa using hk
  obtain⟨cl,e,h1,h2,h3⟩:=vR r acc hf' ha;refine⟨cl,?_,h1,fun y hy hz=>?_,h3⟩
  ·rw[forIn_cons];simp only[hb,false_eq_true,if_false];exact e
  rcases mem_cons.mp hy with q|q
  ·subst q;exact absurd hz hk
  exact h2 y q hz
theorem Iw {env:Env}{scope:Scope}(hf:∀y∈scope.names,y.2=.free->∃c,env.cells.lookup y.1=some c) :
  ∃cl,closureFor scope env=pure cl/\(∀x c,cl.lookup x=some c->env.cells.lookup x=some c)/\(∀y∈scope.names,y.2=.free->∃c,cl.lookup y.1=some c):=by
 obtain⟨cl,e,h1,h2,_⟩:=vR (env:=env) scope.names [] hf (fun x c h=>by simp at h);refine⟨cl,?_,h1,h2⟩;unfold closureFor;show(forIn scope.names [] _ >>= fun r=>pure r)=_;rw[show(forIn scope.names ([]:List (Str×Addr)) fun(y:Str×NameKind)(r:List (Str×Addr))=>(match y with
   | (name,kind)=>if (kind == .free)=true then (do let a <- cellOf env name;pure (ForInStep.yield ((name,a)::r))) else pure (ForInStep.yield r):Sem (ForInStep (List (Str×Addr)))))=pure cl from e]
 rfl
section
variable {prog:Program}{w:World}{A:Around}{R:Result->Shared->Prop}{s:Shared}
theorem yO {elt tg iter:Expr}{ifs:List Expr}{scope:Scope}{pos:Pos}{it acc:Value}{env:Env}(J:Nat->Shared->Prop)
  (turn:∀n s,J n s->wpAny (model prog w) A (pyNext it) (fun r s1=>match r with
   | none=>R (.ok .next) s1
   | some v=>wpAny (model prog w) A (letOwnedTupleGo tg it v) (fun _ s1'=>wpAny (model prog w) A (assign tg env v) (fun _ s2=>
     wpAny (model prog w) A (forIn ifs true fun c r=>if r=true then do let ok <- isTrue c env (eval c env);pure (ForInStep.yield ok) else pure (ForInStep.yield r)) (fun ok s3=>
      if ok=true then wpAny (model prog w) A (eval elt env) (fun x s4=>
       wpAny (model prog w) A (call (.builtin "list.append") [acc,x]) (fun _ s5=>∃m,m<n/\J m s5) (notedBy (model prog w) A env fun e z=>R (.error e) z) s4) (notedBy (model prog w) A env fun e z=>R (.error e) z) s3
      else ∃m,m<n/\J m s3) (notedBy (model prog w) A env fun e z=>R (.error e) z) s2) (notedBy (model prog w) A env fun e z=>R (.error e) z) s1') (notedBy (model prog w) A env fun e z=>R (.error e) z) s1) (notedBy (model prog w) A env fun e z=>R (.error e) z) s)
  (n:Nat) (h:J n s):codeAny (model prog w) A (.compLoop (.ListComp elt [⟨tg,iter,ifs,0⟩] scope pos) 0 it acc env) R s:=by
 refine codeAny_loop rfl J (fun n z hJ=>?_) n h;show wpAny _ A ((compTurn (.ListComp elt [⟨tg,iter,ifs,0⟩] scope pos) 0 it acc env).onRaise (fun y=>do noteFrame y env;theTreesLotGoes y)) _ _ z;refine wpAny_noted ?_;rw[compTurn_list];refine wpAny_bind (wpAny_standAt (wpAny_bind (wpAny_mono (turn n z hJ) (fun r s1 h1=>?_) fun _ _ q=>q)));cases r with
 | none=>exact wpAny_pure h1
 | some v=>
  refine wpAny_bind (wpAny_mono h1 (fun _ s1' h1'=>?_) fun _ _ q=>q);refine wpAny_bind (wpAny_mono h1' (fun _ s2 h2=>wpAny_bind (wpAny_mono h2 (fun ok s3 h3=>?_) fun _ _ q=>q)) fun _ _ q=>q);cases ok with
  | false=>exact wpAny_pure ⟨rfl,h3⟩
  | true=>
   exact wpAny_bind (wpAny_bind (wpAny_mono h3 (fun x s4 h4=>wpAny_bind (wpAny_mono h4 (fun _ s5 h5=>wpAny_pure (wpAny_pure ⟨rfl,h5⟩)) fun _ _ q=>q)) fun _ _ q=>q))
end
noncomputable def lR (mp:List (Option Nat))(σ:St):St:=mp.map fun o=>match o with
 | some j=>(σ[j]?).join
 | none=>none
noncomputable def bZ (X:Cx)(N:List Str)(scope:Scope)(cl:List (Str×Addr))(C:Addr)(s:Shared)(H:Hp)(fp:List Addr):Cx:=
 { X with N:=N,s₀:=s,H₀:=H,env:=compEnvC scope cl C X.env,outer:=X.stack,stack:=X.stack,ex:=fp,fn:=fun _=>false,pn:=[],xe:=fun _ _=>False }
noncomputable def oK (NX:List Str)(names:List (Str×NameKind)):List Str->List (Option Nat)->Bool
 | [],[]=>true
 | x::r,o::q=>(match o with
   | none=>names.lookup x == some .local
   | some j=>NX[j]? == some x&&names.lookup x == some .free)&&oK NX names r q
 | _,_=>false
theorem yw {NX:List Str}{names:List (Str×NameKind)}:∀{N:List Str}{mp:List (Option Nat)}{i j:Nat}{x:Str},oK NX names N mp=true->N[i]?=some x->mp[i]?=some (some j)->NX[j]?=some x/\names.lookup x=some .free
 | [],_,i,_,_,_,h,_=>by simp at h
 | _::_,[],_,_,_,h,_,_=>by simp [oK] at h
 | y::r,o::q,0,j,x,h,h1,h2=>by
  simp at h1 h2;subst h1 h2;unfold oK at h;simp only[and_eq_true,beq_iff_eq] at h;exact h.1
 | y::r,o::q,i+1,j,x,h,h1,h2=>by
  unfold oK at h;rw[and_eq_true] at h;exact yw (i:=i) h.2 (by simpa using h1) (by simpa using h2)
theorem yu {NX:List Str}{names:List (Str×NameKind)}:∀{N:List Str}{mp:List (Option Nat)},oK NX names N mp=true->mp.length=N.length
 | [],[],_=>rfl
 | [],_::_,h=>by simp [oK] at h
 | _::_,[],h=>by simp [oK] at h
 | _::r,_::q,h=>by
  unfold oK at h;rw[and_eq_true] at h;simp [yu h.2]
structure yW (NX:List Str)(kX:List (Str×NameKind))(N:List Str)(mp:List (Option Nat))(scope:Scope):Prop where
 kind:scope.kind=.function
 nocell:∀y∈scope.names,y.2≠.cell
 locs:∀y∈scope.names,y.2=.local->scope.names.lookup y.1=some .local
 fre:∀y∈scope.names,y.2=.free->kX.lookup y.1=some .cell\/kX.lookup y.1=some .free
 map:oK NX scope.names N mp=true
noncomputable def PTs (X:Cx)(cs:List Expr)(t:TT):Prop:=
 ∀(pins:List (Addr×Obj)) (s:Shared) (σ:St) (H:Hp) (Q:Bool->Hp->Prop),Inv X pins σ H s->t σ H Q ->
  wpAny (model X.prog X.w) X.A (forIn cs true fun c r=>if r=true then do let ok <- isTrue c X.env (eval c X.env);pure (ForInStep.yield ok) else pure (ForInStep.yield r)) (TP X pins σ Q) X.xe s
noncomputable def Wq:TT:=fun _ H Q=>Q true H
theorem Te {X:Cx}:PTs X [] Wq:=fun _ _ _ H _ I h=>wpAny_tests_nil ⟨H,I,h⟩
theorem Td {X:Cx}{c:Expr}{t:TT}(h:PT X c t):PTs X [c] t:=fun pins s σ H Q I q=>wpAny_tests_one (h pins s σ H Q I q)
noncomputable def uf (mp:List (Option Nat))(wi:TI)(g:TG)(tc:TT)(te:TE):TE:=fun σ H Q=>wi σ H fun J H1=>
 ∃W:Nat->Nat->List V->St->Hp->Prop,(∃m,W 0 m [] (lR mp σ) H1)/\∀i m acc τ H2,W i m acc τ H2 ->
  (J.stop i H2/\∀d,H2 d=none->Q (.ref d) (upd H2 d (.lst acc))) \/
  (J.go i H2/\acc.length<sizeLine/\∃N:List V->St->Hp->Prop,(∀acc' τ' H',N acc' τ' H'->∃m',m'<m/\W (i+1) m' acc' τ' H')/\∀x H3,J.yld i H2 x H3->g x τ H3 fun τ1 H4=>tc τ1 H4 fun b H5=>
   if b=true then te τ1 H5 fun v H6=>N (acc++[v]) τ1 H6 else N acc τ1 H5)
theorem gw {env:Env}:∀{names:List (Str×NameKind)}{x:Str}{k:NameKind},(names.map fun(n,k)=>if (k == NameKind.free&&env.scope.kind == .function&&env.kindOf n == some .cell) then (n,NameKind.cell) else (n,k)).lookup x=some k ->
  names.lookup x=some k\/(k=.cell/\names.lookup x=some .free)
 | [],_,_,h=>by simp at h
 | (n,k0)::r,x,k,h=>by
  have ih:=@gw env r x k;rw[map_cons] at h;by_cases hc:(k0 == NameKind.free&&env.scope.kind == .function&&env.kindOf n == some .cell)=true
  ·simp only[hc,if_true] at h;cases hx:x == n with
   | true=>
    rw[lookup_cons,hx] at h;have hk:k0=.free:=by
     rw[and_eq_true,and_eq_true] at hc;simpa using hc.1.1
    right;refine⟨(Option.some.inj h).symm,?_⟩;rw[lookup_cons,hx,hk]
   | false=>
    rw[lookup_cons,hx] at h;rw[lookup_cons,hx];exact ih h
  simp only[hc,if_false] at h;cases hx:x == n with
  | true=>
   rw[if_neg (by simp),lookup_cons,hx] at h;rw[lookup_cons,hx];exact .inl h
  | false=>
   rw[if_neg (by simp),lookup_cons,hx] at h;rw[lookup_cons,hx];exact ih h
theorem na0 {b D E:Nat}(h:b<E)(hD:E=D):b≠D:=by omega
theorem na1 {b D E C:Nat}(h:b<E)(hD:E=D)(hC:C=D+1):b≠C:=by omega
theorem na2 {C D:Nat}(hC:C=D+1):D≠C:=by omega
theorem na3 {C D E:Nat}(hD:E=D)(hC:C=D+1):E<=C:=by omega
theorem na4 {D E:Nat}(hD:E=D):E<=D:=by omega
section
variable {X:Cx}{NX N:List Str}{kX:List (Str×NameKind)}{mp:List (Option Nat)}{scope:Scope}{pins:List (Addr×Obj)}{σ:St}{s s':Shared}{H:Hp}{fp:List Addr}{cl:List (Str×Addr)}{C:Addr}
theorem Gw (hkX:X.env.scope.names=kX)(S:yW NX kX N mp scope)(I:Inv X pins σ H s)(hfp:∀b∈fp,rO X pins H b)(hold:∀b∈fp,b<s.heap.objs.size)(hC:s.heap.objs.size<=C)
  (hsub:∀x c,cl.lookup x=some c->X.env.cells.lookup x=some c) (hhas:∀y∈scope.names,y.2=.free->∃c,cl.lookup y.1=some c):(bZ X N scope cl C s H fp).Ok where
 mod:=I.ok.mod
 kind:=S.kind
 glob:=I.ok.glob
 blt:=I.ok.blt
 above:=hC
 inj:=fun x y c h1 h2=>I.ok.inj x y c (hsub x c h1) (hsub y c h2)
 has:=fun x h=>by
  have key:scope.names.lookup x=some .free:=by
   rcases h with h|h
   ·rcases gw (env:=X.env) (names:=scope.names) h with q|⟨_,q⟩
    ·exact absurd rfl (S.nocell _ (PySem.mem_of_lookup q))
    exact q
   rcases gw (env:=X.env) (names:=scope.names) h with q|⟨q,_⟩
   ·exact q
   cases q
  exact hhas _ (PySem.mem_of_lookup key) rfl
 cab:=fun x c h=>by cases h
 hd:=I.ok.hd
 frames:=I.ok.frames
 stk:=.inl rfl
 exf:=fun b hb=>⟨ne_of_lt (lt_of_lt_of_le (hold b hb) hC),fun x c e=>(hfp b hb).2.2.2.2.1 x c (hsub x c e)⟩
 bs:=I.bs
 bsz:=le_trans I.ok.bsz I.sz
 noex:=fun b o e hb=>by
  rcases(hfp b hb).2.2.2.1 with q|q
  ·exact I.ok.noex b o e q
  exact absurd (lt_of_lt_of_le (lt_of_lt_of_le (lt_size e) I.ok.bsz) q) (lt_irrefl _)
 exfs:=fun b hb hz=>by
  obtain⟨_,h1,h2,_⟩:=hfp b hb;rcases mem_cons.mp (I.uq b hz) with q|q
  ·exact h1 q
  exact h2 q
 tH:=I.stack
 frf:=I.G7
theorem Iv (hNX:X.N=NX)(hkX:X.env.scope.names=kX)(S:yW NX kX N mp scope)(I:Inv X pins σ H s)(hfp:∀b∈fp,rO X pins H b)(hold:∀b∈fp,b<s.heap.objs.size)(hC:s.heap.objs.size<=C)
  (hsub:∀x c,cl.lookup x=some c->X.env.cells.lookup x=some c) (hhas:∀y∈scope.names,y.2=.free->∃c,cl.lookup y.1=some c)
  (ho:s'.os=s.os) (hg:s'.gens=s.gens) (hn:∃m,s'.heap.Ns C m) (hk:∀b o,s.heap.get? b=some o->s'.heap.get? b=some o) {pl:List (Addr×Obj)}
  (hp:∀p∈pl,s'.heap.get? p.1=some p.2/\H p.1=none/\p.1≠C/\p.1∉frs X.stack/\∀v,p.2.data≠.cell v) :
  Inv (bZ X N scope cl C s H fp) pl (lR mp σ) H s' where
 ok:=Gw hkX S I hfp hold hC hsub hhas
 os:=ho
 bare:=by rw[hg];exact I.bare
 base:=Un.kept hk
 loc:=by
  obtain⟨m,hm⟩:=hn;refine⟨m,hm,fun i x v h1 h2 h3=>?_⟩;have h2':(mp.map fun o=>match o with|some j=>(σ[j]?).join|none=>none)[i]?=some (some v):=h2
  rw[getElem?_map] at h2';cases e:mp[i]? with
  | none=>rw[e] at h2';cases h2'
  | some o=>
   rw[e] at h2';cases o with
   | none=>cases h2'
   | some j=>
    have h4:(σ[j]?).join=some v:=by simpa using h2'
    have h5:σ[j]?=some (some v):=by
     cases q:σ[j]? with
     | none=>rw[q] at h4;cases h4
     | some z=>rw[q] at h4;rw[show z=some v from h4]
    obtain⟨g1,g2⟩:=yw S.map h1 e;have fk:=S.fre _ (PySem.mem_of_lookup g2) rfl;obtain⟨m0,_,hl⟩:=I.loc;have vis:Vis X.env.scope x:=by
     rcases fk with q|q
     ·exact .inr (.inl (by rw[hkX];exact q))
     exact .inr (.inr (by rw[hkX];exact q))
    obtain⟨u,r,l⟩:=hl j x v (by rw[hNX];exact g1) h5 vis;refine⟨u,r,.inr ?_⟩;have l':∃c,X.env.cells.lookup x=some c/\s.heap.IsCell c (some u):=by
     rcases l with⟨q,_⟩|⟨_,q⟩
     ·have q':X.env.scope.names.lookup x=some .local:=q;rw[hkX] at q';rcases fk with z|z
      ·rw[q'] at z;cases z
      rw[q'] at z;cases z
     exact q
    obtain⟨c,hc,oc,hoc,hd⟩:=l';obtain⟨c',hc'⟩:=hhas _ (PySem.mem_of_lookup g2) rfl;have ec:c'=c:=by
     have:=hsub x c' hc';rw[hc] at this;exact(Option.some.inj this).symm
    subst ec;refine⟨?_,c',hc',oc,hk _ _ hoc,hd⟩;rcases h3 with q|q|q
    ·rcases gw (env:=X.env) (names:=scope.names) q with z|⟨z,_⟩
     ·rw[g2] at z;cases z
     cases z
    ·exact .inl q
    exact .inr q
 cell:=fun x c e=>by
  obtain⟨v,o,h1,h2⟩:=I.cell x c (hsub x c e);exact⟨v,o,hk _ _ h1,h2⟩
 free:=I.hok.fresh hC
 freeC:=fun x c e=>I.freeC x c (hsub x c e)
 pin:=fun p hpp=>hp p (by simpa [bZ] using hpp)
 hok:=I.hok.kept hk
 len:=by
  show(mp.map _).length=N.length;rw[length_map];exact yu S.map
set_option maxHeartbeats 8000000 in
theorem T4 {tg iter elt:Expr}{ifs:List Expr}{pos:Pos}{wi:TI}{g:TG}{tc:TT}{te:TE}(N:List Str)(mp:List (Option Nat))(hNX:X.N=NX)(hkX:X.env.scope.names=kX)(S:yW NX kX N mp scope)(hc:X.calm=true)
  (hi:PI X tg iter wi) (hg:∀cl C s H fp,PG (bZ X N scope cl C s H fp) tg g) (ht:∀cl C s H fp,PTs (bZ X N scope cl C s H fp) ifs tc) (he:∀cl C s H fp,PE (bZ X N scope cl C s H fp) elt te)
  (hs:∀x,foldedSetIterable iter X.env x=pure x:=by intro _;rfl):PE X (.ListComp elt [⟨tg,iter,ifs,0⟩] scope pos) (uf mp wi g tc te):=by
 intro pins s σ H Q I h;obtain⟨cl,hcl,hsub,hhas⟩:=Iw (env:=X.env) (scope:=scope) fun y hy hf=>I.ok.has y.1 (by
  rcases S.fre y hy hf with q|q
  ·exact .inl (show X.env.scope.names.lookup y.1=_ by rw[hkX];exact q)
  exact .inr (show X.env.scope.names.lookup y.1=_ by rw[hkX];exact q))
 rw[eval_ListComp];refine wpAny_comprehension_free (use:=none) rfl hs hcl S.kind S.locs ?_;refine thn (hi pins s σ H _ I h) fun v s1 h1=>thn h1 fun itv s2 h2=>?_;obtain⟨it,fp,tn,J,H2,e,I2,T,st2,f2,W,⟨m0,w0⟩,turn⟩:=h2;subst e;refine wpAny_newObj_type (wpAny_newFunctionEnv S.nocell (by intro y hy;simp at hy) (fun h3 hns hsb=>?_) S.kind);dsimp only at hns hsb |-;have hold:∀b∈fp,b<s2.heap.objs.size:=fun b hb=>by
  obtain⟨o,q,_⟩:=T.obj _ _ st2 b hb;exact lt_size q
 generalize hD:s2.heap.objs.size=D at hns hsb;generalize hH2:s2.heap.push { cls:=.type "list",dict:=none,data:=.seq ([]:List Value).toArray }=P2 at hns hsb |-;have hC:P2.objs.size=D+1:=by rw[<- hH2,size_push,hD]
 generalize hC':P2.objs.size=C at hns hsb |-;rw[hC'] at hC;have old:∀b o,s2.heap.get? b=some o->h3.get? b=some o:=fun b o q=>by
  have hb:=lt_size q;exact hsb.extBut b o (na1 hb hD hC) (get?_push_of_some _ (hH2 ▸ get?_push_of_some _ q))
 have accD:h3.get? D=some { cls:=.type "list",data:=.seq ([]:List Value).toArray }:=
  hsb.extBut _ _ (na2 hC) (get?_push_of_some _ (by rw[<- hH2,<- hD];exact get?_push_size _ rfl))
 have hfr:D∉frs X.stack:=fun z=>by
  rcases mem_cons.mp (I2.uq D z) with q|q
  ·exact na0 I2.lt hD q.symm
  exact I2.XH (na4 hD) q
 have I0:Inv (bZ X N scope cl C s2 H2 fp) [(D,{ cls:=.type "list",data:=.seq ([]:List Value).toArray })] (lR mp σ) H2 { s2 with heap:=h3,toks:=s2.toks+([]:List (Str×Value)).length }:=
  Iv (s':={ s2 with heap:=h3,toks:=s2.toks+([]:List (Str×Value)).length }) hNX hkX S I2 f2 hold (na3 hD hC) hsub hhas rfl rfl ⟨_,hns⟩ old fun p hp=>by
   have ep:=mem_singleton.mp hp;subst ep;exact⟨accD,I2.hok.fresh (na4 hD),na2 hC,hfr,fun v z=>by cases z⟩
 have T0:tn 0 h3:=T.keep _ _ _ st2 fun b _ o q=>old b o q;have loop:∀z:Shared,z={ s2 with heap:=h3,toks:=s2.toks+([]:List (Str×Value)).length } ->
   codeAny (model X.prog X.w) X.A (.compLoop (.ListComp elt [⟨tg,iter,ifs,0⟩] scope pos) 0 (.ref it) (.ref D) (compEnvC scope cl C X.env))
    (compPost (model X.prog X.w) X.A X.xe none (EP X pins σ Q) (.ref D) C) z:=by
  rintro z rfl;have stat:∀{H':Hp}{pl:List (Addr×Obj)},(∀b∈fp,H' b=none)->(∀p∈pl,p.1=D)->∀b∈fp,rO (bZ X N scope cl C s2 H2 fp) pl H' b:=fun hn hp b hb=>by
   have hb2:=hold b hb;refine⟨hn b hb,na1 hb2 hD hC,(Gw hkX S I2 f2 hold (na3 hD hC) hsub hhas).exfs b hb,.inl hb,fun x c q=>(f2 b hb).2.2.2.2.1 x c (hsub x c q),fun p hpp=>?_⟩;have hpD:=hp p (by simpa [bZ] using hpp);rw[hpD];exact(na0 hb2 hD).symm
  refine yO (env:=compEnvC scope cl C X.env) (fun n z=>∃i acc τ H' its k,Inv (bZ X N scope cl C s2 H2 fp) [(D,{ cls:=.type "list",data:=.seq (List.toArray its) k })] τ H' z/\tn i z.heap/\(∀b∈fp,H' b=none)/\Vals acc its/\acc.length<=sizeLine/\W i n acc τ H')
   ?_ m0 ⟨0,[],_,H2,[],0,I0,T0,fun b hb=>(f2 b hb).1,.nil,zero_le _,w0⟩
  rintro n s5 ⟨i,acc,τ,H5,its,k,I5,st5,fr5,va,hz,w5⟩;rcases turn i n acc τ H5 w5 with⟨stop,qn⟩|⟨go,hz2,N9,hN9,step⟩
  ·refine thn (T.done (bZ X N scope cl C s2 H2 fp) rfl rfl rfl hc i _ s5 τ H5 _ I5 (stat fr5 (by simp)) st5 stop) fun r s6 ⟨hr,I6⟩=>?_;subst hr;obtain⟨m6,hn6,_⟩:=I6.loc;refine⟨m6,hn6,fun h' sb=>?_⟩;obtain⟨dD,nD,_,_,_⟩:=I6.pin (D,_) (mem_append_right _ (mem_singleton.mpr rfl));have U:=I6.base;have nC:H5 C=none:=I6.free;have ne:∀b o,s2.heap.get? b=some o->b≠C/\b≠D:=fun b o q=>by
    exact⟨na1 (lt_size q) hD hC,na0 (lt_size q) hD⟩
   have keepC:∀b o,b≠C->s6.heap.get? b=some o->h'.get? b=some o:=fun b o hb q=>(sb.2 b hb).trans q;have U':Un (frs X.stack) fp H2 (upd H5 D (.lst acc)) s2.heap h':=by
    refine⟨fun b o q n1 hb hx=>keepC b o (ne b o q).1 (U.keep b o q n1 hb hx),fun b o q n1 hb hx=>?_,fun b o q n1 hx=>?_,fun b o q hx=>?_,fun b xs q=>?_,fun b o xs q=>?_,fun b ps q=>?_⟩
    ·obtain⟨sl,z⟩:=U.slot b o q n1 hb hx;exact⟨sl,keepC b _ (ne b o q).1 z⟩
    ·rw[aH (ne b o q).2];exact U.free b o q n1 hx
    ·obtain⟨o',z⟩:=U.there b o q hx;exact⟨o',keepC b _ (ne b o q).1 z⟩
    ·have z:=U.tups b xs q;rw[aH (aF z nD)];exact z
    ·have z:=U.frzs b o xs q;rw[aH (aF z nD)];exact z
    obtain⟨more,z⟩:=U.tbls b ps q;exact⟨more,by rw[aH (aF z nD)];exact z⟩
   have hok:HOk X.prog X.w (upd H5 D (.lst acc)) h':=fun b u q=>by
    by_cases hb:b=D
    ·subst hb;rw[aB] at q;cases q;exact⟨hz,its,k,va,keepC _ _ (na2 hC) dD⟩
    rw[aH hb] at q;refine(I6.hok b u q).stay (fun c v hcc z=>keepC c v ?_ z) (fun c z=>by rw[aH (aF z nD)];exact z) fun c xs z=>by rw[aH (aF z nD)];exact z
    rcases hcc with z1|z1
    ·subst z1;exact aF q nC
    exact aF z1 nC
   have I7:Inv X pins σ (upd H5 D (.lst acc)) { s6 with heap:=h' }:=I2.call' (s':={ s6 with heap:=h' }) (ch:=fp) I6.os U' hok I6.bare fun b hb=>by
    obtain⟨_,a2,_,a4,a5,a6⟩:=f2 b hb;exact⟨a4,a2,a5,a6⟩
   exact⟨.ref D,_,I7,rfl,qn D nD⟩
  refine thn (T.item (bZ X N scope cl C s2 H2 fp) rfl rfl rfl hc i _ s5 τ H5 _ I5 (stat fr5 (by simp)) st5 go) fun r s6 ⟨u,hr,h6⟩=>?_;subst hr;refine thn h6 fun _ s7 ⟨x,H7,I7,r7,y7,st7,fr7⟩=>?_;have I7':=I7.pinned (stat fr7 (by simp)) (T.obj _ _ st7);have no:∀{α:Type}{t:Sem α}{Q1 Q2:α->Shared->Prop}{E:Value->Shared->Prop}{z:Shared},wpAny (model X.prog X.w) X.A t Q1 (fun _ _=>False) z->(∀a z,Q1 a z->Q2 a z)->wpAny (model X.prog X.w) X.A t Q2 E z:=
   fun q f=>wpAny_mono q f fun _ _ z=>z.elim
  refine no (hg cl C s2 H2 fp _ s7 τ H7 x u _ I7' r7 (step x H7 y7)) fun _ s8 ⟨τ1,H8,I8,q8⟩=>?_;refine no (ht cl C s2 H2 fp _ s8 τ1 H8 _ I8 q8) fun ok s9 ⟨H9,I9,q9⟩=>?_;have again:∀{H':Hp}{z:Shared}{its':List Value}{k':Nat},Inv (bZ X N scope cl C s2 H2 fp) ([(D,{ cls:=.type "list",data:=.seq (List.toArray its') k' })]++jH fp s7.heap) τ1 H' z ->
    tn (i+1) z.heap/\(∀b∈fp,H' b=none)/\Inv (bZ X N scope cl C s2 H2 fp) [(D,{ cls:=.type "list",data:=.seq (List.toArray its') k' })] τ1 H' z:=fun {H' z its' k'} Iz=>by
   have get:∀b∈fp,∀o,s7.heap.get? b=some o->z.heap.get? b=some o/\H' b=none:=fun b hb o q=>by
    obtain⟨a1,a2,_⟩:=Iz.pin (b,o) (mem_append_right _ (mem_append_right _ (lA hb q)));exact⟨a1,a2⟩
   refine⟨T.keep _ _ _ st7 fun b hb o q=>(get b hb o q).1,fun b hb=>?_,Iz.lQ⟩;obtain⟨o,q,_⟩:=T.obj _ _ st7 b hb;exact(get b hb o q).2
  cases ok with
  | false=>
   rw[if_neg Bool.false_ne_true] at q9 |-;obtain⟨m',hm,w9⟩:=hN9 _ _ _ q9;obtain⟨a1,a2,a3⟩:=again I9;exact⟨m',hm,i+1,acc,τ1,H9,its,k,a3,a1,a2,va,hz,w9⟩
  | true=>
   rw[if_pos rfl] at q9 |-;refine no (he cl C s2 H2 fp _ s9 τ1 H9 _ I9 q9) fun y s10 ⟨v,H10,I10,rv,q10⟩=>?_;obtain⟨m',hm,w10⟩:=hN9 _ _ _ q10;obtain⟨a1,a2,a3⟩:=again I10;obtain⟨dD,nD,_,_,_⟩:=a3.pin (D,_) (mem_append_right _ (mem_singleton.mpr rfl));have hlen:=va.length;refine call_meets F.slot_list_append ⟨_,dD,rfl⟩ F.entry_list_append (F.args_list_append_2 _ _) (PySem.list_append D its.toArray k y (by rw[size_toArray];omega)) ⟨dD,?_⟩;obtain⟨k',q⟩:∃k',(s10.heap.update D (Obj.mapSeq fun a=>a.push y)).get? D=some { cls:=.type "list",data:=.seq (its++[y]).toArray k' }:=by
    have q:=PySem.IsL.update dD (fun a=>a.push y);rw[show its.toArray.push y=(its++[y]).toArray by simp] at q;exact⟨_,q⟩
   have a4:Inv (bZ X N scope cl C s2 H2 fp) (jH fp s7.heap) τ1 H10 s10:=I10.nA fun p hp=>I10.pin p (mem_append_right _ (mem_append_right _ hp));have a5:Inv (bZ X N scope cl C s2 H2 fp) (jH fp s7.heap) τ1 H10 { s10 with heap:=s10.heap.update D (Obj.mapSeq fun a=>a.push y),toks:=s10.toks }:=
    a4.turned (it:=D) (fun b o hb z=>(get?_update_other _ _ (Ne.symm hb)).trans z) nD (na2 hC) (.inr (na4 hD))
     (fun x c z=>by
      obtain⟨_,o,h1,_⟩:=I2.cell x c (hsub x c z);exact na0 (lt_size h1) hD) fun p hp=>by
      have hb:=(qX (by simpa [bZ] using hp)).1;exact na0 (hold _ hb) hD
   obtain⟨b1,b2,b3⟩:=(show tn (i+1) (s10.heap.update D (Obj.mapSeq fun a=>a.push y))/\(∀b∈fp,H10 b=none)/\True from
    ⟨T.keep _ _ _ a1 fun b hb o z=>(get?_update_other _ _ (na0 (hold b hb) hD).symm).trans z,a2,trivial⟩)
   refine⟨m',hm,i+1,acc++[v],τ1,H10,its++[y],k',a5.nA fun p hp=>?_,b1,b2,va.append (.cons rv .nil),by rw[length_append,length_singleton];omega,w10⟩;have ep:=mem_singleton.mp hp;subst ep;exact⟨q,nD,na2 hC,hfr,fun v z=>by cases z⟩
 have e1:{ newEnv scope C X.env.globals cl X.env.qual none .none (some X.env) X.env.builtins with scope:=relabel scope X.env }=compEnvC scope cl C X.env:=rfl;exact codeAny_compStart_list (loop _ rfl) (T.self _ 0 _ _ _ T0 (loop _ rfl))
end
section
variable {X:Cx}{pins:List (Addr×Obj)}{σ:St}{H:Hp}{s:Shared}
theorem Inv.xu {ch:List Addr}{h':Heap}{t':Nat}(I:Inv X pins σ H s)(hf:∀b∈ch,rO X pins H b)(k:∀b o,b∉ch->s.heap.get? b=some o->h'.get? b=some o):Inv X pins σ H { s with heap:=h',toks:=t' }:=by
 have nit:∀b u,H b=some u->b∉ch:=fun b u e z=>by rw[(hf b z).1] at e;cases e
 refine I.step (g':=s.gens) (d':=s.drawn) (ch:=ch) (fun b hb=>?_) (fun b o _ _ hc e _=>k b o hc e) (fun b o _ _ hc e _=>⟨o.slots,k b o hc e⟩) (fun _ _ _ _ n=>n)
  (fun b o hc e=>⟨o,k b o hc e⟩) (fun _ _ e=>e) (fun _ _ _ e=>e) (fun b ps e=>⟨#[],by rw[e];simp⟩) (fun m hm=>?_) (fun b u e=>?_) I.bare
 ·obtain⟨_,a2,_,a4,a5,a6⟩:=hf b hb;exact⟨a4,a2,a5,a6⟩
 ·obtain⟨o,es,ep,ho,r⟩:=hm;exact⟨o,es,ep,k _ o (fun z=>(hf _ z).2.1 rfl) ho,r⟩
 refine(I.hok b u e).stay (fun c v hc q=>k c v ?_ q) (fun _ q=>q) fun _ _ q=>q;rcases hc with z|z
 ·rw[z];exact nit b u e
 exact nit c _ z
theorem Inv.xr {ch:List Addr}{h':Heap}{t':Nat}{p:Addr}{o:HO}(I:Inv X pins σ H s)(hf:∀b∈ch,rO X pins H b)(k:∀b o,b∉ch->s.heap.get? b=some o->h'.get? b=some o)(hp:s.heap.objs.size<=p)
  (new:bN X.prog X.w (upd H p o) h' p o):Inv X pins σ (upd H p o) { s with heap:=h',toks:=t' }:=by
 have hn:H p=none:=I.hok.fresh hp;have nit:∀b u,H b=some u->b∉ch:=fun b u e z=>by rw[(hf b z).1] at e;cases e
 have lt:∀b u,s.heap.get? b=some u->b≠p:=fun b u e=>ne_of_lt (lt_of_lt_of_le (lt_size e) hp);refine I.step (g':=s.gens) (d':=s.drawn) (ch:=ch) (fun b hb=>?_) (fun b o _ _ hc e _=>k b o hc e) (fun b o _ _ hc e _=>⟨o.slots,k b o hc e⟩) (fun b o _ e n=>by rw[aH (lt b o e)];exact n)
  (fun b o hc e=>⟨o,k b o hc e⟩) (fun b xs e=>by rw[aH (aF e hn)];exact e) (fun b u xs e=>by rw[aH (aF e hn)];exact e) (fun b ps e=>⟨#[],by rw[aH (aF e hn),e];simp⟩) (fun m hm=>?_) (fun b u e=>?_) I.bare
 ·obtain⟨_,a2,_,a4,a5,a6⟩:=hf b hb;exact⟨a4,a2,a5,a6⟩
 ·obtain⟨o,es,ep,ho,r⟩:=hm;exact⟨o,es,ep,k _ o (fun z=>(hf _ z).2.1 rfl) ho,r⟩
 by_cases hb:b=p
 ·subst hb;rw[aB] at e;cases e;exact new
 rw[aH hb] at e;refine(I.hok b u e).stay (fun c v hc q=>k c v ?_ q) (fun c q=>by rw[aH (aF q hn)];exact q) fun c xs q=>by rw[aH (aF q hn)];exact q
 rcases hc with z|z
 ·rw[z];exact nit b u e
 exact nit c _ z
end
noncomputable def Itz (K:PySem.W.Frag)(a b:Addr):It:=
 ⟨fun i H=>∃xs ys x y,SqL K H a xs/\SqL K H b ys/\xs[i]?=some x/\ys[i]?=some y,
  fun i H v H'=>∃p x y,v=.ref p/\H p=none/\H'=upd H p (.tup [x,y])/\(∀xs,SqL K H a xs->xs[i]?=some x)/\∀ys,SqL K H b ys->ys[i]?=some y,
  fun i H=>∃xs ys,SqL K H a xs/\SqL K H b ys/\(xs[i]?=none\/ys[i]?=none)⟩
theorem Lg {P:Program}{w:World}{K:PySem.W.Frag}{es:List Expr}{kk:Nat}{tpos:Pos}{z TI TO i1 i2 l1 l2:Addr}(D:ZipApart z TI TO i1 i2 l1 l2) :
  Turn P w K (.Tuple es kk tpos) (Itz K l1 l2) [z,TI,TO,i1,i2] z (fun i h=>IsZip h z TI TO .none/\IsPair h TI (.ref i1) (.ref i2)/\(∃a b,IsPair h TO a b)/\h.IsListIter i1 l1 i/\h.IsListIter i2 l2 i) where
 mem:=by simp
 obj:=fun i h st b hb=>by
  obtain⟨hz,hTI,⟨a,b',hTO⟩,⟨o1,e1,c1,d1⟩,⟨o2,e2,c2,d2⟩⟩:=st;simp only[mem_cons,not_mem_nil,or_false] at hb;rcases hb with rfl|rfl|rfl|rfl|rfl
  ·exact⟨_,hz,fun v q=>by cases q⟩
  ·exact⟨_,hTI,fun v q=>by cases q⟩
  ·exact⟨_,hTO,fun v q=>by cases q⟩
  ·exact⟨o1,e1,fun v q=>by rw[d1] at q;cases q⟩
  exact⟨o2,e2,fun v q=>by rw[d2] at q;cases q⟩
 keep:=fun i h h' st k=>by
  obtain⟨hz,hTI,⟨a,b',hTO⟩,h1,h2⟩:=st;exact⟨k z (by simp) _ hz,k TI (by simp) _ hTI,⟨a,b',k TO (by simp) _ hTO⟩,h1.at fun o e=>k i1 (by simp) o e,h2.at fun o e=>k i2 (by simp) o e⟩
 item:=by
  intro X hP hw hK hc i pins s σ H E I hf st hg;subst hP hw hK;obtain⟨xs,ys,x,y,q1,q2,hx,hy⟩:=hg;obtain⟨its1,rv1,p1,hz1⟩:=I.list q1;obtain⟨its2,rv2,p2,hz2⟩:=I.list q2;obtain⟨u1,hu1,ru1⟩:=rv1.get hx;obtain⟨u2,hu2,ru2⟩:=rv2.get hy;obtain⟨hz,hTI,⟨a,b',hTO⟩,h1,h2⟩:=st;refine wpAny_pyNext_zip_item D hz hTI hTO h1 h2 p1.isList p2.isList (x:=u1) (y:=u2) (by simpa using hu1) (by simpa using hu2) fun h' a1 a2 a3 a4 a5 a6 hk=>?_;have new:bN X.prog X.w (upd H s.heap.objs.size (.tup [x,y])) h' s.heap.objs.size (.tup [x,y]):=⟨by show 2<=sizeLine;decide,[u1,u2],.cons ru1 (.cons ru2 .nil),_,a5,rfl,_,rfl⟩;have I1:Inv X pins σ (upd H s.heap.objs.size (.tup [x,y])) { s with heap:=h' }:=I.xr (t':=s.toks) (ch:=[z,TO,i1,i2]) (fun b hb=>hf b (by
   simp only[mem_cons,not_mem_nil,or_false] at hb |-;rcases hb with r|r|r|r <;> simp [r]))
   (fun b o hb e=>hk b o (fun q=>hb (by simp [q])) (fun q=>hb (by simp [q])) (fun q=>hb (by simp [q])) (fun q=>hb (by simp [q])) e) (le_refl _) new
  have hTI':IsPair h' TI (.ref i1) (.ref i2):=hk _ _ D.TIz D.TITO D.TIi1 D.TIi2 hTI;have hsz:∀b,b∈[z,TI,TO,i1,i2]->b≠s.heap.objs.size:=fun b hb=>by
   obtain⟨_,_,hlt,_⟩:=hf b hb;have lt:∃o,s.heap.get? b=some o:=by
    simp only[mem_cons,not_mem_nil,or_false] at hb;rcases hb with rfl|rfl|rfl|rfl|rfl
    ·exact⟨_,hz⟩
    ·exact⟨_,hTI⟩
    ·exact⟨_,hTO⟩
    ·obtain⟨o,e,_⟩:=h1;exact⟨o,e⟩
    obtain⟨o,e,_⟩:=h2;exact⟨o,e⟩
   obtain⟨o,e⟩:=lt;exact ne_of_lt (lt_size e)
  refine⟨_,rfl,wpAny_letOwnedTupleGo_zip (s:={ s with heap:=h' }) a1 fun h'' z2 sb=>?_⟩;have fz:=hf z (by simp);have I2:Inv X pins σ (upd H s.heap.objs.size (.tup [x,y])) { s with heap:=h'' }:=Inv.turned (s:={ s with heap:=h' }) (it:=z) (t':=s.toks) I1 (fun b o hb e=>(sb.2 b hb).trans e) (by rw[aH (hsz z (by simp))];exact fz.1) fz.2.1 fz.2.2.2.1 fz.2.2.2.2.1 fz.2.2.2.2.2;refine⟨.ref s.heap.objs.size,_,I2,rfl,⟨_,x,y,rfl,I.fresh,rfl,fun xs' q=>by rw[I.mU q q1];exact hx,fun ys' q=>by rw[I.mU q q2];exact hy⟩,
   ⟨z2,(sb.2 _ D.TIz).trans hTI',⟨_,_,(sb.2 _ D.TOz).trans a2⟩,a3.extBut sb.extBut D.i1z,a4.extBut sb.extBut D.i2z⟩,fun b hb=>by rw[aH (hsz b hb)];exact(hf b hb).1⟩
 done:=by
  intro X hP hw hK hc i pins s σ H E I hf st hg;subst hP hw hK;obtain⟨xs,ys,q1,q2,hx⟩:=hg;obtain⟨its1,rv1,p1,hz1⟩:=I.list q1;obtain⟨its2,rv2,p2,hz2⟩:=I.list q2;obtain⟨hz,hTI,⟨a,b',hTO⟩,h1,h2⟩:=st;have hend:its1.toArray[i]?=none\/its2.toArray[i]?=none:=by
   rcases hx with r|r
   ·exact .inl (by simpa using rv1.none_of r)
   exact .inr (by simpa using rv2.none_of r)
  refine wpAny_pyNext_zip_end (I.ok.hd hc) D hz hTI hTO h1 h2 p1.isList p2.isList hend fun h' hk=>⟨rfl,?_⟩;exact I.xu (t':=s.toks) (ch:=[z,TO,i1,i2]) (fun b hb=>hf b (by
   simp only[mem_cons,not_mem_nil,or_false] at hb |-;rcases hb with r|r|r|r <;> simp [r]))
   (fun b o hb e=>hk b o (fun q=>hb (by simp [q])) (fun q=>hb (by simp [q])) (fun q=>hb (by simp [q])) (fun q=>hb (by simp [q])) e)
 self:=fun _ _ _ _ _ st h=>wpAny_pyIter_zip st.1 h
noncomputable def Ite (K:PySem.W.Frag)(a:Addr):It:=
 ⟨fun i H=>∃xs x,SqL K H a xs/\xs[i]?=some x,
  fun i H v H'=>∃p x,v=.ref p/\H p=none/\H'=upd H p (.tup [.int (i:Nat),x])/\∀xs,SqL K H a xs->xs[i]?=some x,
  fun i H=>∃xs,SqL K H a xs/\xs[i]?=none⟩
theorem Jh {P:Program}{w:World}{K:PySem.W.Frag}{es:List Expr}{kk:Nat}{tpos:Pos}{e it l:Addr}(hne:e≠it) :
  Turn P w K (.Tuple es kk tpos) (Ite K l) [e,it] e (fun i h=>(∃old,IsEnum h e it ((i:Nat):Int) old)/\h.IsListIter it l i) where
 mem:=by simp
 obj:=fun i h st b hb=>by
  obtain⟨⟨old,he⟩,⟨o1,e1,c1,d1⟩⟩:=st;simp only[mem_cons,not_mem_nil,or_false] at hb;rcases hb with rfl|rfl
  ·exact⟨_,he,fun v q=>by cases q⟩
  exact⟨o1,e1,fun v q=>by rw[d1] at q;cases q⟩
 keep:=fun i h h' st k=>by
  obtain⟨⟨old,he⟩,h1⟩:=st;exact⟨⟨old,k e (by simp) _ he⟩,h1.at fun o q=>k it (by simp) o q⟩
 item:=by
  intro X hP hw hK hc i pins s σ H E I hf st hg;subst hP hw hK;obtain⟨xs,x,q1,hx⟩:=hg;obtain⟨its1,rv1,p1,hz1⟩:=I.list q1;obtain⟨u1,hu1,ru1⟩:=rv1.get hx;obtain⟨⟨old,he⟩,h1⟩:=st;refine wpAny_pyNext_enum_item he h1 p1.isList (x:=u1) (by simpa using hu1) hne fun h' a1 a2 a3 a4 hk=>?_;have new:bN X.prog X.w (upd H s.heap.objs.size (.tup [.int (i:Nat),x])) h' s.heap.objs.size (.tup [.int (i:Nat),x]):=⟨by show 2<=sizeLine;decide,[.int (i:Nat) s.toks,u1],.cons ⟨_,rfl⟩ (.cons ru1 .nil),_,a3,rfl,_,rfl⟩;have I1:Inv X pins σ (upd H s.heap.objs.size (.tup [.int (i:Nat),x])) { s with heap:=h',toks:=s.toks+1 }:=I.xr (ch:=[e,it]) hf
   (fun b o hb q=>hk b o (fun z=>hb (by simp [z])) (fun z=>hb (by simp [z])) q) (le_refl _) new
  have hsz:∀b,b∈[e,it]->b≠s.heap.objs.size:=fun b hb=>by
   have lt:∃o,s.heap.get? b=some o:=by
    simp only[mem_cons,not_mem_nil,or_false] at hb;rcases hb with rfl|rfl
    ·exact⟨_,he⟩
    obtain⟨o,q,_⟩:=h1;exact⟨o,q⟩
   obtain⟨o,q⟩:=lt;exact ne_of_lt (lt_size q)
  refine⟨_,rfl,wpAny_letOwnedTupleGo_enum (s:={ s with heap:=h',toks:=s.toks+1 }) a1 fun h'' z2 sb=>?_⟩;have fz:=hf e (by simp);have I2:Inv X pins σ (upd H s.heap.objs.size (.tup [.int (i:Nat),x])) { s with heap:=h'',toks:=s.toks+1 }:=Inv.turned (s:={ s with heap:=h',toks:=s.toks+1 }) (it:=e) I1 (fun b o hb q=>(sb.2 b hb).trans q) (by rw[aH (hsz e (by simp))];exact fz.1) fz.2.1 fz.2.2.2.1 fz.2.2.2.2.1 fz.2.2.2.2.2;refine⟨.ref s.heap.objs.size,_,I2,rfl,⟨_,x,rfl,I.fresh,rfl,fun xs' q=>by rw[I.mU q q1];exact hx⟩,
   ⟨⟨_,by simpa using z2⟩,a2.extBut sb.extBut hne.symm⟩,fun b hb=>by rw[aH (hsz b hb)];exact(hf b hb).1⟩
 done:=by
  intro X hP hw hK hc i pins s σ H E I hf st hg;subst hP hw hK;obtain⟨xs,q1,hx⟩:=hg;obtain⟨its1,rv1,p1,hz1⟩:=I.list q1;obtain⟨⟨old,he⟩,h1⟩:=st;refine wpAny_pyNext_enum_end (I.ok.hd hc) he h1 p1.isList (by simpa using rv1.none_of hx) fun h' hk=>⟨rfl,?_⟩;exact I.xu (t':=s.toks) (ch:=[e,it]) hf (fun b o hb q=>hk b o (fun z=>hb (by simp [z])) q)
 self:=fun _ _ _ _ _ st h=>by
  obtain⟨⟨old,he⟩,_⟩:=st;exact wpAny_pyIter_enum he h
theorem Vals.bools:∀{bs:List Bool}{us:List Value},Vals (bs.map V.bl) us->us=bs.map Value.bool
 | [],_,.nil=>rfl
 | _::_,_,.cons r t=>by rw[Vals.bools t,(show _=Value.bool _ from r)];rfl
section
variable {X:Cx}
theorem KD (bs:List Bool):((List.range bs.length).all fun i=>(bs[i]?).getD true)=bs.all id:=by
 rw[Bool.eq_iff_iff,all_eq_true,all_eq_true];constructor
 ·intro h b hb;obtain⟨i,hi,rfl⟩:=List.getElem_of_mem hb;have:=h i (mem_range.mpr hi);rw[getElem?_eq_getElem hi] at this;exact this
 intro h i hi;have hi':=mem_range.mp hi;rw[getElem?_eq_getElem hi'];exact h _ (getElem_mem hi')
noncomputable def WR (K:PySem.W.Frag)(f:List Bool->Bool):List V->Hp->VK->Prop:=fun xs H Q=>∃p bs,xs=[.ref p]/\SqL K H p (List.map V.bl bs)/\Q (.bl (f bs)) H
theorem Q5 (hc:X.calm=true):cV X (.builtin "all") (WR X.K fun bs=>bs.all id):=by
 intro pins s σ H xs us Q I r h;obtain⟨p,bs,rfl,hq,q⟩:=h;cases r with
 | cons r rr=>
  cases rr;cases r;obtain⟨its,rv,pl,hz⟩:=I.list hq;have e:=rv.bools;subst e;have lt:p<s.heap.objs.size:=by obtain⟨_,e,_⟩:=pl.isList;exact lt_size e
  refine call_all_walk (wpAny_pyIter_list pl.isList ?_);refine⟨s.heap.objs.size,[s.heap.objs.size,p],[s.heap.objs.size],(bs.map Value.bool).toArray.size,_,_,fun i=>(bs[i]?).getD true,rfl,Walks.list (A:=X.A.in1) (I.ok.hd hc) _ p (ne_of_lt lt) _,
   ⟨⟨_,get?_push_size _ rfl,rfl,rfl⟩,pl.isList.push _⟩,fun i v s' Q' E' hP hQ=>?_,fun h' tk hk=>?_⟩
  ·have e:(bs.map Value.bool)[i]?=some v:=by simpa using hP
   rw[getElem?_map] at e;cases z:bs[i]? with
   | none=>rw[z] at e;cases e
   | some b=>
    rw[z] at e;have e':Value.bool b=v:=Option.some.inj e;subst e';dsimp only at hQ;rw[z] at hQ;exact wpAny_truthy_bool hQ
  rw[size_toArray,length_map,KD];refine⟨.bl _,H,I.kept fun b o e=>hk b o (fun hm=>?_) (get?_push_of_some _ e),rfl,q⟩;rw[mem_singleton.mp hm] at e;exact lt_irrefl _ (lt_size e)
noncomputable def ZV (K:PySem.W.Frag):List V->Hp->VK->Prop:=fun xs H Q=>∃x T t b,xs=[x,.ty T]/\oh K H x t/\kitOne K t (.type T)=some b/\Q (.bl b) H
theorem Q0:cV X (.builtin "isinstance") (ZV X.K):=by
 intro pins s σ H xs us Q I r h;obtain⟨x,T,t,b,rfl,ty,e,q⟩:=h;cases r with
 | cons r rr=>
  cases rr with
  | cons r' rr=>
   cases rr;cases (show _=Value.type T from r');exact J4 I r ty e fun tk=>⟨.bl b,H,I.tok tk,rfl,q⟩
noncomputable def YZ (K:PySem.W.Frag):List V->Hp->VK->Prop:=fun xs H Q=>∃x p Ts t b,xs=[x,.ref p]/\SqT K H p (List.map V.ty Ts)/\oh K H x t/\PySem.W.kitAny K t (Ts.map Value.type)=some b/\Q (.bl b) H
theorem Vals.types:∀{bs:List String}{us:List Value},Vals (bs.map V.ty) us->us=bs.map Value.type
 | [],_,.nil=>rfl
 | _::_,_,.cons r t=>by rw[Vals.types t,(show _=Value.type _ from r)];rfl
theorem Z8 {x:V}{u t:Value}{pins:List (Addr×Obj)}{σ:St}{H:Hp}{s:Shared}(I:Inv X pins σ H s)(rx:RelV x u)(ty:oh X.K H x t)(hl:∀a C dx fs,H a=some (.ins C dx fs)->x≠.ref a) :
  ∃Hh:Heap->Prop,PySem.W.KitX X.K u t Hh/\Hh s.heap/\u≠.builtin "__main__.__loader__#opaque" := by
 cases ty with
 | non=>cases (show u=Value.none from rx);exact⟨_,PySem.W.kitx_none,True.intro,fun z=>nomatch z⟩
 | bl y=>cases (show u=Value.bool y from rx);exact⟨_,PySem.W.kitx_bool,True.intro,fun z=>nomatch z⟩
 | int i=>obtain⟨t,q⟩:=(show ∃t,u=Value.int i t from rx);cases q;exact⟨_,PySem.W.kitx_int,True.intro,fun z=>nomatch z⟩
 | str y=>obtain⟨t,q⟩:=(show ∃t,u=Value.str y t from rx);cases q;exact⟨_,PySem.W.kitx_str,True.intro,fun z=>nomatch z⟩
 | flt y=>obtain⟨t,q⟩:=(show ∃t,u=Value.float y t from rx);cases q;exact⟨_,PySem.W.kitx_float,True.intro,fun z=>nomatch z⟩
 | @lst a xs ea=>
  cases (show u=Value.ref a from rx);obtain⟨_,_,n,_,h1⟩:=(show bN X.prog X.w H s.heap a (.lst xs) from I.hok a _ ea);exact⟨_,PySem.W.kitx_list,⟨_,h1,rfl⟩,fun z=>nomatch z⟩
 | @frz a ob xs ea=>
  cases (show u=Value.ref a from rx);obtain⟨_,_,_,n,_,h1⟩:=(show bN X.prog X.w H s.heap a (.frz ob (.lst xs)) from I.hok a _ ea);exact⟨_,PySem.W.kitx_list,⟨_,h1,rfl⟩,fun z=>nomatch z⟩
 | @tup a xs ea=>
  cases (show u=Value.ref a from rx);obtain⟨_,_,_,p⟩:=(show bN X.prog X.w H s.heap a (.tup xs) from I.hok a _ ea);obtain⟨o,h1,h2,_⟩:=p;exact⟨_,PySem.W.kitx_tuple,⟨o,h1,h2⟩,fun z=>nomatch z⟩
 | @dK a kvs ea=>
  cases (show u=Value.ref a from rx);obtain⟨_,_,vs,_,p⟩:=(show bN X.prog X.w H s.heap a (.dK kvs) from I.hok a _ ea);obtain⟨o,es,ep,h1,h2,_⟩:=p;exact⟨_,PySem.W.kitx_dict,⟨o,h1,h2.1⟩,fun z=>nomatch z⟩
 | @dT a kvs ea=>
  cases (show u=Value.ref a from rx);obtain⟨_,_,xs,_,o,es,ep,h1,h2,_⟩:=(show bN X.prog X.w H s.heap a (.dT kvs) from I.hok a _ ea);exact⟨_,PySem.W.kitx_dict,⟨o,h1,h2.1⟩,fun z=>nomatch z⟩
 | @ins a C dx fs ea cl ha hn htk hm=>exact absurd rfl (hl a C dx fs ea)
theorem Kv:cV X (.builtin "isinstance") (fun xs H Q=>YZ X.K xs H Q/\∀a C dx fs,H a=some (.ins C dx fs)->xs.head?≠some (.ref a)):=by
 intro pins s σ H xs us Q I r h;obtain⟨⟨x,p,Ts,t,b,rfl,hq,ty,e,q⟩,hl⟩:=h;cases r with
 | cons r rr=>
  cases rr with
  | cons r' rr=>
   cases rr;cases r';obtain⟨Hh,Z,hh,ne⟩:=Z8 I r ty fun a C dx fs z w'=>hl a C dx fs z (by rw[w'];rfl);obtain⟨its,rv,⟨o,ho,hcl,n,hd⟩,hz⟩:=I.tuple hq;have ei:=rv.types;subst ei;obtain⟨c0,d0,dt0,sl0⟩:=o;cases (show c0=Value.type "tuple" from hcl);cases (show dt0=Data.seq (List.map Value.type Ts).toArray n from hd);exact PySem.W.kia_tup Z I.kIn hh ho e ne fun tk=>⟨.bl b,H,I.tok tk,rfl,q⟩
end
inductive Tn (H:Hp):V->String->Prop where
 | non:Tn H .non "NoneType"
 | bl (b:Bool):Tn H (.bl b) "bool"
 | int (i:Int):Tn H (.int i) "int"
 | str (x:Str):Tn H (.str x) "str"
 | lst {a:Addr} {xs:List V} (e:H a=some (.lst xs)):Tn H (.ref a) "list"
 | tup {a:Addr} {xs:List V} (e:H a=some (.tup xs)):Tn H (.ref a) "tuple"
theorem Tn.ty {K:PySem.W.Frag}{H:Hp}{x:V}{t:String}(h:Tn H x t):oh K H x (.type t):=by
 cases h with
 | non=>exact .non
 | bl b=>exact .bl b
 | int i=>exact .int i
 | str x=>exact .str x
 | lst e=>exact .lst e
 | tup e=>exact .tup e
noncomputable def fV (t T:String):Bool:=t == T||(t == "bool" && T == "int")
noncomputable def dg:List String:=["NoneType","bool","int","str","list","tuple"]
theorem Ia (K:PySem.W.Frag):∀t∈dg,∀T∈dg,kitOne K (.type t) (.type T)=some (fV t T):=by
 intro t ht T hT;simp only[dg,mem_cons,not_mem_nil,or_false] at ht hT;rcases ht with rfl|rfl|rfl|rfl|rfl|rfl <;> rcases hT with rfl|rfl|rfl|rfl|rfl|rfl <;> first|rfl|kernel_rfl
theorem Tn.known {H:Hp}{x:V}{t:String}(h:Tn H x t):t∈dg:=by cases h <;> decide
section
variable {X:Cx}
theorem Kz:cV X (.builtin "isinstance") (fun xs H Q=>∃x T t,xs=[x,.ty T]/\Tn H x t/\T∈dg/\Q (.bl (fV t T)) H):=by
 intro pins s σ H xs us Q I r h;obtain⟨x,T,t,rfl,ty,hT,q⟩:=h;exact Q0 pins s σ H _ us Q I r ⟨x,T,_,_,rfl,ty.ty,Ia X.K t ty.known T hT,q⟩
theorem Ib (K:PySem.W.Frag){t:String}(ht:t∈dg):∀Ts:List String,(∀T∈Ts,T∈dg)->PySem.W.kitAny K (.type t) (Ts.map Value.type)=some (Ts.any fun T=>fV t T)
 | [],_=>rfl
 | T::r,h=>by
  have e:=Ia K t ht T (h T mem_cons_self);have ih:=Ib K ht r fun T' h'=>h T' (mem_cons_of_mem _ h');show(match kitOne K (.type t) (.type T) with|some true=>some true|some false=>PySem.W.kitAny K (.type t) (r.map Value.type)|none=>none)=_
  rw[e,any_cons];cases fV t T with
  | true=>rfl
  | false=>exact ih
theorem Ky:cV X (.builtin "isinstance") (fun xs H Q=>∃x p Ts t,xs=[x,.ref p]/\H p=some (.tup (List.map V.ty Ts))/\Tn H x t/\(∀T∈Ts,T∈dg)/\Q (.bl (Ts.any fun T=>fV t T)) H):=by
 intro pins s σ H xs us Q I r h;obtain⟨x,p,Ts,t,rfl,hp,ty,hT,q⟩:=h;refine Kv pins s σ H _ us Q I r ⟨⟨x,p,Ts,_,_,rfl,SqT.of hp,ty.ty,Ib X.K ty.known Ts hT,q⟩,fun a C dx fs e z=>?_⟩;have z':x=.ref a:=by simpa using z
 subst z';cases ty with
 | lst e'=>rw[e] at e';cases e'
 | tup e'=>rw[e] at e';cases e'
noncomputable def Wg (i j:Int):Prop:=0<j/\j<2^70
theorem p8:OpR X (binaryOp .FloorDiv) (rI Wg fun i j=>.int (i/j)):=opI fun i j _ _ _ _ _ hc q=>by
 have h1:(0:Int)<j:=hc.1;have h2:j<2^70:=hc.2;refine floordiv_int ω (by rw[Int.fdiv_eq_ediv_of_nonneg i ω];exact q) (.inl (PyProof.noPylong_of_log2 ?_));have h3:j.natAbs≠0:=ω;have h4:j.natAbs.log2<70:=(Nat.log2_lt h3).mpr ω;omega
end
noncomputable def cF (p:Addr)(H H':Hp):Prop:=∀b o,b≠p->H b=some o->H' b=some o
theorem cF.refl (p:Addr)(H:Hp):cF p H H:=fun _ _ _ h=>h
theorem cF.trans {p:Addr}{H H1 H2:Hp}(a:cF p H H1)(b:cF p H1 H2):cF p H H2:=fun c o n h=>b c o n (a c o n h)
theorem cF.upd {p:Addr}{H:Hp}{o:HO}:cF p H (upd H p o):=fun b u n h=>by rw[aH n];exact h
theorem Same.x {p:Addr}{H H':Hp}(h:Same H H'):cF p H H':=fun b o _ q=>h b o q
theorem au {H:Hp}{p:Addr}{o:HO}(h:H p=none):Same H (upd H p o):=fun b u q=>by rw[aH (aF q h)];exact q
structure Cal (P:Program)(w:World)(K:PySem.W.Frag)(mg:Str->Option Value)(base:Heap)(x:Str)(k:Nat)(ps:List Str)(sp:Sp):Prop where
 ex:∃(f:Addr)(fd:FuncData),dF P w K mg base CX0 k f fd ps sp/\Binds K fd ps []/\keepIn K (.ref f)=true/\mg x=some (.ref f)
section
variable {X:Cx}{k:Nat}{ps:List Str}{sp:Sp}{x:Str}{p pos:Pos}{e:Expr}{es:List Expr}{t:TA}
theorem Xq (C:Cal X.prog X.w X.K X.mg X.base x k ps sp) (hr:gW k X.A) (hg:Gl X x) (ha:PA X (e::es) t) (hdb:(x == ("__debug__" : Str))=false:=by decide)
  (he:starEach (e::es) X.env=(false,eval e X.env)::starEach es X.env:=by rfl) (hpl:(backTo pos (starEach es X.env)).any (·.1)=false:=by rfl):PE X (.Call (.Name x p) (e::es) [] pos) (uh sp [] E0 t):=by
 obtain⟨f,fd,F,b,kp,hm⟩:=C.ex;exact T6 F hr hg hm kp b .nil Zh ha hdb he hpl
end
structure V0 (K:PySem.W.Frag)(mg:Str->Option Value)(x:Str)(st:Stmt)(ps:List Str)(f:Addr)(fd:FuncData):Prop where
 fn:Fun K x x st f fd
 bd:Binds K fd ps []
 nm:mg x=some (.ref f)
theorem V0.cal {P:Program}{w:World}{K:PySem.W.Frag}{mg:Str->Option Value}{base:Heap}{x:Str}{st:Stmt}{ps:List Str}{f:Addr}{fd:FuncData}{k:Nat}{sp:Sp}(D:V0 K mg x st ps f fd)(F:dF P w K mg base CX0 k f fd ps sp):Cal P w K mg base x k ps sp:=
 ⟨f,fd,F,D.bd,D.fn.kp,D.nm⟩
theorem Mz (i j:Int):Js (.int i) (.int j)=true:=rfl
theorem R9 (i j:Bool):Js (.bl i) (.bl j)=true:=rfl
theorem Mw (i j:Str):Js (.str i) (.str j)=true:=rfl
theorem Mx:Js .non .non=true:=rfl
theorem ZJ {α:Type}(a:α)(r:List α):atI (a::r) 0=some a:=bM (j:=0) rfl
theorem ZG {α:Type}(a b:α)(r:List α):atI (a::b::r) 1=some b:=bM (j:=1) rfl
theorem ZF {α:Type}(a b c:α)(r:List α):atI (a::b::c::r) 2=some c:=bM (j:=2) rfl
theorem Qe:ixN 3 0=some 0/\ixN 3 1=some 1/\ixN 3 2=some 2:=⟨δ,δ,δ⟩
theorem aK {n:Nat}(h:n<=1000000):n<=sizeLine:=le_trans h δ
noncomputable def ixq (o:Option HO)(i:Int)(H:Hp)(Q:VK):Prop:=match o with
 | some (.lst xs)=>∃v,atI xs i=some v/\Q v H
 | some (.tup xs)=>∃v,atI xs i=some v/\Q v H
 | _=>False
noncomputable def stq (o:Option HO)(p:Addr)(k:Int)(v:V)(H:Hp)(Q:Hp->Prop):Prop:=match o with
 | some (.lst xs)=>∃j,ixN xs.length k=some j/\Q (upd H p (.lst (xs.set j v)))
 | _=>False
noncomputable def lnq (o:Option HO)(H:Hp)(Q:VK):Prop:=match o with
 | some (.lst ys)=>Q (.int ys.length) H
 | some (.tup ys)=>Q (.int ys.length) H
 | _=>False
noncomputable def WY:R2:=fun x y H Q=>match x,y with
 | .ref p,.int i=>ixq (H p) i H Q
 | _,_=>False
noncomputable def M7:V->V->V->Hp->(Hp->Prop)->Prop:=fun o i v H Q=>match o,i with
 | .ref p,.int k=>stq (H p) p k v H Q
 | _,_=>False
noncomputable def Hs:List V->Hp->VK->Prop:=fun xs H Q=>match xs with
 | [.ref p]=>lnq (H p) H Q
 | _=>False
theorem Ni (p:Addr)(i:Int)(H:Hp)(Q:VK):WY (.ref p) (.int i) H Q=ixq (H p) i H Q:=rfl
theorem Jw (p:Addr)(k:Int)(v:V)(H:Hp)(Q:Hp->Prop):M7 (.ref p) (.int k) v H Q=stq (H p) p k v H Q:=rfl
theorem Jx (p:Addr)(H:Hp)(Q:VK):Hs [.ref p] H Q=lnq (H p) H Q:=rfl
theorem RX (xs:List V)(p:Addr)(k:Int)(v:V)(H:Hp)(Q:Hp->Prop):stq (some (.lst xs)) p k v H Q=∃j,ixN xs.length k=some j/\Q (upd H p (.lst (xs.set j v))):=rfl
theorem U7 (xs:List V)(H:Hp)(Q:VK):lnq (some (.lst xs)) H Q=Q (.int xs.length) H:=rfl
theorem U6 (xs:List V)(H:Hp)(Q:VK):lnq (some (.tup xs)) H Q=Q (.int xs.length) H:=rfl
section
variable {X:Cx}
theorem aR:IxR X WY:=by
 intro value slice pins s σ H x y v u Q I rx ry h hs;unfold WY at h;split at h
 ·rename_i p i;unfold ixq at h;split at h
  ·rename_i xs e;obtain⟨z,hz,q⟩:=h;exact Ie value slice pins s σ H _ _ v u Q I rx ry ⟨p,xs,i,z,rfl,rfl,SqL.of e,hz,q⟩ hs
  ·rename_i xs e;obtain⟨z,hz,q⟩:=h;exact Yi value slice pins s σ H _ _ v u Q I rx ry ⟨p,xs,i,z,rfl,rfl,SqT.of e,hz,q⟩ hs
  exact h.elim
 exact h.elim
theorem uE:KZ X M7:=by
 intro pins s σ H o i v ov iv u Q I ro ri rv h;unfold M7 at h;split at h
 ·rename_i p k;unfold stq at h;split at h
  ·rename_i xs e;obtain⟨j,hj,q⟩:=h;exact set_list pins s σ H _ _ v ov iv u Q I ro ri rv ⟨p,xs,k,j,rfl,rfl,e,hj,q⟩
  exact h.elim
 exact h.elim
theorem dY:cV X (.builtin "len") Hs:=by
 intro pins s σ H xs us Q I r h;unfold Hs at h;split at h
 ·rename_i p;unfold lnq at h;split at h
  ·rename_i ys e;exact iU pins s σ H _ us Q I r ⟨p,ys,rfl,.inl (SqL.of e),h⟩
  ·rename_i ys e;exact iU pins s σ H _ us Q I r ⟨p,ys,rfl,.inr (SqT.of e),h⟩
  exact h.elim
 exact h.elim
end
noncomputable def Nr:List V->Hp->VK->Prop:=fun xs H Q=>match xs with
 | [.int i]=>Q (.int i) H
 | [.bl k]=>Q (.int (if k then 1 else 0)) H
 | _=>False
theorem Ss (k:Bool)(H:Hp)(Q:VK):Nr [.bl k] H Q=Q (.int (if k then 1 else 0)) H:=rfl
theorem Gy {X:Cx}:cV X (.type "int") Nr:=by
 intro pins s σ H xs us Q I r h;unfold Nr at h;split at h
 ·exact yQ pins s σ H _ us Q I r (.inl ⟨_,rfl,h⟩)
 ·exact yQ pins s σ H _ us Q I r (.inr ⟨_,rfl,h⟩)
 exact h.elim
theorem aO {t u:TS}{D:Ends}{σ:St}{H:Hp}(h:∀k,k=u D->t { D with nx:=k } σ H):Jl t u D σ H:=h _ rfl
theorem jr {wi:TI}{g:TG}{tb:TS}{D:Ends}{σ:St}{H:Hp}(h:∀R:It->Hp->Prop,R=(fun J H1=>∃W:Nat->Nat->St->Hp->Prop,(∃m,W 0 m σ H1)/\∀i m σ H,W i m σ H ->
  (J.stop i H/\D.nx σ H)\/(J.go i H/\∃N:St->Hp->Prop,(∀σ' H',N σ' H'->∃m',m'<m/\W (i+1) m' σ' H')/\∀x H',J.yld i H x H'->g x σ H' fun σ2 H2=>tb { D with nx:=N,ct:=N,bk:=D.nx } σ2 H2))->wi σ H R):Wu wi g tb D σ H:=h _ rfl
theorem yJ {lo:Int}{n:Nat}{g:TG}{tb:TS}{D:Ends}{σ:St}{H:Hp}{R:It->Hp->Prop}(hR:R=(fun J H1=>∃W:Nat->Nat->St->Hp->Prop,(∃m,W 0 m σ H1)/\∀i m σ H,W i m σ H ->
  (J.stop i H/\D.nx σ H)\/(J.go i H/\∃N:St->Hp->Prop,(∀σ' H',N σ' H'->∃m',m'<m/\W (i+1) m' σ' H')/\∀x H',J.yld i H x H'->g x σ H' fun σ2 H2=>tb { D with nx:=N,ct:=N,bk:=D.nx } σ2 H2)))
  (Pv:Nat->St->Hp->Prop) (h0:Pv 0 σ H) (hs:∀i σ H,i<n->Pv i σ H->g (.int (lo+i)) σ H fun σ2 H2=>tb { D with nx:=Pv (i+1),ct:=Pv (i+1),bk:=D.nx } σ2 H2) (hd:∀σ H,Pv n σ H->D.nx σ H):R (Itr lo n) H:=by
 subst hR;exact Ka Pv h0 hs hd
theorem yK {K:PySem.W.Frag}{a:Addr}{xs:List V}{g:TG}{tb:TS}{D:Ends}{σ:St}{H:Hp}{R:It->Hp->Prop}(hR:R=(fun J H1=>∃W:Nat->Nat->St->Hp->Prop,(∃m,W 0 m σ H1)/\∀i m σ H,W i m σ H ->
  (J.stop i H/\D.nx σ H)\/(J.go i H/\∃N:St->Hp->Prop,(∀σ' H',N σ' H'->∃m',m'<m/\W (i+1) m' σ' H')/\∀x H',J.yld i H x H'->g x σ H' fun σ2 H2=>tb { D with nx:=N,ct:=N,bk:=D.nx } σ2 H2)))
  (Pv:Nat->St->Hp->Prop) (h0:Pv 0 σ H) (hl:∀i σ H,i<=xs.length->Pv i σ H->SqL K H a xs) (hs:∀i x σ H,xs[i]?=some x->Pv i σ H->g x σ H fun σ2 H2=>tb { D with nx:=Pv (i+1),ct:=Pv (i+1),bk:=D.nx } σ2 H2) (hd:∀σ H,Pv xs.length σ H->D.nx σ H):R (Itl K a) H:=by
 subst hR;exact Qv Pv h0 hl hs hd
noncomputable def GZ (mp:List (Option Nat))(g:TG)(tc:TT)(te:TE)(σ:St)(Q:VK)(J:It)(H1:Hp):Prop:=∃W:Nat->Nat->List V->St->Hp->Prop,(∃m,W 0 m [] (lR mp σ) H1)/\∀i m acc τ H2,W i m acc τ H2 ->
  (J.stop i H2/\∀d,H2 d=none->Q (.ref d) (upd H2 d (.lst acc))) \/
  (J.go i H2/\acc.length<sizeLine/\∃N:List V->St->Hp->Prop,(∀acc' τ' H',N acc' τ' H'->∃m',m'<m/\W (i+1) m' acc' τ' H')/\∀x H3,J.yld i H2 x H3->g x τ H3 fun τ1 H4=>tc τ1 H4 fun b H5=>
   if b=true then te τ1 H5 fun v H6=>N (acc++[v]) τ1 H6 else N acc τ1 H5)
theorem gR {mp:List (Option Nat)}{wi:TI}{g:TG}{tc:TT}{te:TE}{σ:St}{H:Hp}{Q:VK}(h:∀R:It->Hp->Prop,R=GZ mp g tc te σ Q->wi σ H R):uf mp wi g tc te σ H Q:=h _ rfl
theorem qG {J:It}{mp:List (Option Nat)}{g:TG}{tc:TT}{te:TE}{σ:St}{H:Hp}{Q:VK}{R:It->Hp->Prop}(hR:R=GZ mp g tc te σ Q)(n:Nat)(hz:n<=sizeLine)(Pv:Nat->List V->St->Hp->Prop)(h0:Pv 0 [] (lR mp σ) H)
  (hl:∀i acc τ H,Pv i acc τ H->acc.length<=i) (hgo:∀i acc τ H,i<n->Pv i acc τ H->J.go i H) (hst:∀acc τ H,Pv n acc τ H->J.stop n H)
  (hs:∀i acc τ H x H3,i<n->Pv i acc τ H->J.yld i H x H3->g x τ H3 fun τ1 H4=>tc τ1 H4 fun b H5=>if b=true then te τ1 H5 fun v H6=>Pv (i+1) (acc++[v]) τ1 H6 else Pv (i+1) acc τ1 H5)
  (hd:∀acc τ H d,Pv n acc τ H->H d=none->Q (.ref d) (upd H d (.lst acc))):R J H:=by
 subst hR;refine⟨fun i m acc τ H2=>m=n-i/\i<=n/\Pv i acc τ H2,⟨_,rfl,zero_le _,h0⟩,?_⟩;rintro i m acc τ H2 ⟨rfl,hi,p⟩;have q3:=hl i acc τ H2 p;by_cases hlt:i<n
 ·exact .inr ⟨hgo i acc τ H2 hlt p,ω,Pv (i+1),fun acc' τ' H' q=>⟨_,ω,rfl,hlt,q⟩,fun x H3 y=>hs i acc τ H2 x H3 hlt p y⟩
 have e:i=n:=ω;subst e;exact .inl ⟨hst acc τ H2 p,fun d hd'=>hd acc τ H2 d p hd'⟩
structure Nm (N:List Str)(sc:Scope)(i:Nat)(x:Str):Prop where
 hN:N[i]?=some x
 hv:Loc sc x
 hd:(x == ("__debug__" : Str))=false
 hcd:(x == ("__classdict__" : Str))=false
noncomputable def Zk (N:List Str) (sc:Scope) (i:Nat) (x:Str):Bool:=decide (N[i]?=some x)&&(decide (sc.names.lookup x=some .local)||decide (sc.names.lookup x=some .cell)) && !(x == ("__debug__" : Str)) && !(x == ("__classdict__" : Str))
theorem Nm.of {N:List Str}{sc:Scope}{i:Nat}{x:Str}(h:Zk N sc i x=true):Nm N sc i x:=by
 unfold Zk at h;rw[and_eq_true,and_eq_true,and_eq_true,Bool.or_eq_true] at h;obtain⟨⟨⟨h1,h2⟩,h3⟩,h4⟩:=h;exact⟨of_decide_eq_true h1,h2.elim (fun z=>.inl (of_decide_eq_true z)) (fun z=>.inr (of_decide_eq_true z)),by simpa using h3,by simpa using h4⟩
structure Bn (x:Str):Prop where
 hn:x ≠ "__name__"
 hd:(x == ("__debug__" : Str))=false
section
variable {X:Cx}{i:Nat}{x:Str}{pos pos' p:Pos}{e:Expr}{es:List Expr}{te:TE}{t:TA}{k:Nat}{ps:List Str}{sp:Sp}{id T:String}{r:List V->Hp->VK->Prop}
theorem pn (n:Nm X.N X.env.scope i x):PE X (.Name x pos) (Lj i):=Ob n.hN (n.hv.elim .inl fun z=>.inr (.inl z)) n.hd n.hcd
theorem Y5 (n:Nm X.N X.env.scope i x)(hN:X.N.Nodup)(he:PE X e te)(hs:swapsWith e (some (.Name x pos')) pos.line X.env=pure false:=by rfl)(hf:X.fn x=true\/X.env.scope.names.lookup x=some .local:=by exact .inl rfl) :
  PS X (.Assign [.Name x pos'] e pos) (wB te (j6 i)):=Xa hN n.hN n.hv he hs hf
theorem Y7 (n:Nm X.N X.env.scope i x)(hN:X.N.Nodup)(hf:X.fn x=true\/X.env.scope.names.lookup x=some .local:=by exact .inl rfl):PG X (.Name x pos) (j6 i):=HB hN n.hN n.hv hf
theorem Zc (C:Cal X.prog X.w X.K X.mg X.base x k ps sp)(hr:gW k X.A)(hg:Gl X x)(hdb:Bn x)(ha:PA X (e::es) t)
  (he:starEach (e::es) X.env=(false,eval e X.env)::starEach es X.env:=by rfl) (hpl:(backTo pos (starEach es X.env)).any (·.1)=false:=by rfl):PE X (.Call (.Name x p) (e::es) [] pos) (uh sp [] E0 t):=
 Xq C hr hg ha hdb.hd he hpl
theorem Ze (hc:cV X (.builtin id) r)(hg:Gl X x)(hm:X.mg x=none)(hv:bootBuiltins x=some (.builtin id))(b:Bn x)(ha:PA X (e::es) t)
  (he:starEach (e::es) X.env=(false,eval e X.env)::starEach es X.env:=by rfl) (hpl:(backTo pos (starEach es X.env)).any (·.1)=false:=by rfl):PE X (.Call (.Name x p) (e::es) [] pos) (tCB r t):=Oh hc hg hm hv ha b.hn b.hd he hpl
theorem Zb (hc:cV X (.type T) r)(hg:Gl X x)(hm:X.mg x=none)(hv:bootBuiltins x=some (.type T))(b:Bn x)(ha:PA X (e::es) t)
  (he:starEach (e::es) X.env=(false,eval e X.env)::starEach es X.env:=by rfl) (hpl:(backTo pos (starEach es X.env)).any (·.1)=false:=by rfl):PE X (.Call (.Name x p) (e::es) [] pos) (tCB r t):=JG hc hg hm hv ha b.hn b.hd he hpl
theorem Zf (n:String)(hg:Gl X x)(hm:X.mg x=none)(hv:bootBuiltins x=some (.type n))(b:Bn x):PE X (.Name x pos) (tC (.ty n)):=T7 hg hm hv rfl b.hn b.hd
end
theorem jM:Bn "len" := ⟨ψ,ψ⟩
theorem Ra:Bn "abs" := ⟨ψ,ψ⟩
theorem vW:Bn "min" := ⟨ψ,ψ⟩
theorem Bg:Bn "max" := ⟨ψ,ψ⟩
theorem Yy:Bn "all" := ⟨ψ,ψ⟩
theorem bF:Bn "isinstance" := ⟨ψ,ψ⟩
theorem Q9:Bn "int" := ⟨ψ,ψ⟩
theorem Bh:Bn "list" := ⟨ψ,ψ⟩
theorem qH:Bn "tuple" := ⟨ψ,ψ⟩
theorem Gz:Bn "str" := ⟨ψ,ψ⟩
theorem Bj:Bn "bool" := ⟨ψ,ψ⟩
theorem KH:Bn "sorted" := ⟨ψ,ψ⟩
theorem IV:Bn "repr" := ⟨ψ,ψ⟩
noncomputable def tyO:Option HO->Option String
 | some (.lst _)=>some "list"
 | some (.tup _)=>some "tuple"
 | _=>none
noncomputable def tyN (x:V)(H:Hp):Option String:=match x with
 | .non=>some "NoneType"
 | .bl _=>some "bool"
 | .int _=>some "int"
 | .str _=>some "str"
 | .ref a=>tyO (H a)
 | _=>none
theorem Tn.of {x:V}{H:Hp}{t:String}(h:tyN x H=some t):Tn H x t:=by
 cases x with
 | non=>cases h;exact .non
 | bl b=>cases h;exact .bl b
 | int i=>cases h;exact .int i
 | str s=>cases h;exact .str s
 | ref a=>
  have h':tyO (H a)=some t:=h;cases e:H a with
  | none=>rw[e] at h';cases h'
  | some o=>
   rw[e] at h';cases o with
   | lst xs=>cases h';exact .lst e
   | tup xs=>cases h';exact .tup e
   | _=>cases h'
 | _=>cases h
noncomputable def Nq:List V->Hp->VK->Prop:=fun xs H Q=>match xs with
 | [x,.ty T]=>∃t,tyN x H=some t/\dg.contains T=true/\Q (.bl (fV t T)) H
 | _=>False
noncomputable def i2q (o:Option HO)(x:V)(H:Hp)(Q:VK):Prop:=match o with
 | some (.tup [.ty T,.ty U])=>∃t,tyN x H=some t/\dg.contains T=true/\dg.contains U=true/\Q (.bl (fV t T||fV t U)) H
 | _=>False
noncomputable def Nk:List V->Hp->VK->Prop:=fun xs H Q=>match xs with
 | [x,.ref p]=>i2q (H p) x H Q
 | _=>False
theorem cU {X:Cx}:cV X (.builtin "isinstance") Nq:=by
 intro pins s σ H xs us Q I r h;unfold Nq at h;split at h
 ·obtain⟨t,e,k,q⟩:=h;exact Kz pins s σ H _ us Q I r ⟨_,_,t,rfl,Tn.of e,by simpa using k,q⟩
 exact h.elim
theorem Kw {X:Cx}:cV X (.builtin "isinstance") Nk:=by
 intro pins s σ H xs us Q I r h;unfold Nk at h;split at h
 ·rename_i x p;unfold i2q at h;split at h
  ·rename_i T U e;obtain⟨t,e1,k1,k2,q⟩:=h;refine Ky pins s σ H _ us Q I r ⟨x,p,[T,U],t,rfl,e,Tn.of e1,fun z hz=>?_,by simpa using q⟩;rcases mem_cons.mp hz with rfl|hz
   ·simpa using k1
   obtain rfl:=mem_singleton.mp hz;simpa using k2
  exact h.elim
 exact h.elim
theorem Np (x:V)(T:String)(H:Hp)(Q:VK):Nq [x,.ty T] H Q=∃t,tyN x H=some t/\dg.contains T=true/\Q (.bl (fV t T)) H:=rfl
theorem Nj (x:V)(p:Addr)(H:Hp)(Q:VK):Nk [x,.ref p] H Q=i2q (H p) x H Q:=rfl
theorem Yo (x:V)(T U:String)(H:Hp)(Q:VK):i2q (some (.tup [.ty T,.ty U])) x H Q=∃t,tyN x H=some t/\dg.contains T=true/\dg.contains U=true/\Q (.bl (fV t T||fV t U)) H:=rfl
theorem U9:dg.contains "list" = true:=by decide
theorem PX:dg.contains "tuple" = true:=by decide
theorem Yh:dg.contains "int" = true:=by decide
theorem Yg:dg.contains "str" = true:=by decide
theorem kc_bool:dg.contains "bool" = true:=by decide
theorem ty_int (i:Int) (H:Hp):tyN (.int i) H=some "int" := rfl
theorem YK (i:Bool) (H:Hp):tyN (.bl i) H=some "bool" := rfl
theorem ty_str (i:Str) (H:Hp):tyN (.str i) H=some "str" := rfl
theorem Wm (H:Hp):tyN .non H=some "NoneType" := rfl
theorem Wl (p:Addr)(H:Hp):tyN (.ref p) H=tyO (H p):=rfl
theorem RN (xs:List V):tyO (some (.lst xs))=some "list" := rfl
theorem RM (xs:List V):tyO (some (.tup xs))=some "tuple" := rfl
theorem sV:fV "NoneType" "str" = false:=by decide
theorem qQ:fV "NoneType" "list" = false:=by decide
theorem pW:fV "NoneType" "tuple" = false:=by decide
theorem zB:fV "bool" "bool" = true:=by decide
theorem BW:fV "bool" "str" = false:=by decide
theorem zA:fV "bool" "list" = false:=by decide
theorem wH:fV "bool" "tuple" = false:=by decide
theorem BV:fV "int" "bool" = false:=by decide
theorem Et:fV "int" "int" = true:=by decide
theorem Es:fV "int" "str" = false:=by decide
theorem BR:fV "int" "list" = false:=by decide
theorem zu:fV "int" "tuple" = false:=by decide
theorem Er:fV "str" "str" = true:=by decide
theorem BP:fV "str" "list" = false:=by decide
theorem zp:fV "str" "tuple" = false:=by decide
theorem zq:fV "list" "list" = true:=by decide
theorem wG:fV "list" "tuple" = false:=by decide
theorem wF:fV "tuple" "list" = false:=by decide
theorem uF:fV "tuple" "tuple" = true:=by decide
noncomputable def gtq (o:Option HO)(n:Nat)(t:TGs)(σ:St)(H:Hp)(Q:St->Hp->Prop):Prop:=match o with
 | some (.tup xs)=>xs.length=n/\t xs σ H Q
 | _=>False
noncomputable def Ii (n:Nat)(t:TGs):TG:=fun v σ H Q=>match v with
 | .ref a=>gtq (H a) n t σ H Q
 | _=>False
theorem J9 (n:Nat)(t:TGs)(a:Addr)(σ:St)(H:Hp)(Q:St->Hp->Prop):Ii n t (.ref a) σ H Q=gtq (H a) n t σ H Q:=rfl
theorem Vj (xs:List V)(n:Nat)(t:TGs)(σ:St)(H:Hp)(Q:St->Hp->Prop):gtq (some (.tup xs)) n t σ H Q=(xs.length=n/\t xs σ H Q):=rfl
noncomputable def qtq (o:Option HO)(f:List Bool->Bool)(H:Hp)(Q:VK):Prop:=match o with
 | some (.lst xs)=>∃bs,xs=List.map V.bl bs/\Q (.bl (f bs)) H
 | _=>False
noncomputable def zH (f:List Bool->Bool):List V->Hp->VK->Prop:=fun xs H Q=>match xs with
 | [.ref p]=>qtq (H p) f H Q
 | _=>False
theorem Cg (f:List Bool->Bool)(p:Addr)(H:Hp)(Q:VK):zH f [.ref p] H Q=qtq (H p) f H Q:=rfl
theorem SX (f:List Bool->Bool)(xs:List V)(H:Hp)(Q:VK):qtq (some (.lst xs)) f H Q=∃bs,xs=List.map V.bl bs/\Q (.bl (f bs)) H:=rfl
section
variable {X:Cx}{es:List Expr}{k:Nat}{t:TGs}{n:Nat}{pos:Pos}
theorem TX (hc:X.calm=true)(h:PGs X es t)(hn:(assignEach es X.env).length=n:=by rfl)(hst:(assignEach es X.env).findIdx? (·.1)=none:=by rfl):PG X (.Tuple es k pos) (Ii n t):=by
 intro pins s σ H v u Q I r hw;unfold Ii at hw;split at hw
 ·rename_i a;unfold gtq at hw;split at hw
  ·rename_i xs e;exact Xi hc h hn hst pins s σ H _ u Q I r ⟨a,xs,rfl,SqT.of e,hw.1,hw.2⟩
  exact hw.elim
 exact hw.elim
theorem KC (hc:X.calm=true):cV X (.builtin "all") (zH fun bs=>bs.all id):=by
 intro pins s σ H xs us Q I r h;unfold zH at h;split at h
 ·rename_i p;unfold qtq at h;split at h
  ·rename_i ys e;obtain⟨bs,rfl,q⟩:=h;exact Q5 hc pins s σ H _ us Q I r ⟨p,bs,rfl,SqL.of e,q⟩
  exact h.elim
 exact h.elim
end
noncomputable def Nf:List V->Hp->VK->Prop:=fun xs H Q=>match xs with
 | [.int i,.int j]=>Q (.int (if j<i then j else i)) H
 | _=>False
noncomputable def Nh:List V->Hp->VK->Prop:=fun xs H Q=>match xs with
 | [.int i,.int j]=>Q (.int (if j>i then j else i)) H
 | _=>False
theorem Nb (i j:Int)(H:Hp)(Q:VK):Nf [.int i,.int j] H Q=Q (.int (if j<i then j else i)) H:=rfl
theorem Ng (i j:Int)(H:Hp)(Q:VK):Nh [.int i,.int j] H Q=Q (.int (if j>i then j else i)) H:=rfl
theorem rM {X:Cx}(hc:X.calm=true):cV X (.builtin "min") Nf:=by
 intro pins s σ H xs us Q I r h;unfold Nf at h;split at h
 ·exact Ks hc pins s σ H _ us Q I r ⟨_,_,rfl,h⟩
 exact h.elim
theorem nU {X:Cx}(hc:X.calm=true):cV X (.builtin "max") Nh:=by
 intro pins s σ H xs us Q I r h;unfold Nh at h;split at h
 ·exact Ku hc pins s σ H _ us Q I r ⟨_,_,rfl,h⟩
 exact h.elim
structure QE (X:Cx)(e:Expr)(t:TE):Prop where
 h:PE X e t
structure QT (X:Cx)(e:Expr)(t:TT):Prop where
 h:PT X e t
structure QW (X:Cx)(e:Expr)(t:TT):Prop where
 h:PW X e t
structure QA (X:Cx)(es:List Expr)(t:TA):Prop where
 h:PA X es t
structure QS (X:Cx)(st:Stmt)(t:TS):Prop where
 h:PS X st t
structure QB (X:Cx)(st:List Stmt)(t:TS):Prop where
 h:PSs X st t
structure QG (X:Cx)(e:Expr)(t:TG):Prop where
 h:PG X e t
structure QGs (X:Cx)(es:List Expr)(t:TGs):Prop where
 h:PGs X es t
structure QI (X:Cx)(tg e:Expr)(t:TI):Prop where
 h:PI X tg e t
structure QC (X:Cx)(cs:List Expr)(t:TT):Prop where
 h:PTs X cs t
section
variable {X:Cx}{i:Nat}{x:Str}{pos pos' p tpos:Pos}{e a b c o:Expr}{es rest:List Expr}{te ta tb tc to ti:TE}{tA tB':TT}{t:TA}{k n kk:Nat}{ps:List Str}{sp:Sp}{id T:String}{r:List V->Hp->VK->Prop}{st:Stmt}{sts:List Stmt}{ts us:TS}{tg iter:Expr}{wi:TI}{g:TG}{gs:TGs}
theorem Z1 (h:Nm X.N X.env.scope i x):QE X (.Name x pos) (Lj i):=⟨pn h⟩
theorem Z0 (i:Nat) {x:Str}{pos:Pos}(hN:X.N[i]?=some x:=by rfl) (hv:Vis X.env.scope x:=by first|exact Or.inl rfl|exact Or.inr (Or.inl rfl)|exact Or.inr (Or.inr rfl)) (hd:(x == ("__debug__" : Str))=false:=by decide)
  (hcd:(x == ("__classdict__" : Str))=false:=by decide):QE X (.Name x pos) (Lj i):=⟨Ob hN hv hd hcd⟩
theorem aq {i j pos}:QE X (.Constant (.int i) j pos) (tC (.int i)):=⟨Xp⟩
theorem uI {b j pos}:QE X (.Constant (.bool b) j pos) (tC (.bl b)):=⟨Zg⟩
theorem gh {j pos}:QE X (.Constant .none j pos) (tC .non):=⟨Xn⟩
theorem bG {x j pos}:QE X (.Constant (.str x) j pos) (tC (.str x)):=⟨Xk⟩
theorem aL {op:Operator}{r:R2}(ho:OpR X (binaryOp op) r)(ha:QE X a ta)(hb:QE X b tb):QE X (.BinOp a op b pos) (tOp r ta tb):=⟨Y9 ho ha.h hb.h⟩
theorem eZ {op:UnaryOp}{r:V->Hp->VK->Prop}(ho:UnR X (unaryOp op) r)(ha:QE X a ta):QE X (.UnaryOp op a pos) (tUn r ta):=⟨Y8 ho ha.h⟩
theorem W3 (ha:QE X a ta):QE X (.UnaryOp .Not a pos) (Lr ta):=⟨Xm ha.h⟩
theorem uH {op:CmpOp}{r:R2}(ho:OpR X (compareOp op) r)(ha:QE X a ta)(hb:QE X b tb)(hm:behindInMarks op b=false):QE X (.Compare a [op] [b] pos) (tOp r ta tb):=⟨T5 ho ha.h hb.h hm⟩
theorem aQ {op:CmpOp}{r:R2}(ho:OpR X (compareOp op) r)(ha:QE X a ta)(hb:QE X b tb)(hm:behindInMarks op b=false):QT X (.Compare a [op] [b] pos) (rQ (tOp r ta tb)):=⟨Tf ho ha.h hb.h hm⟩
theorem Cj {op op':CmpOp}{r r':R2}(ho:OpR X (compareOp op) r)(ho':OpR X (compareOp op') r')(ha:QE X a ta)(hb:QE X b tb)(hc:QE X c tc)
  (hm:lastMarks [op,op'] [b,c]=false:=by with_unfolding_all rfl):QT X (.Compare a [op,op'] [b,c] pos) (rQ (Em r r' ta tb tc)):=⟨NP ho ho' ha.h hb.h hc.h hm⟩
theorem EY {op}(h:QE X a ta):QE X (.BoolOp op [a] pos) ta:=⟨Xl h.h⟩
theorem zQ (ha:QE X a ta)(hb:QE X (.BoolOp .And (b::rest) pos) tb):QE X (.BoolOp .And (a::b::rest) pos) (LQ ta tb):=⟨Xr ha.h hb.h⟩
theorem jT (hc:QT X c tA)(ha:QE X a ta)(hb:QE X b tb):QE X (.IfExp c a b pos) (tIf tA ta tb):=⟨Oe hc.h ha.h hb.h⟩
theorem aJ {r:R2}(hr:IxR X r)(ha:QE X a ta)(hb:QE X b tb)(hs:Jd b):QE X (.Subscript a b pos) (tOp r ta tb):=⟨Za hr ha.h hb.h hs⟩
theorem cD (h:QA X es t):QE X (.List es pos) (Ls t):=⟨Xo h.h⟩
theorem aY {x1}(h:QA X es t):QE X (.Tuple es x1 pos) (Ln t):=⟨Xj h.h⟩
theorem aA:QA X [] BJ:=⟨Xu⟩
theorem aj (ha:QE X e te)(hr:QA X es t)(hs:starEach (e::es) X.env=(false,eval e X.env)::starEach es X.env:=by rfl):QA X (e::es) (rR te t):=⟨T9 ha.h hr.h hs⟩
theorem bw (C:Cal X.prog X.w X.K X.mg X.base x k ps sp)(hr:gW k X.A)(hg:Gl X x)(hdb:Bn x)(ha:QA X (e::es) t)
  (he:starEach (e::es) X.env=(false,eval e X.env)::starEach es X.env:=by rfl) (hpl:(backTo pos (starEach es X.env)).any (·.1)=false:=by rfl):QE X (.Call (.Name x p) (e::es) [] pos) (uh sp [] E0 t):=⟨Zc C hr hg hdb ha.h he hpl⟩
theorem bY (hc:cV X (.builtin id) r)(hg:Gl X x)(hm:X.mg x=none)(hv:bootBuiltins x=some (.builtin id))(b:Bn x)(ha:QA X (e::es) t)
  (he:starEach (e::es) X.env=(false,eval e X.env)::starEach es X.env:=by rfl) (hpl:(backTo pos (starEach es X.env)).any (·.1)=false:=by rfl):QE X (.Call (.Name x p) (e::es) [] pos) (tCB r t):=⟨Ze hc hg hm hv b ha.h he hpl⟩
theorem V6 (hc:cV X (.type T) r)(hg:Gl X x)(hm:X.mg x=none)(hv:bootBuiltins x=some (.type T))(b:Bn x)(ha:QA X (e::es) t)
  (he:starEach (e::es) X.env=(false,eval e X.env)::starEach es X.env:=by rfl) (hpl:(backTo pos (starEach es X.env)).any (·.1)=false:=by rfl):QE X (.Call (.Name x p) (e::es) [] pos) (tCB r t):=⟨Zb hc hg hm hv b ha.h he hpl⟩
theorem jU (n:String)(hg:Gl X x)(hm:X.mg x=none)(hv:bootBuiltins x=some (.type n))(b:Bn x):QE X (.Name x pos) (tC (.ty n)):=⟨Zf n hg hm hv b⟩
theorem zN (ha:QT X a tA):QT X (.UnaryOp .Not a pos) (RV tA):=⟨W9 ha.h⟩
theorem qT (h:QE X e te)(he:∀whole,isTrue e X.env whole=(do let v <- whole;standAt e.pos;holding [v] (truthy v)):=by intro _;rfl):QT X e (tB te):=⟨W7 h.h he⟩
theorem tM (ha:QT X a tA):QW X (.BoolOp .And [a] pos) tA:=⟨S9 ha.h⟩
theorem zK (ha:QT X a tA):QW X (.BoolOp .Or [a] pos) tA:=⟨W5 ha.h⟩
theorem zL (ha:QT X a tA)(hb:QW X (.BoolOp .And (b::rest) pos) tB'):QW X (.BoolOp .And (a::b::rest) pos) (RW tA tB'):=⟨W6 ha.h hb.h⟩
theorem Hu (ha:QT X a tA)(hb:QW X (.BoolOp .Or (b::rest) pos) tB'):QW X (.BoolOp .Or (a::b::rest) pos) (tOr tA tB'):=⟨Y4 ha.h hb.h⟩
theorem Ci (h:QW X e tA):QT X e tA:=⟨h.h.pt⟩
theorem bK:QB X [] G4:=⟨Ti⟩
theorem aG (h:QS X st ts):QB X [st] ts:=⟨Tg h.h⟩
theorem aD (h:QS X st ts)(h2:QB X sts us):QB X (st::sts) (Jl ts us):=⟨NQ h.h h2.h⟩
theorem aW (he:QE X e te):QS X (.Return (some e) pos) (Lp te):=⟨Xb he.h⟩
theorem bH {c:Expr}{a b:List Stmt}{tc:TT}(hc:QT X c tc)(ha:QB X a ts)(hb:QB X b us):QS X (.If c a b pos) (Lx tc ts us):=⟨Y6 hc.h ha.h hb.h⟩
theorem cB (he:QE X e te)(hs:swapsWith e none pos.line X.env=pure false:=by rfl):QS X (.Expr e pos) (Ly te):=⟨Tp he.h hs⟩
theorem bU (h:Nm X.N X.env.scope i x)(hN:X.N.Nodup)(he:QE X e te)(hs:swapsWith e (some (.Name x pos')) pos.line X.env=pure false:=by rfl)(hf:X.fn x=true\/X.env.scope.names.lookup x=some .local:=by exact .inl rfl) :
  QS X (.Assign [.Name x pos'] e pos) (wB te (j6 i)):=⟨Y5 h hN he.h hs hf⟩
theorem fK (he:QE X e te)(hg:QG X tg g)(hs:swapsWithSole [tg] e pos.line X.env=pure false:=by rfl)(hw:swappedStores [tg] e X.env=pure none:=by rfl)
  (h1:(assignEach [tg] X.env).map (·.2)=[assign tg X.env]:=by rfl):QS X (.Assign [tg] e pos) (wB te g):=⟨Xf he.h hg.h hs hw h1⟩
theorem Nu {i j:Nat}{x y:Str}{a b:Expr}{ta:TA}{px py pt:Pos}{kt k2 pt2}(hc:X.calm=true)(hN:X.N.Nodup)(hi:X.N[i]?=some x)(hj:X.N[j]?=some y)(hij:i≠j)
  (hx:X.env.scope.names.lookup x=some .local) (hy:X.env.scope.names.lookup y=some .local) (ha:QA X [a,b] ta)
  (hw:swappedStores [.Tuple [.Name x px,.Name y py] kt pt] (.Tuple [a,b] k2 pt2) X.env=pure (some [x,y]))
  (hs:swapsWithSole [.Tuple [.Name x px,.Name y py] kt pt] (.Tuple [a,b] k2 pt2) pos.line X.env=pure false:=by rfl) :
  QS X (.Assign [.Tuple [.Name x px,.Name y py] kt pt] (.Tuple [a,b] k2 pt2) pos) (Wt i j ta):=⟨Xc hc hN hi hj hij hx hy ha.h hw hs⟩
theorem Ck {c:Expr}{body:List Stmt}{tc:TT}(hp:PassesOwn (model X.prog X.w) X.A X.env X.xe)(hc:QT X c tc)(hb:QB X body ts):QS X (.While c body [] pos) (zb tc ts):=⟨NT hp hc.h hb.h⟩
theorem fJ {body:List Stmt}(hp:PassesOwn (model X.prog X.w) X.A X.env X.xe)(hc:X.calm=true)(hi:QI X tg iter wi)(hg:QG X tg g)(hb:QB X body ts)
  (hs:∀x,foldedSetIterable iter X.env x=pure x:=by intro _;rfl):QS X (.For tg iter body [] pos) (Wu wi g ts):=⟨Xd hp hc hi.h hg.h hb.h hs⟩
theorem bV (h:Nm X.N X.env.scope i x)(hN:X.N.Nodup)(hf:X.fn x=true\/X.env.scope.names.lookup x=some .local:=by exact .inl rfl):QG X (.Name x pos) (j6 i):=⟨Y7 h hN hf⟩
theorem cZ (i:Nat)(hN:X.N.Nodup)(hi:X.N[i]?=some x)(hx:Loc X.env.scope x)(hf:X.fn x=true\/X.env.scope.names.lookup x=some .local:=by first|exact .inl rfl|exact .inr rfl):QG X (.Name x pos) (j6 i):=⟨HB hN hi hx hf⟩
theorem cQ:QGs X [] Yq:=⟨TV⟩
theorem aV (h1:QG X e g)(h2:QGs X es gs)(hs:(assignEach (e::es) X.env).map (·.2)=assign e X.env::(assignEach es X.env).map (·.2):=by rfl):QGs X (e::es) (Qt g gs):=⟨Oa h1.h h2.h hs⟩
theorem eN {n:Nat}(hc:X.calm=true)(h:QGs X es gs)(hn:(assignEach es X.env).length=n:=by rfl)(hst:(assignEach es X.env).findIdx? (·.1)=none:=by rfl):QG X (.Tuple es k pos) (Ii n gs):=⟨TX hc h.h hn hst⟩
theorem Rp (o:Expr)(c j)(p pos:Pos)(env:Env)(v:Value):assign (.Subscript o (.Constant c j p) pos) env v=(do
   let ov <- holding [v] (eval o env)
   let iv <- holding [v,ov] (eval (.Constant c j p) env)
   standAt pos
   holding [v,ov,iv] (setItem ov iv v)
   release [v,ov,iv] []):=rfl
theorem Ro (o:Expr)(y)(p pos:Pos)(env:Env)(v:Value):assign (.Subscript o (.Name y p) pos) env v=(do
   let ov <- holding [v] (eval o env)
   let iv <- holding [v,ov] (eval (.Name y p) env)
   standAt pos
   holding [v,ov,iv] (setItem ov iv v)
   release [v,ov,iv] []):=rfl
theorem zP {c j}{t:KY}(ho:QE X o to)(hi:QE X (.Constant c j p) ti)(hs:KZ X t):QG X (.Subscript o (.Constant c j p) pos) (Qp to ti t):=⟨Fe ho.h hi.h hs (fun v=>Rp o c j p pos X.env v)⟩
theorem S6 {y}{t:KY}(ho:QE X o to)(hi:QE X (.Name y p) ti)(hs:KZ X t):QG X (.Subscript o (.Name y p) pos) (Qp to ti t):=⟨Fe ho.h hi.h hs (fun v=>Ro o y p pos X.env v)⟩
theorem gM (hg:Gl X "range") (hm:X.mg "range" = none) (ha:QA X [a] t) (hs:starEach [a] X.env=[(false,eval a X.env)]:=by rfl):QI X tg (.Call (.Name "range" p) [a] [] pos) (oN t):=⟨JD hg hm ha.h hs⟩
theorem xR (hg:Gl X "range") (hm:X.mg "range" = none) (ha:QA X [a,b] t) (hs:starEach [a,b] X.env=[(false,eval a X.env),(false,eval b X.env)]:=by rfl) (hs2:starEach [b] X.env=[(false,eval b X.env)]:=by rfl):QI X tg (.Call (.Name "range" p) [a,b] [] pos) (Ih t):=⟨JC hg hm ha.h hs hs2⟩
theorem mj:QC X [] Wq:=⟨Te⟩
theorem zR (h:QT X c tA):QC X [c] tA:=⟨Td h.h⟩
theorem kJ {NX:List Str}{kX:List (Str×NameKind)}{scope:Scope}{elt:Expr}{ifs:List Expr}{tc:TT}(N:List Str)(mp:List (Option Nat))(hNX:X.N=NX)(hkX:X.env.scope.names=kX)(S:yW NX kX N mp scope)(hc:X.calm=true)
  (hi:QI X tg iter wi) (hg:∀cl C s H fp,QG (bZ X N scope cl C s H fp) tg g) (ht:∀cl C s H fp,QC (bZ X N scope cl C s H fp) ifs tc) (he:∀cl C s H fp,QE (bZ X N scope cl C s H fp) elt te)
  (hs:∀x,foldedSetIterable iter X.env x=pure x:=by intro _;rfl):QE X (.ListComp elt [⟨tg,iter,ifs,0⟩] scope pos) (uf mp wi g tc te):=
 ⟨T4 N mp hNX hkX S hc hi.h (fun cl C s H fp=>(hg cl C s H fp).h) (fun cl C s H fp=>(ht cl C s H fp).h) (fun cl C s H fp=>(he cl C s H fp).h) hs⟩
end
section
variable {P:Program}{w:World}{K:PySem.W.Frag}{mg:Str->Option Value}{base:Heap}
theorem Fun.okq {x qual:Str}{st:Stmt}{f:Addr}{fd:FuncData}{N ps:List Str}{k:Nat}{sp:Sp}(F:Fun K x qual st f fd)(S:bB N ps (ak st))(len:∀vs H Q E,sp vs H Q E->vs.length=ps.length)
  (hbody:∀(cdv:Value)(A:Around)(outer:List Env)(s:Shared)(H:Hp)(vs:List V)(Q:VK)(E:XK),gW k (A.deeper (envOfC qual (ak st) s.heap.objs.size f cdv))->sp vs H Q E ->
   ∃t,QB (Gu CX0 P w K mg base N qual (ak st) f cdv A outer s H E).nox (eF st) t/\t { nx:=fun _ H'=>Q .non H',rt:=Q } (L2.start N vs) H):dF P w K mg base CX0 (k+1) f fd ps sp:=
 F.ok S len fun cdv A outer s H vs Q E hr hsp=>by
  obtain⟨t,h,q⟩:=hbody cdv A outer s H vs Q E hr hsp;exact⟨t,h.h,q⟩
end
section
variable {X:Cx}
noncomputable def Ey (i:Int)(n:Nat):List V:=(List.range n).map fun k=>V.int (i+(k:Nat))
noncomputable def Lw (ta:TA):TE:=fun σ H Q=>ta σ H fun vs H1=>∃i j:Int,vs=[.int i,.int j]/\(-(2^62)<=i/\i<2^62/\-(2^62)<=j/\j<2^62)/\(j-i).toNat<=sizeLine/\∀p,H1 p=none->Q (.ref p) (upd H1 p (.lst (Ey i (j-i).toNat)))
theorem G3:∀{xs:List V}{us:List Value},xs.length=us.length->(∀(i:Nat) x u,xs[i]?=some x->us[i]?=some u->RelV x u)->Vals xs us
 | [],[],_,_=>.nil
 | [],_::_,h,_=>by cases h
 | _::_,[],h,_=>by cases h
 | x::xs,u::us,h,f=>.cons (f 0 x u rfl rfl) (G3 (by simpa using h) fun i y v h1 h2=>f (i+1) y v h1 h2)
theorem X7:sizeLine<=2^24:=by decide
theorem T3 {a b:Expr}{ta:TA}{p p2 pos pos2:Pos}(hc:X.calm=true) (hgl:Gl X "list") (hml:X.mg "list" = none) (hg:Gl X "range") (hm:X.mg "range" = none) (ha:PA X [a,b] ta)
  (hs:starEach [a,b] X.env=[(false,eval a X.env),(false,eval b X.env)]:=by rfl) (hs2:starEach [b] X.env=[(false,eval b X.env)]:=by rfl)
  (he:starEach [.Call (.Name "range" p2) [a,b] [] pos2] X.env=[(false,eval (.Call (.Name "range" p2) [a,b] [] pos2) X.env)]:=by rfl) :
  PE X (.Call (.Name "list" p) [.Call (.Name "range" p2) [a,b] [] pos2] [] pos) (Lw ta):=by
 intro pins s σ H Q I h;refine wpAny_Call_Name_kw (iH I hgl hml boot_list ?_ δ δ);refine PyProof.Rows.callWith_type1 ?_ he rfl;rw[he];show wpAny _ _ (spliced ((false,eval (.Call (.Name "range" p2) [a,b] [] pos2) X.env)::[])) _ _ s;refine Calls.spliced_cons ?_;refine Call_ (iH I hg hm boot_range (PyProof.Rows.callWith_type1 (thA (ha pos2 pins s σ H _ I h) fun us s1 vs H1 I1 r1 q1=>?_) (by rw[hs,hs2]) (by rw[hs2];rfl)));obtain⟨i,j,e,⟨q1,q2,q3,q4⟩,hz,q⟩:=q1;subst e;cases r1 with
 | cons r rr=>
  cases rr with
  | cons r' rr=>
   cases rr;obtain⟨t,rfl⟩:=r;obtain⟨t',rfl⟩:=r';refine call_range_2 (Calls.spliced_nil ?_);refine call_list_range (n:=(j-i).toNat) (I1.ok.hd hc) (IsRange.new ..) (small_one q1 q2 q3 q4) (by rw[rangeSize_one];split <;> omega) (le_trans hz X7) fun h' tk acc' c' kp e it=>?_
   have I2:Inv X pins σ H1 { s1 with heap:=s1.heap.push { cls:=.type "range",data:=.fields #[.int i t,.int j t',.int 1 s1.toks] },toks:=s1.toks+1 }:=I1.kept fun b o e=>get?_push_of_some _ e;have hf:H1 (s1.heap.push { cls:=.type "range",data:=.fields #[.int i t,.int j t',.int 1 s1.toks] }).objs.size=none:=I2.hok.fresh (le_refl _);refine⟨.ref _,_,I2.laid (t':=tk) kp (le_refl _) (show bN X.prog X.w _ h' _ (.lst (Ey i (j-i).toNat)) from⟨?_,acc'.toList,c',?_,by simpa using e⟩),rfl,q _ hf⟩
   ·simpa [Ey] using hz
   obtain⟨it1,it2⟩:=it;refine G3 (by simp [Ey,it1]) fun k x u h1 h2=>?_;have h2':acc'[k]?=some u:=by simpa using h2
   obtain⟨t9,rfl⟩:=it2 k u h2';unfold Ey at h1;rw[getElem?_map] at h1;have hk:k<(j-i).toNat:=by
    rcases lt_or_ge k (j-i).toNat with z|z
    ·exact z
    rw[getElem?_eq_none (by simpa using z)] at h1;cases h1
   rw[List.getElem?_range hk] at h1;cases h1;exact⟨t9,by rw[Int.mul_one]⟩
theorem S8 {a b:Expr}{ta:TA}{p p2 pos pos2:Pos}(hc:X.calm=true) (hgl:Gl X "list") (hml:X.mg "list" = none) (hg:Gl X "range") (hm:X.mg "range" = none) (ha:QA X [a,b] ta)
  (hs:starEach [a,b] X.env=[(false,eval a X.env),(false,eval b X.env)]:=by rfl) (hs2:starEach [b] X.env=[(false,eval b X.env)]:=by rfl)
  (he:starEach [.Call (.Name "range" p2) [a,b] [] pos2] X.env=[(false,eval (.Call (.Name "range" p2) [a,b] [] pos2) X.env)]:=by rfl) :
  QE X (.Call (.Name "list" p) [.Call (.Name "range" p2) [a,b] [] pos2] [] pos) (Lw ta):=⟨T3 hc hgl hml hg hm ha.h hs hs2 he⟩
noncomputable def adq (a b:Option HO)(H:Hp)(Q:VK):Prop:=match a,b with
 | some (.lst xs),some (.lst zs)=>xs.length+zs.length<=sizeLine/\∀p,H p=none->Q (.ref p) (upd H p (.lst (xs++zs)))
 | _,_=>False
noncomputable def Ht:R2:=fun x y H Q=>match x,y with
 | .int i,.int j=>Q (.int (i+j)) H
 | .ref p,.ref q=>adq (H p) (H q) H Q
 | _,_=>False
theorem SQ (i j:Int)(H:Hp)(Q:VK):Ht (.int i) (.int j) H Q=Q (.int (i+j)) H:=rfl
theorem SN (p q:Addr)(H:Hp)(Q:VK):Ht (.ref p) (.ref q) H Q=adq (H p) (H q) H Q:=rfl
theorem YC (xs zs:List V)(H:Hp)(Q:VK):adq (some (.lst xs)) (some (.lst zs)) H Q=(xs.length+zs.length<=sizeLine/\∀p,H p=none->Q (.ref p) (upd H p (.lst (xs++zs)))):=rfl
theorem aU:OpR X (binaryOp .Add) Ht:=by
 intro pins s σ H x y v u Q I rx ry h;unfold Ht at h;split at h
 ·exact XC pins s σ H _ _ v u Q I rx ry ⟨_,_,rfl,rfl,h⟩
 ·rename_i p q;unfold adq at h;split at h
  ·rename_i xs zs e1 e2;exact Xz pins s σ H _ _ v u Q I rx ry ⟨p,q,xs,zs,rfl,rfl,e1,e2,h.1,h.2⟩
  exact h.elim
 exact h.elim
noncomputable def eqL:List V->List V->Bool
 | [],[]=>true
 | x::xs,y::ys=>eqV x y&&eqL xs ys
 | _,_=>false
noncomputable def Zm (a b:Option HO)(H:Hp)(Q:VK):Prop:=match a,b with
 | some (.lst xs),some (.lst zs)=>xs.all iK=true/\zs.all iK=true/\Q (.bl (!eqL xs zs)) H
 | _,_=>False
noncomputable def M8:R2:=fun x y H Q=>match x,y with
 | .ref p,.ref q=>Zm (H p) (H q) H Q
 | x,y=>rNe x y H Q
theorem WW (i j:Int)(H:Hp)(Q:VK):M8 (.int i) (.int j) H Q=rNe (.int i) (.int j) H Q:=rfl
theorem WX (i j:Bool)(H:Hp)(Q:VK):M8 (.bl i) (.bl j) H Q=rNe (.bl i) (.bl j) H Q:=rfl
theorem WT (i j:Str)(H:Hp)(Q:VK):M8 (.str i) (.str j) H Q=rNe (.str i) (.str j) H Q:=rfl
theorem Im:∀(xs zs:List V),xs.length=zs.length->((List.range xs.length).all fun j=>match xs[j]?,zs[j]? with|some a,some b=>eqV a b|_,_=>true)=eqL xs zs
 | [],[],_=>rfl
 | [],_::_,h=>by cases h
 | _::_,[],h=>by cases h
 | x::xs,z::zs,h=>by
  have ih:=Im xs zs (by simpa using h);rw[length_cons,List.range_succ_eq_map,all_cons,all_map];show(eqV x z&&_)=(eqV x z&&eqL xs zs);rw[<- ih];rfl
theorem Il:∀(xs zs:List V),xs.length≠zs.length->eqL xs zs=false
 | [],[],h=>absurd rfl h
 | [],_::_,_=>rfl
 | _::_,[],_=>rfl
 | x::xs,z::zs,h=>by
  show(eqV x z&&eqL xs zs)=false;rw[Il xs zs (by simpa using h),Bool.and_false]
theorem qW (hu:X.A.units<cLine):OpR X (compareOp .NotEq) M8:=by
 intro pins s σ H x y v u Q I rx ry h;unfold M8 at h;split at h
 ·rename_i p q;unfold Zm at h;split at h
  ·rename_i xs zs e1 e2;obtain⟨f1,f2,q⟩:=h;cases rx;cases ry;obtain⟨its1,r1,pl1,hz1⟩:=I.list (SqL.of e1);obtain⟨its2,r2,pl2,hz2⟩:=I.list (SqL.of e2);have l1:=r1.length;have l2:=r2.length;by_cases hl:xs.length=zs.length
   ·refine SeqAt.RcNeAt.lists (e:=fun j=>match xs[j]?,zs[j]? with|some a,some b=>eqV a b|_,_=>true) pl1.isList pl2.isList (by simp only[size_toArray];omega) hu (fun j h1 h2=>?_) X.prog X.w X.xe (EP X pins σ Q) ?_
    ·have j1:j<xs.length:=by simp only[size_toArray] at h1;omega
     have j2:j<zs.length:=ω;have g1:xs[j]?=some xs[j]:=getElem?_eq_getElem j1;have g2:zs[j]?=some zs[j]:=getElem?_eq_getElem j2;obtain⟨u1,hu1,ru1⟩:=r1.get g1;obtain⟨u2,hu2,ru2⟩:=r2.get g2;have k1:its1.toArray[j]=u1:=by
      have:=List.getElem?_eq_some_iff.mp hu1;obtain⟨_,z⟩:=this;simpa using z
     have k2:its2.toArray[j]=u2:=by
      have:=List.getElem?_eq_some_iff.mp hu2;obtain⟨_,z⟩:=this;simpa using z
     rw[k1,k2,g1,g2];exact QJ ru1 ru2 (all_eq_true.mp f1 _ (getElem_mem j1)) (all_eq_true.mp f2 _ (getElem_mem j2))
    rw[show its1.toArray.size=xs.length by simp only[size_toArray];omega,Im xs zs hl];exact⟨.bl _,H,I,rfl,q⟩
   rw[Il xs zs hl] at q;refine SeqAt.RcNeAt.lists_lengths pl1.isList pl2.isList (by simp only[size_toArray,bne_iff_ne,ne_eq];omega) hu X.prog X.w X.xe (EP X pins σ Q) ⟨.bl _,H,I,rfl,q⟩
  exact h.elim
 exact Zi pins s σ H _ _ v u Q I rx ry h
noncomputable def inq (neg:Bool)(o:Option HO)(x:V)(H:Hp)(Q:VK):Prop:=match o with
 | some (.lst xs)=>iK x=true/\xs.all iK=true/\Q (.bl (if neg then !inV x xs else inV x xs)) H
 | some (.tup xs)=>iK x=true/\xs.all iK=true/\Q (.bl (if neg then !inV x xs else inV x xs)) H
 | _=>False
noncomputable def W2 (neg:Bool):R2:=fun x y H Q=>match y with
 | .ref p=>inq neg (H p) x H Q
 | _=>False
theorem W0 (neg:Bool)(x:V)(p:Addr)(H:Hp)(Q:VK):W2 neg x (.ref p) H Q=inq neg (H p) x H Q:=rfl
theorem Zv (neg:Bool)(x:V)(xs:List V)(H:Hp)(Q:VK):inq neg (some (.tup xs)) x H Q=(iK x=true/\xs.all iK=true/\Q (.bl (if neg then !inV x xs else inV x xs)) H):=rfl
theorem Yn {neg:Bool}{o:Option HO}{x:V}{H:Hp}{Q:VK}{p:Addr}{K:PySem.W.Frag}(e:H p=o)(h:inq neg o x H Q):rIn K neg x (.ref p) H Q:=by
 unfold inq at h;split at h
 ·rename_i xs;exact⟨p,xs,rfl,.inl (SqL.of e),h.1,h.2.1,h.2.2⟩
 ·rename_i xs;exact⟨p,xs,rfl,.inr (SqT.of e),h.1,h.2.1,h.2.2⟩
 exact h.elim
theorem Ol:OpR X (compareOp .In) (W2 false):=by
 intro pins s σ H x y v u Q I rx ry h;unfold W2 at h;split at h
 ·exact JK pins s σ H _ _ v u Q I rx ry (Yn rfl h)
 exact h.elim
end
theorem Rm {α:Type}(a b c:α):atI [a,b,c] (-1)=some c:=rfl
structure bT (H:Hp)(p:Addr)(B:Int):Prop where
 ex:∃a b c:Int,H p=some (.lst [.int a,.int b,.int c])/\0<=a/\0<=b/\b<2147483629/\0<=c/\c<=B
theorem bT.same {H H':Hp}{p:Addr}{B:Int}(h:bT H p B)(s:Same H H'):bT H' p B:=by
 obtain⟨a,b,c,e,r⟩:=h;exact⟨a,b,c,s _ _ e,r⟩
theorem bT.le {H:Hp}{p:Addr}{B B':Int}(h:bT H p B)(l:B<=B'):bT H p B':=by
 obtain⟨a,b,c,e,r1,r2,r3,r4,r5⟩:=h;exact⟨a,b,c,e,r1,r2,r3,r4,ω⟩
theorem bT.ne {H:Hp}{p q:Addr}{B:Int}(h:bT H p B)(n:H q=none):q≠p:=by
 obtain⟨a,b,c,e,_⟩:=h;exact(aF e n).symm
theorem two_pow_pos (k:Nat):(0:Int)<2^k:=Int.pow_pos δ
noncomputable def Mq (K:PySem.W.Frag):Sp:=fun vs H Q _=>∃(a:Addr)(ns:List Int)(k:Int),vs=[.ref a,.int k]/\SqL K H a (ns.map V.int)/\0<=k/\∀v:Int,Q (.int v) H
noncomputable def Mf (K:PySem.W.Frag):Sp:=fun vs H Q _=>∃(a:Addr)(ns:List Int)(k:Int),vs=[.ref a,.int k]/\SqL K H a (ns.map V.int)/\0<=k/\k<=100/\∀p H',H p=none->Same H H'->bT H' p 0->Q (.ref p) H'
noncomputable def oW (n:Nat):Sp:=fun vs H Q _=>∃(p:Addr)(m B:Int),vs=[.ref p,.int m]/\bT H p B/\B+(n:Int)<=1000100/\0<m/\m<2^70/\1<=n/\(1000000<=m->2<=n) /\
 ∀r H',0<=r->r<m->cF p H H'->bT H' p (B+n)->Q (.int r) H'
theorem Xg (c:Int):∃v:Int,atI [V.int 2147483587,V.int 2147483579,V.int 2147483563,V.int 2147483549,V.int 2147483543,V.int 2147483497,V.int 2147483489] (c%7)=some (.int v)/\0<v:=by
 have h1:0<=c%7:=emod_nonneg _ δ;have h2:c%7<7:=emod_lt_of_pos _ δ;generalize c%7=d at h1 h2;have h3:d=0\/d=1\/d=2\/d=3\/d=4\/d=5\/d=6:=ω;rcases h3 with rfl|rfl|rfl|rfl|rfl|rfl|rfl
 ·exact⟨_,bM (j:=0) rfl,δ⟩
 ·exact⟨_,bM (j:=1) rfl,δ⟩
 ·exact⟨_,bM (j:=2) rfl,δ⟩
 ·exact⟨_,bM (j:=3) rfl,δ⟩
 ·exact⟨_,bM (j:=4) rfl,δ⟩
 ·exact⟨_,bM (j:=5) rfl,δ⟩
 exact⟨_,bM (j:=6) rfl,δ⟩
noncomputable def wl (w s:Int):Int:=0-2^(w-1).toNat*s
theorem VN (y:Int):Builtin.bitAnd y 1=y%2:=by
 have:=PySem.W.kbt_mask y 1;simpa using this
inductive It1 where
 | one (a:Int)
 | rng (a b:Int)
 | bits (m v:Nat)
noncomputable def Gb (w s a:Int):Prop:=wl w s<=a/\a<wl w s+2^w.toNat
noncomputable def zV (w:Int)(n:Int):It1->Bool
 | .one a=>decide (n=a)
 | .rng a b=>decide (a<=n)&&decide (n<=b)
 | .bits m v=>decide ((n%2^w.toNat).toNat &&& m=v)
section
variable {mp:List (Option Nat)}{g:TG}{tc:TT}{te:TE}{σ:St}{H:Hp}{Q:VK}{R:It->Hp->Prop}{K:PySem.W.Frag}
theorem Gv {lo:Int}{n:Nat}(hR:R=GZ mp g tc te σ Q)(hz:n<=sizeLine)(Pv:Nat->List V->St->Hp->Prop)(h0:Pv 0 [] (lR mp σ) H)(hl:∀i acc τ H,Pv i acc τ H->acc.length<=i)
  (hs:∀i acc τ H,i<n->Pv i acc τ H->g (.int (lo+i)) τ H fun τ1 H4=>tc τ1 H4 fun b H5=>if b=true then te τ1 H5 fun v H6=>Pv (i+1) (acc++[v]) τ1 H6 else Pv (i+1) acc τ1 H5)
  (hd:∀acc τ H d,Pv n acc τ H->H d=none->Q (.ref d) (upd H d (.lst acc))):R (Itr lo n) H:=by
 refine qG hR n hz Pv h0 hl (fun i acc τ H hi _=>hi) (fun acc τ H _=>le_refl n) (fun i acc τ H x H3 hi p y=>?_) hd;obtain⟨rfl,rfl⟩:=y;exact hs i acc τ _ hi p
theorem rK {a:Addr}{xs:List V}(hR:R=GZ mp g tc te σ Q)(hz:xs.length<=sizeLine)(Pv:Nat->List V->St->Hp->Prop)(h0:Pv 0 [] (lR mp σ) H)(hl:∀i acc τ H,Pv i acc τ H->acc.length<=i)
  (hq:∀i acc τ H,Pv i acc τ H->SqL K H a xs)
  (hs:∀i x acc τ H,xs[i]?=some x->Pv i acc τ H->g x τ H fun τ1 H4=>tc τ1 H4 fun b H5=>if b=true then te τ1 H5 fun v H6=>Pv (i+1) (acc++[v]) τ1 H6 else Pv (i+1) acc τ1 H5)
  (hd:∀acc τ H d,Pv xs.length acc τ H->H d=none->Q (.ref d) (upd H d (.lst acc))):R (Itl K a) H:=by
 refine qG hR xs.length hz Pv h0 hl (fun i acc τ H hi p=>⟨xs,xs[i],hq i acc τ H p,getElem?_eq_getElem hi⟩) (fun acc τ H p=>⟨xs,hq _ acc τ H p,le_refl _⟩) (fun i acc τ H x H3 hi p y=>?_) hd;obtain⟨rfl,hx⟩:=y;exact hs i x acc τ _ (hx xs (hq i acc τ _ p)) p
theorem QZ {a:Addr}{xs:List V}(hR:R=GZ mp g tc te σ Q)(hz:xs.length<=sizeLine)(Pv:Nat->List V->St->Hp->Prop)(h0:Pv 0 [] (lR mp σ) H)(hl:∀i acc τ H,Pv i acc τ H->acc.length<=i)
  (hq:∀i acc τ H,Pv i acc τ H->SqL K H a xs)
  (hs:∀(i:Nat) x acc τ H p,xs[i]?=some x->Pv i acc τ H->H p=none->g (.ref p) τ (upd H p (.tup [.int (i:Nat),x])) fun τ1 H4=>tc τ1 H4 fun b H5=>if b=true then te τ1 H5 fun v H6=>Pv (i+1) (acc++[v]) τ1 H6 else Pv (i+1) acc τ1 H5)
  (hd:∀acc τ H d,Pv xs.length acc τ H->H d=none->Q (.ref d) (upd H d (.lst acc))):R (Ite K a) H:=by
 refine qG hR xs.length hz Pv h0 hl (fun i acc τ H hi p=>⟨xs,xs[i],hq i acc τ H p,getElem?_eq_getElem hi⟩) (fun acc τ H p=>⟨xs,hq _ acc τ H p,getElem?_eq_none (le_refl _)⟩) (fun i acc τ H x H3 hi p y=>?_) hd;obtain⟨q,x1,rfl,hq1,rfl,hx⟩:=y;exact hs i x1 acc τ _ q (hx xs (hq i acc τ _ p)) p hq1
end
noncomputable def kO (l:List Nat):List V:=l.map fun k=>V.int (k:Nat)
theorem qZ (l:List Nat)(k:Nat):kO (l++[k])=kO l++[.int (k:Nat)]:=by simp [kO]
theorem mH (l:List Nat):(kO l).length=l.length:=by simp [kO]
theorem Vm (g:TG)(gs:TGs)(x:V)(xs:List V)(σ:St)(H:Hp)(Q:St->Hp->Prop):Qt g gs (x::xs) σ H Q=g x σ H fun σ1 H1=>gs xs σ1 H1 Q:=
 propext ⟨fun⟨_,_,e,h⟩=>by cases e;exact h,fun h=>⟨x,xs,rfl,h⟩⟩
theorem Yp (σ:St)(H:Hp)(Q:St->Hp->Prop):Yq [] σ H Q=Q σ H:=propext ⟨fun h=>h.2,fun h=>⟨rfl,h⟩⟩
theorem Qz {a b:Int}{P:Int->Int->Prop}:(∃v w,(a=v/\b=w)/\P v w)=P a b:=propext ⟨fun⟨_,_,⟨h1,h2⟩,h⟩=>h1 ▸ h2 ▸ h,fun h=>⟨a,b,⟨rfl,rfl⟩,h⟩⟩
theorem jA {tc:TT}{ts us:TS}{D:Ends}{σ:St}{H:Hp}(h:∀kt ke,kt=ts D->ke=us D->tc σ H fun b H1=>if b=true then kt σ H1 else ke σ H1):Lx tc ts us D σ H:=h _ _ rfl rfl
theorem Sg {p:Addr}{H H':Hp}(h:cF p H H')(e:H p=none):Same H H':=fun b o hb=>h b o (aF hb e) hb
section
variable {X:Cx}{e o:Expr}{te to:TE}{pos:Pos}
noncomputable def apq (ob:Option HO)(l:Addr)(y:V)(H:Hp)(Q:VK):Prop:=match ob with
 | some (.lst xs)=>xs.length<sizeLine/\Q .non (upd H l (.lst (xs++[y])))
 | _=>False
noncomputable def isq (ob:Option HO):Prop:=match ob with
 | some (.lst _)=>True
 | _=>False
theorem Vd (xs:List V):isq (some (.lst xs))=True:=rfl
theorem Bl (xs:List V)(l:Addr)(y:V)(H:Hp)(Q:VK):apq (some (.lst xs)) l y H Q=(xs.length<sizeLine/\Q .non (upd H l (.lst (xs++[y])))):=rfl
noncomputable def YB (x:V)(te:TE)(σ:St)(H1:Hp)(Q:VK):Prop:=match x with
 | .ref l=>isq (H1 l)/\te σ H1 fun y H2=>apq (H2 l) l y H2 Q
 | _=>False
noncomputable def LK (to te:TE):TE:=fun σ H Q=>to σ H fun x H1=>YB x te σ H1 Q
theorem Lz (to te:TE)(σ:St)(H:Hp)(Q:VK):LK to te σ H Q=to σ H fun x H1=>YB x te σ H1 Q:=rfl
theorem Rq (l:Addr)(te:TE)(σ:St)(H1:Hp)(Q:VK):YB (.ref l) te σ H1 Q=(isq (H1 l)/\te σ H1 fun y H2=>apq (H2 l) l y H2 Q):=rfl
theorem T8 {apos cpos:Pos}(ho:PE X o to)(he:PE X e te)
  (hbase:attributeBase o "append" X.env (eval o X.env)=eval o X.env:=by rfl)
  (hfew:((backTo cpos (starEach [e] X.env)).all (fun x=>!x.1)&&(backToKw cpos (keywordEach [] X.env)).all (fun x=>x.1.isSome)
   && decide ([e].length+([]:List Keyword).length+(if ([]:List Keyword).isEmpty then 0 else 1)<30))=true:=by rfl)
  (hline:(apos.endLine == cpos.line)=true:=by rfl) (hs:starEach [e] X.env=(false,eval e X.env)::starEach [] X.env:=by rfl) (hplain:(backTo cpos (starEach [] X.env)).any (·.1)=false:=by rfl) :
  PE X (.Call (.Attribute o "append" apos) [e] [] cpos) (LK to te):=by
 intro pins s σ H Q I h;refine wpAny_Call_method_late hbase hfew hline rfl (thE (ho pins s σ H _ I h) fun v s1 x H1 I1 r1 q=>?_);cases x with
 | ref l=>
  obtain⟨q1,q2⟩:=q;cases el:H1 l with
  | none=>rw[el] at q1;exact q1.elim
  | some ob=>
   cases ob with
   | lst xs=>
    obtain⟨h1,h2⟩:=Wn (T := "list") I1 r1 (.inl ⟨rfl,xs,SqL.of el⟩);refine⟨"list","list.append",PySem.F.plainAttrs_list,PySem.F.slot_list_append,PySem.F.type_list_append,h1,h2,?_⟩;rw[hs];refine Calls.callWith_builtin (by show(false||(backTo cpos (starEach [] X.env)).any (·.1))=false;rw[hplain] <;> rfl) (Calls.evalArgs_plain ?_)
    refine Calls.spliced_cons (thE (he pins s1 σ H1 _ I1 q2) fun u s2 y H2 I2 r2 q3=>Calls.spliced_nil ?_);replace q3:apq (H2 l) l y H2 Q:=q3;cases el2:H2 l with
    | none=>rw[el2] at q3;exact q3.elim
    | some ob2=>
     cases ob2 with
     | lst ys=>
      rw[el2] at q3;exact JT pins s2 σ H2 (.ref l) [y] v [u] Q I2 r1 (.cons r2 .nil) ⟨l,ys,y,rfl,rfl,el2,q3.1,q3.2⟩
     | _=>rw[el2] at q3;exact q3.elim
   | _=>rw[el] at q1;exact q1.elim
 | _=>exact q.elim
theorem cJ {apos cpos:Pos}(ho:QE X o to)(he:QE X e te)
  (hbase:attributeBase o "append" X.env (eval o X.env)=eval o X.env:=by rfl)
  (hfew:((backTo cpos (starEach [e] X.env)).all (fun x=>!x.1)&&(backToKw cpos (keywordEach [] X.env)).all (fun x=>x.1.isSome)
   && decide ([e].length+([]:List Keyword).length+(if ([]:List Keyword).isEmpty then 0 else 1)<30))=true:=by rfl)
  (hline:(apos.endLine == cpos.line)=true:=by rfl) (hs:starEach [e] X.env=(false,eval e X.env)::starEach [] X.env:=by rfl) (hplain:(backTo cpos (starEach [] X.env)).any (·.1)=false:=by rfl) :
  QE X (.Call (.Attribute o "append" apos) [e] [] cpos) (LK to te):=⟨T8 ho.h he.h hbase hfew hline hs hplain⟩
noncomputable def slq (ob:Option HO)(lo hi:Option Int)(H:Hp)(Q:VK):Prop:=match ob with
 | some (.lst xs)=>∀p,H p=none->Q (.ref p) (upd H p (.lst (tK xs lo hi)))
 | some (.tup xs)=>¬(HT.sIx xs.length 0 lo=0/\HT.sIx xs.length xs.length hi=xs.length)/\∀p,H p=none->Q (.ref p) (upd H p (.tup (tK xs lo hi)))
 | _=>False
noncomputable def WN:V->Option Int->Option Int->Hp->VK->Prop:=fun x lo hi H Q=>match x with
 | .ref p=>slq (H p) lo hi H Q
 | _=>False
theorem M6 (p:Addr)(lo hi:Option Int)(H:Hp)(Q:VK):WN (.ref p) lo hi H Q=slq (H p) lo hi H Q:=rfl
theorem R7 (xs:List V)(lo hi:Option Int)(H:Hp)(Q:VK):slq (some (.tup xs)) lo hi H Q=(¬(HT.sIx xs.length 0 lo=0/\HT.sIx xs.length xs.length hi=xs.length)/\∀p,H p=none->Q (.ref p) (upd H p (.tup (tK xs lo hi)))):=rfl
theorem YQ:SlR X WN:=by
 intro pins s σ H x v vl vu lo hi sl Q I rx hs pl pu h;unfold WN at h;split at h
 ·rename_i p;unfold slq at h;split at h
  ·rename_i xs e;exact R8 pins s σ H _ v vl vu lo hi sl Q I rx hs pl pu ⟨p,xs,rfl,SqL.of e,h⟩
  ·rename_i xs e;exact Wz pins s σ H _ v vl vu lo hi sl Q I rx hs pl pu ⟨p,xs,rfl,SqT.of e,h.1,h.2⟩
  exact h.elim
 exact h.elim
structure QO (X:Cx)(e:Option Expr)(t:TO):Prop where
 h:PO X e t
theorem Hw:QO X none zc:=⟨Tv⟩
theorem Hv (h:QE X e te):QO X (some e) (Lq te):=⟨Tt h.h⟩
theorem Cp {r:V->Option Int->Option Int->Hp->VK->Prop}{lo hi:Option Expr}{tl th:TO}{p2:Pos}(hr:SlR X r)(he:QE X e te)(hl:QO X lo tl)(hu:QO X hi th):QE X (.Subscript e (.Slice lo hi none p2) pos) (tSl r te tl th):=⟨Od hr he.h hl.h hu.h⟩
noncomputable def rpq (ob:Option HO)(k:Int)(H:Hp)(Q:VK):Prop:=match ob with
 | some (.lst xs)=>-(2^63)<=k/\k<2^63/\xs.length*k.toNat<=sizeLine/\∀p,H p=none->Q (.ref p) (upd H p (.lst (List.replicate k.toNat xs).flatten))
 | _=>False
noncomputable def M9:R2:=fun x y H Q=>match x,y with
 | .ref p,.int k=>rpq (H p) k H Q
 | x,y=>rI K1 (fun i j=>.int (i*j)) x y H Q
theorem Sq (i j:Int)(H:Hp)(Q:VK):M9 (.int i) (.int j) H Q=rI K1 (fun i j=>.int (i*j)) (.int i) (.int j) H Q:=rfl
theorem eE:OpR X (binaryOp .Mult) M9:=by
 intro pins s σ H x y v u Q I rx ry h;unfold M9 at h;split at h
 ·rename_i p k;unfold rpq at h;split at h
  ·rename_i xs e;exact Xw pins s σ H _ _ v u Q I rx ry ⟨p,k,xs,rfl,rfl,e,h.1,h.2.1,h.2.2.1,h.2.2.2⟩
  exact h.elim
 exact Xx pins s σ H _ _ v u Q I rx ry h
noncomputable def eqo (ob:Option HO)(H:Hp)(Q:VK):Prop:=match ob with
 | some (.lst _)=>Q (.bl false) H
 | some (.tup _)=>Q (.bl false) H
 | _=>False
noncomputable def Jy:R2:=fun x y H Q=>match x,y with
 | .ref p,.str _=>eqo (H p) H Q
 | x,y=>rEq x y H Q
theorem Sx (i j:Int)(H:Hp)(Q:VK):Jy (.int i) (.int j) H Q=rEq (.int i) (.int j) H Q:=rfl
theorem Sy (i j:Bool)(H:Hp)(Q:VK):Jy (.bl i) (.bl j) H Q=rEq (.bl i) (.bl j) H Q:=rfl
theorem Sv (i j:Str)(H:Hp)(Q:VK):Jy (.str i) (.str j) H Q=rEq (.str i) (.str j) H Q:=rfl
theorem Sw (H:Hp)(Q:VK):Jy .non .non H Q=rEq .non .non H Q:=rfl
theorem b7 (hu:X.A.units<cLine):OpR X (compareOp .Eq) Jy:=by
 intro pins s σ H x y v u Q I rx ry h;unfold Jy at h;split at h
 ·rename_i p z;cases rx;obtain⟨t,rfl⟩:=ry;unfold eqo at h;split at h
  ·rename_i xs e;obtain⟨its,r,pl,hz⟩:=I.list (SqL.of e);exact SeqAt.RcAt.list_str z t pl.isList hu X.prog X.w X.xe (EP X pins σ Q) ⟨.bl false,H,I,rfl,h⟩
  ·rename_i xs e;obtain⟨its,r,pl,hz⟩:=I.tuple (SqT.of e);exact SeqAt.RcAt.tuple_str z t pl hu X.prog X.w X.xe (EP X pins σ Q) ⟨.bl false,H,I,rfl,h⟩
  exact h.elim
 exact Zj pins s σ H _ _ v u Q I rx ry h
end
mutual
inductive aN (ok:Addr->Prop)(H:Hp):V->PyData->Prop
 | non:aN ok H .non .none
 | bl (b:Bool):aN ok H (.bl b) (.bool b)
 | int (i:Int):aN ok H (.int i) (.int i)
 | str (x:Str):aN ok H (.str x) (.str x)
 | lst {p:Addr} {xs:List V} {ds:List PyData}:ok p->H p=some (.lst xs)->xs.length<=1000000->aM ok H xs ds->aN ok H (.ref p) (.list ds)
 | tup {p:Addr} {xs:List V} {ds:List PyData}:ok p->H p=some (.tup xs)->xs.length<=1000000->aM ok H xs ds->aN ok H (.ref p) (.tuple ds)
inductive aM (ok:Addr->Prop)(H:Hp):List V->List PyData->Prop
 | nil:aM ok H [] []
 | cons {x:V} {d:PyData} {xs:List V} {ds:List PyData}:aN ok H x d->aM ok H xs ds->aM ok H (x::xs) (d::ds)
end
mutual
theorem aN.keep {ok ok':Addr->Prop}{H H':Hp}(k:∀a o,ok a->H a=some o->ok' a/\H' a=some o):∀{v:V}{d:PyData},aN ok H v d->aN ok' H' v d
 | _,_,.non=>.non
 | _,_,.bl b=>.bl b
 | _,_,.int i=>.int i
 | _,_,.str x=>.str x
 | _,_,.lst o e z t=>.lst (k _ _ o e).1 (k _ _ o e).2 z (aM.keep k t)
 | _,_,.tup o e z t=>.tup (k _ _ o e).1 (k _ _ o e).2 z (aM.keep k t)
theorem aM.keep {ok ok':Addr->Prop}{H H':Hp}(k:∀a o,ok a->H a=some o->ok' a/\H' a=some o):∀{vs:List V}{ds:List PyData},aM ok H vs ds->aM ok' H' vs ds
 | _,_,.nil=>.nil
 | _,_,.cons t r=>.cons (aN.keep k t) (aM.keep k r)
end
theorem aN.same {ok:Addr->Prop}{H H':Hp}{v:V}{d:PyData}(t:aN ok H v d)(s:Same H H'):aN ok H' v d:=t.keep fun a o h e=>⟨h,s a o e⟩
theorem aM.same {ok:Addr->Prop}{H H':Hp}{v:List V}{d:List PyData}(t:aM ok H v d)(s:Same H H'):aM ok H' v d:=t.keep fun a o h e=>⟨h,s a o e⟩
theorem aM.length {ok:Addr->Prop}{H:Hp}:∀{vs:List V}{ds:List PyData},aM ok H vs ds->vs.length=ds.length
 | _,_,.nil=>rfl
 | _,_,.cons _ r=>by rw[length_cons,length_cons,r.length]
theorem aM.append {ok:Addr->Prop}{H:Hp}:∀{vs ws:List V}{ds es:List PyData},aM ok H vs ds->aM ok H ws es->aM ok H (vs++ws) (ds++es)
 | _,_,_,_,.nil,t=>t
 | _,_,_,_,.cons h r,t=>.cons h (r.append t)
theorem aM.get {ok:Addr->Prop}{H:Hp}:∀{vs:List V}{ds:List PyData}{i:Nat}{v:V},aM ok H vs ds->vs[i]?=some v->∃d,ds[i]?=some d/\aN ok H v d
 | _,_,0,_,.cons h _,e=>by cases e;exact⟨_,rfl,h⟩
 | _,_,i+1,_,.cons _ r,e=>aM.get r (i:=i) e
section
variable {X:Cx}{pins:List (Addr×Obj)}{σ:St}{H:Hp}{s:Shared}{ok:Addr->Prop}
mutual
theorem aN.reads (I:Inv X pins σ H s):∀{v:V}{d:PyData}{u:Value},aN ok H v d->RelV v u->∃as,Reads s.heap u d as
 | _,_,_,.non,r=>by cases r;exact⟨_,.none⟩
 | _,_,_,.bl b,r=>by cases r;exact⟨_,.bool b⟩
 | _,_,_,.int i,r=>by obtain⟨t,rfl⟩:=r;exact⟨_,.int i t⟩
 | _,_,_,.str x,r=>by obtain⟨t,rfl⟩:=r;exact⟨_,.str x t⟩
 | _,_,_,.lst o e z t,r=>by
  cases r;obtain⟨its,rv,pl,hz⟩:=I.list (SqL.of e);obtain⟨ob,h1,h2,n,h3⟩:=pl.isList;obtain⟨as,h4⟩:=aM.reads I t rv;exact⟨_,.list h1 h2 h3 (by simpa using h4)⟩
 | _,_,_,.tup o e z t,r=>by
  cases r;obtain⟨its,rv,pl,hz⟩:=I.tuple (SqT.of e);obtain⟨ob,h1,h2,n,h3⟩:=pl;obtain⟨as,h4⟩:=aM.reads I t rv;exact⟨_,.tuple h1 h2 h3 (by simpa using h4)⟩
theorem aM.reads (I:Inv X pins σ H s):∀{vs:List V}{ds:List PyData}{us:List Value},aM ok H vs ds->Vals vs us->∃as,ReadsAll s.heap us ds as
 | _,_,_,.nil,r=>by cases r;exact⟨_,.nil⟩
 | _,_,_,.cons h t,r=>by
  cases r with
  | cons r1 r2=>
   obtain⟨as,h1⟩:=aN.reads I h r1;obtain⟨bs,h2⟩:=aM.reads I t r2;exact⟨_,.cons h1 h2⟩
end
end
mutual
noncomputable def nodes:PyData->Nat
 | .list ds=>1+dR ds
 | .tuple ds=>1+dR ds
 | _=>1
noncomputable def dR:List PyData->Nat
 | []=>0
 | d::ds=>nodes d+dR ds
end
mutual
noncomputable def smD:PyData->Bool
 | .none=>true
 | .bool _=>true
 | .int i=>decide (i.natAbs<2^50\/i.natAbs=10^20\/i.natAbs<2^55)
 | .str x=>decide ((reprText x).length<=50)
 | .list ds=>Mr ds
 | .tuple ds=>Mr ds
 | .dict _=>false
noncomputable def Mr:List PyData->Bool
 | []=>true
 | d::ds=>smD d&&Mr ds
end
theorem Ve {i:Int}(h:i.natAbs<2^70):(Str.ofString (toString i)).length<=71:=by
 rw[PySem.ofString_length];have:=int_text_length_le10 (a:=i) (k:=30) δ ω;omega
section
variable {X:Cx}{tg l:Expr}{tl:TE}
noncomputable def itq (K:PySem.W.Frag)(ob:Option HO)(a:Addr)(H:Hp)(R:It->Hp->Prop):Prop:=match ob with
 | some (.lst _)=>R (Itl K a) H
 | some (.tup _)=>R (Itt K a) H
 | _=>False
noncomputable def itK (K:PySem.W.Frag)(x:V)(H:Hp)(R:It->Hp->Prop):Prop:=match x with
 | .ref a=>itq K (H a) a H R
 | _=>False
noncomputable def Qk (K:PySem.W.Frag)(tl:TE):TI:=fun σ H R=>tl σ H fun x H1=>itK K x H1 R
theorem Qj (K:PySem.W.Frag)(tl:TE)(σ:St)(H:Hp)(R:It->Hp->Prop):Qk K tl σ H R=tl σ H fun x H1=>itK K x H1 R:=rfl
theorem Vc (K:PySem.W.Frag)(a:Addr)(H:Hp)(R:It->Hp->Prop):itK K (.ref a) H R=itq K (H a) a H R:=rfl
theorem Vb (K:PySem.W.Frag)(xs:List V)(a:Addr)(H:Hp)(R:It->Hp->Prop):itq K (some (.lst xs)) a H R=R (Itl K a) H:=rfl
theorem TQ (hl:PE X l tl):PI X tg l (Qk X.K tl):=by
 intro pins s σ H R I h;refine thn (hl pins s σ H _ I h) fun v s1 ⟨x,H1,I1,r1,q1⟩=>?_;cases x with
 | ref a=>
  replace q1:itq X.K (H1 a) a H1 R:=q1;cases r1;unfold itq at q1;split at q1
  ·rename_i xs e;obtain⟨its,rv,p,hz⟩:=I1.list (SqL.of e);refine wpAny_pyIter_list p.isList ?_;refine⟨s1.heap.objs.size,[s1.heap.objs.size],_,_,H1,rfl,I1.kept (t':=s1.toks) fun b o e=>get?_push_of_some _ e,Jg a _,⟨_,get?_push_size _ rfl,rfl,rfl⟩,fun b hb=>?_,q1⟩;have e:b=s1.heap.objs.size:=by simpa using hb
   subst e;exact I1.Dq (le_refl _) (I1.hok.fresh (le_refl _))
  ·rename_i xs e;obtain⟨its,rv,p,hz⟩:=I1.tuple (SqT.of e);refine wpAny_pyIter_tuple (show s1.heap.IsTuple a its.toArray from p) ?_;refine⟨s1.heap.objs.size,[s1.heap.objs.size],_,_,H1,rfl,I1.kept (t':=s1.toks) fun b o e=>get?_push_of_some _ e,Eg a _,⟨_,get?_push_size _ rfl,rfl,rfl⟩,fun b hb=>?_,q1⟩;have e:b=s1.heap.objs.size:=by simpa using hb
   subst e;exact I1.Dq (le_refl _) (I1.hok.fresh (le_refl _))
  exact q1.elim
 | _=>exact q1.elim
theorem fD (hl:QE X l tl):QI X tg l (Qk X.K tl):=⟨TQ hl.h⟩
end
noncomputable def FZ:PyData->Bool
 | .int _=>true
 | _=>false
section
variable {X:Cx}{NX N:List Str}{kX:List (Str×NameKind)}{mp:List (Option Nat)}{scope:Scope}
set_option maxHeartbeats 8000000 in
theorem Tj {tg iter elt:Expr}{ifs:List Expr}{pos pos' pos2:Pos}{wi:TI}{g:TG}{tc:TT}{te:TE}{i:Nat}{x:Str}(N:List Str)(mp:List (Option Nat))(hn:Nm X.N X.env.scope i x)(hNd:X.N.Nodup)(hNX:X.N=NX)(hkX:X.env.scope.names=kX)(S:yW NX kX N mp scope)(hc:X.calm=true)
  (hi:PI X tg iter wi) (hg:∀cl C s H fp,PG (bZ X N scope cl C s H fp) tg g) (ht:∀cl C s H fp,PTs (bZ X N scope cl C s H fp) ifs tc) (he:∀cl C s H fp,PE (bZ X N scope cl C s H fp) elt te)
  (hf:X.fn x=true\/X.env.scope.names.lookup x=some .local:=by exact .inl rfl)
  (hsw:swapsWithSole [.Name x pos'] (.ListComp elt [⟨tg,iter,ifs,0⟩] scope pos) pos2.line X.env=pure true:=by rfl)
  (h1:(assignEach [.Name x pos'] X.env).map (·.2)=[assign (.Name x pos') X.env]:=by rfl)
  (hs:∀x,foldedSetIterable iter X.env x=pure x:=by intro _;rfl):PS X (.Assign [.Name x pos'] (.ListComp elt [⟨tg,iter,ifs,0⟩] scope pos) pos2) (wB (uf mp wi g tc te) (j6 i)):=by
 intro pins s σ H Dn I h;rw[exec_Assign_arm];refine wpAny_bind (wpAny_standAt ?_);rw[hsw];refine wpAny_bind (wpAny_pure ?_);rw[if_pos rfl,h1];replace h:uf mp wi g tc te σ H (fun v H1=>Dn.nx (σ.set i (some v)) H1):=h;obtain⟨cl,hcl,hsub,hhas⟩:=Iw (env:=X.env) (scope:=scope) fun y hy hf=>I.ok.has y.1 (by
  rcases S.fre y hy hf with q|q
  ·exact .inl (show X.env.scope.names.lookup y.1=_ by rw[hkX];exact q)
  exact .inr (show X.env.scope.names.lookup y.1=_ by rw[hkX];exact q))
 generalize hQ:(fun(v:V)(H1:Hp)=>Dn.nx (σ.set i (some v)) H1)=Q at h
 let QQ:Value->Shared->Prop:=fun _ s'=>∃τ H',Inv X pins τ H' s'/\Dn.nx τ H'
 refine wpAny_bind (wpAny_bind (thn (Q:=QQ) (wpAny_comprehension_free (e:=.ListComp elt [⟨tg,iter,ifs,0⟩] scope pos) (use:=some fun v=>assignAll v [assign (.Name x pos') X.env]) rfl hs hcl S.kind S.locs ?_) fun _ s' ⟨τ,H',I',q'⟩=>wpAny_pure (wpAny_pure ⟨τ,H',I',q'⟩)));refine thn (hi pins s σ H _ I h) fun v s1 h1=>thn h1 fun itv s2 h2=>?_;obtain⟨it,fp,tn,J,H2,e,I2,T,st2,f2,W,⟨m0,w0⟩,turn⟩:=h2;subst e;refine wpAny_newObj_type (wpAny_newFunctionEnv S.nocell (by intro y hy;simp at hy) (fun h3 hns hsb=>?_) S.kind);dsimp only at hns hsb |-;have hold:∀b∈fp,b<s2.heap.objs.size:=fun b hb=>by
  obtain⟨o,q,_⟩:=T.obj _ _ st2 b hb;exact lt_size q
 generalize hD:s2.heap.objs.size=D at hns hsb;generalize hH2:s2.heap.push { cls:=.type "list",dict:=none,data:=.seq ([]:List Value).toArray }=P2 at hns hsb |-;have hC:P2.objs.size=D+1:=by rw[<- hH2,size_push,hD]
 generalize hC':P2.objs.size=C at hns hsb |-;rw[hC'] at hC;have old:∀b o,s2.heap.get? b=some o->h3.get? b=some o:=fun b o q=>by
  have hb:=lt_size q;exact hsb.extBut b o (na1 hb hD hC) (get?_push_of_some _ (hH2 ▸ get?_push_of_some _ q))
 have accD:h3.get? D=some { cls:=.type "list",data:=.seq ([]:List Value).toArray }:=
  hsb.extBut _ _ (na2 hC) (get?_push_of_some _ (by rw[<- hH2,<- hD];exact get?_push_size _ rfl))
 have hfr:D∉frs X.stack:=fun z=>by
  rcases mem_cons.mp (I2.uq D z) with q|q
  ·exact na0 I2.lt hD q.symm
  exact I2.XH (na4 hD) q
 have I0:Inv (bZ X N scope cl C s2 H2 fp) [(D,{ cls:=.type "list",data:=.seq ([]:List Value).toArray })] (lR mp σ) H2 { s2 with heap:=h3,toks:=s2.toks+([]:List (Str×Value)).length }:=
  Iv (s':={ s2 with heap:=h3,toks:=s2.toks+([]:List (Str×Value)).length }) hNX hkX S I2 f2 hold (na3 hD hC) hsub hhas rfl rfl ⟨_,hns⟩ old fun p hp=>by
   have ep:=mem_singleton.mp hp;subst ep;exact⟨accD,I2.hok.fresh (na4 hD),na2 hC,hfr,fun v z=>by cases z⟩
 have T0:tn 0 h3:=T.keep _ _ _ st2 fun b _ o q=>old b o q;have loop:∀z:Shared,z={ s2 with heap:=h3,toks:=s2.toks+([]:List (Str×Value)).length } ->
   codeAny (model X.prog X.w) X.A (.compLoop (.ListComp elt [⟨tg,iter,ifs,0⟩] scope pos) 0 (.ref it) (.ref D) (compEnvC scope cl C X.env))
    (compPost (model X.prog X.w) X.A X.xe (some fun v=>assignAll v [assign (.Name x pos') X.env]) QQ (.ref D) C) z:=by
  rintro z rfl;have stat:∀{H':Hp}{pl:List (Addr×Obj)},(∀b∈fp,H' b=none)->(∀p∈pl,p.1=D)->∀b∈fp,rO (bZ X N scope cl C s2 H2 fp) pl H' b:=fun hn hp b hb=>by
   have hb2:=hold b hb;refine⟨hn b hb,na1 hb2 hD hC,(Gw hkX S I2 f2 hold (na3 hD hC) hsub hhas).exfs b hb,.inl hb,fun x c q=>(f2 b hb).2.2.2.2.1 x c (hsub x c q),fun p hpp=>?_⟩;have hpD:=hp p (by simpa [bZ] using hpp);rw[hpD];exact(na0 hb2 hD).symm
  refine yO (env:=compEnvC scope cl C X.env) (fun n z=>∃i acc τ H' its k,Inv (bZ X N scope cl C s2 H2 fp) [(D,{ cls:=.type "list",data:=.seq (List.toArray its) k })] τ H' z/\tn i z.heap/\(∀b∈fp,H' b=none)/\Vals acc its/\acc.length<=sizeLine/\W i n acc τ H')
   ?_ m0 ⟨0,[],_,H2,[],0,I0,T0,fun b hb=>(f2 b hb).1,.nil,zero_le _,w0⟩
  rintro n s5 ⟨i,acc,τ,H5,its,k,I5,st5,fr5,va,hz,w5⟩;rcases turn i n acc τ H5 w5 with⟨stop,qn⟩|⟨go,hz2,N9,hN9,step⟩
  ·refine thn (T.done (bZ X N scope cl C s2 H2 fp) rfl rfl rfl hc i _ s5 τ H5 _ I5 (stat fr5 (by simp)) st5 stop) fun r s6 ⟨hr,I6⟩=>?_;subst hr;obtain⟨m6,hn6,_⟩:=I6.loc;obtain⟨dD,nD,_,_,_⟩:=I6.pin (D,_) (mem_append_right _ (mem_singleton.mpr rfl));have U:=I6.base;have nC:H5 C=none:=I6.free;have ne:∀b o,s2.heap.get? b=some o->b≠C/\b≠D:=fun b o q=>by
    exact⟨na1 (lt_size q) hD hC,na0 (lt_size q) hD⟩
   have key:∀h',Heap.SameBut C s6.heap h'->Inv X pins σ (upd H5 D (.lst acc)) { s6 with heap:=h' }:=fun h' sb=>by
    have keepC:∀b o,b≠C->s6.heap.get? b=some o->h'.get? b=some o:=fun b o hb q=>(sb.2 b hb).trans q;have U':Un (frs X.stack) fp H2 (upd H5 D (.lst acc)) s2.heap h':=by
     refine⟨fun b o q n1 hb hx=>keepC b o (ne b o q).1 (U.keep b o q n1 hb hx),fun b o q n1 hb hx=>?_,fun b o q n1 hx=>?_,fun b o q hx=>?_,fun b xs q=>?_,fun b o xs q=>?_,fun b ps q=>?_⟩
     ·obtain⟨sl,z⟩:=U.slot b o q n1 hb hx;exact⟨sl,keepC b _ (ne b o q).1 z⟩
     ·rw[aH (ne b o q).2];exact U.free b o q n1 hx
     ·obtain⟨o',z⟩:=U.there b o q hx;exact⟨o',keepC b _ (ne b o q).1 z⟩
     ·have z:=U.tups b xs q;rw[aH (aF z nD)];exact z
     ·have z:=U.frzs b o xs q;rw[aH (aF z nD)];exact z
     obtain⟨more,z⟩:=U.tbls b ps q;exact⟨more,by rw[aH (aF z nD)];exact z⟩
    have hok:HOk X.prog X.w (upd H5 D (.lst acc)) h':=fun b u q=>by
     by_cases hb:b=D
     ·subst hb;rw[aB] at q;cases q;exact⟨hz,its,k,va,keepC _ _ (na2 hC) dD⟩
     rw[aH hb] at q;refine(I6.hok b u q).stay (fun c v hcc z=>keepC c v ?_ z) (fun c z=>by rw[aH (aF z nD)];exact z) fun c xs z=>by rw[aH (aF z nD)];exact z
     rcases hcc with z1|z1
     ·subst z1;exact aF q nC
     exact aF z1 nC
    have I7:Inv X pins σ (upd H5 D (.lst acc)) { s6 with heap:=h' }:=I2.call' (s':={ s6 with heap:=h' }) (ch:=fp) I6.os U' hok I6.bare fun b hb=>by
     obtain⟨_,a2,_,a4,a5,a6⟩:=f2 b hb;exact⟨a4,a2,a5,a6⟩
    exact I7
   have I7:Inv X pins σ (upd H5 D (.lst acc)) s6:=key s6.heap (Heap.SameBut.refl _ _);have lC:X.env.locals≠C:=na1 I2.lt hD hC;have cC:∀y c,X.env.cells.lookup y=some c->c≠C:=fun y c z=>by
    obtain⟨_,o,h1,_⟩:=I2.cell y c z;exact na1 (lt_size h1) hD hC
   show wpAny _ _ (assign (.Name x pos') X.env (.ref D)) _ _ s6;refine wpAny_assign_Name (xH (v:=.ref D) I7 hNd hn.hN hn.hv rfl (fun s7 I8 ⟨a,sa,ha⟩=>?_) hf);have aC:a≠C:=by
    rcases ha with rfl|ha
    ·exact lC
    exact cC _ _ ha
   obtain⟨o6,es6,ep6,g1,g2,g3,g4⟩:=hn6;refine⟨m6,⟨o6,es6,ep6,(sa.2 C (Ne.symm aC)).trans g1,g2,g3,g4⟩,fun h' sb=>?_⟩;have q9:=qn D nD;rw[<- hQ] at q9;refine⟨_,_,I8.turned (it:=C) (t':=s7.toks) (fun b o hb q=>(sb.2 b hb).trans q) ?_ (Ne.symm lC) (.inr (le_trans I2.sz (na3 hD hC))) cC (fun p hp=>?_),q9⟩
   ·rw[aH (Ne.symm (na2 hC))];exact nC
   obtain⟨h1,_⟩:=I2.pin p hp;exact na1 (lt_size h1) hD hC
  refine thn (T.item (bZ X N scope cl C s2 H2 fp) rfl rfl rfl hc i _ s5 τ H5 _ I5 (stat fr5 (by simp)) st5 go) fun r s6 ⟨u,hr,h6⟩=>?_;subst hr;refine thn h6 fun _ s7 ⟨x,H7,I7,r7,y7,st7,fr7⟩=>?_;have I7':=I7.pinned (stat fr7 (by simp)) (T.obj _ _ st7);have no:∀{α:Type}{t:Sem α}{Q1 Q2:α->Shared->Prop}{E:Value->Shared->Prop}{z:Shared},wpAny (model X.prog X.w) X.A t Q1 (fun _ _=>False) z->(∀a z,Q1 a z->Q2 a z)->wpAny (model X.prog X.w) X.A t Q2 E z:=
   fun q f=>wpAny_mono q f fun _ _ z=>z.elim
  refine no (hg cl C s2 H2 fp _ s7 τ H7 x u _ I7' r7 (step x H7 y7)) fun _ s8 ⟨τ1,H8,I8,q8⟩=>?_;refine no (ht cl C s2 H2 fp _ s8 τ1 H8 _ I8 q8) fun ok s9 ⟨H9,I9,q9⟩=>?_;have again:∀{H':Hp}{z:Shared}{its':List Value}{k':Nat},Inv (bZ X N scope cl C s2 H2 fp) ([(D,{ cls:=.type "list",data:=.seq (List.toArray its') k' })]++jH fp s7.heap) τ1 H' z ->
    tn (i+1) z.heap/\(∀b∈fp,H' b=none)/\Inv (bZ X N scope cl C s2 H2 fp) [(D,{ cls:=.type "list",data:=.seq (List.toArray its') k' })] τ1 H' z:=fun {H' z its' k'} Iz=>by
   have get:∀b∈fp,∀o,s7.heap.get? b=some o->z.heap.get? b=some o/\H' b=none:=fun b hb o q=>by
    obtain⟨a1,a2,_⟩:=Iz.pin (b,o) (mem_append_right _ (mem_append_right _ (lA hb q)));exact⟨a1,a2⟩
   refine⟨T.keep _ _ _ st7 fun b hb o q=>(get b hb o q).1,fun b hb=>?_,Iz.lQ⟩;obtain⟨o,q,_⟩:=T.obj _ _ st7 b hb;exact(get b hb o q).2
  cases ok with
  | false=>
   rw[if_neg Bool.false_ne_true] at q9 |-;obtain⟨m',hm,w9⟩:=hN9 _ _ _ q9;obtain⟨a1,a2,a3⟩:=again I9;exact⟨m',hm,i+1,acc,τ1,H9,its,k,a3,a1,a2,va,hz,w9⟩
  | true=>
   rw[if_pos rfl] at q9 |-;refine no (he cl C s2 H2 fp _ s9 τ1 H9 _ I9 q9) fun y s10 ⟨v,H10,I10,rv,q10⟩=>?_;obtain⟨m',hm,w10⟩:=hN9 _ _ _ q10;obtain⟨a1,a2,a3⟩:=again I10;obtain⟨dD,nD,_,_,_⟩:=a3.pin (D,_) (mem_append_right _ (mem_singleton.mpr rfl));have hlen:=va.length;refine call_meets F.slot_list_append ⟨_,dD,rfl⟩ F.entry_list_append (F.args_list_append_2 _ _) (PySem.list_append D its.toArray k y (by rw[size_toArray];omega)) ⟨dD,?_⟩;obtain⟨k',q⟩:∃k',(s10.heap.update D (Obj.mapSeq fun a=>a.push y)).get? D=some { cls:=.type "list",data:=.seq (its++[y]).toArray k' }:=by
    have q:=PySem.IsL.update dD (fun a=>a.push y);rw[show its.toArray.push y=(its++[y]).toArray by simp] at q;exact⟨_,q⟩
   have a4:Inv (bZ X N scope cl C s2 H2 fp) (jH fp s7.heap) τ1 H10 s10:=I10.nA fun p hp=>I10.pin p (mem_append_right _ (mem_append_right _ hp));have a5:Inv (bZ X N scope cl C s2 H2 fp) (jH fp s7.heap) τ1 H10 { s10 with heap:=s10.heap.update D (Obj.mapSeq fun a=>a.push y),toks:=s10.toks }:=
    a4.turned (it:=D) (fun b o hb z=>(get?_update_other _ _ (Ne.symm hb)).trans z) nD (na2 hC) (.inr (na4 hD))
     (fun x c z=>by
      obtain⟨_,o,h1,_⟩:=I2.cell x c (hsub x c z);exact na0 (lt_size h1) hD) fun p hp=>by
      have hb:=(qX (by simpa [bZ] using hp)).1;exact na0 (hold _ hb) hD
   obtain⟨b1,b2,b3⟩:=(show tn (i+1) (s10.heap.update D (Obj.mapSeq fun a=>a.push y))/\(∀b∈fp,H10 b=none)/\True from
    ⟨T.keep _ _ _ a1 fun b hb o z=>(get?_update_other _ _ (na0 (hold b hb) hD).symm).trans z,a2,trivial⟩)
   refine⟨m',hm,i+1,acc++[v],τ1,H10,its++[y],k',a5.nA fun p hp=>?_,b1,b2,va.append (.cons rv .nil),by rw[length_append,length_singleton];omega,w10⟩;have ep:=mem_singleton.mp hp;subst ep;exact⟨q,nD,na2 hC,hfr,fun v z=>by cases z⟩
 have e1:{ newEnv scope C X.env.globals cl X.env.qual none .none (some X.env) X.env.builtins with scope:=relabel scope X.env }=compEnvC scope cl C X.env:=rfl;exact codeAny_compStart_list (loop _ rfl) (T.self _ 0 _ _ _ T0 (loop _ rfl))
theorem pY {tg iter elt:Expr}{ifs:List Expr}{pos pos' pos2:Pos}{wi:TI}{g:TG}{tc:TT}{te:TE}{i:Nat}{x:Str}(N:List Str)(mp:List (Option Nat))(hn:Nm X.N X.env.scope i x)(hNd:X.N.Nodup)(hNX:X.N=NX)(hkX:X.env.scope.names=kX)(S:yW NX kX N mp scope)(hc:X.calm=true)
  (hi:QI X tg iter wi) (hg:∀cl C s H fp,QG (bZ X N scope cl C s H fp) tg g) (ht:∀cl C s H fp,QC (bZ X N scope cl C s H fp) ifs tc) (he:∀cl C s H fp,QE (bZ X N scope cl C s H fp) elt te)
  (hf:X.fn x=true\/X.env.scope.names.lookup x=some .local:=by exact .inl rfl)
  (hsw:swapsWithSole [.Name x pos'] (.ListComp elt [⟨tg,iter,ifs,0⟩] scope pos) pos2.line X.env=pure true:=by rfl)
  (h1:(assignEach [.Name x pos'] X.env).map (·.2)=[assign (.Name x pos') X.env]:=by rfl)
  (hs:∀x,foldedSetIterable iter X.env x=pure x:=by intro _;rfl):QS X (.Assign [.Name x pos'] (.ListComp elt [⟨tg,iter,ifs,0⟩] scope pos) pos2) (wB (uf mp wi g tc te) (j6 i)):=
 ⟨Tj N mp hn hNd hNX hkX S hc hi.h (fun cl C s H fp=>(hg cl C s H fp).h) (fun cl C s H fp=>(ht cl C s H fp).h) (fun cl C s H fp=>(he cl C s H fp).h) hf hsw h1 hs⟩
end
noncomputable def Yk (d:PyData)(z:Str):Bool:=match d with
 | .str x=>decide (x=z)
 | _=>false
theorem xM {p c:Addr}{H H':Hp}{o:HO}(s:cF p H H')(h:H c=none):cF p H (upd H' c o):=fun b u n e=>by
 rw[aH (aF e h)];exact s b u n e
theorem bT.upd {H:Hp}{p c:Addr}{B:Int}{o:HO}(t:bT H p B)(n:c≠p):bT (upd H c o) p B:=by
 obtain⟨a,b,c',e,r⟩:=t;exact⟨a,b,c',by rw[aH (Ne.symm n)];exact e,r⟩
theorem gW.V1 {k:Nat}{A:Around}(r:gW k A):A.units+200<cLine:=by have:=r.un;omega
theorem Va {n:Nat}{i:Int}(h0:0<=i)(h:i<n):ixN n i=some i.toNat:=by
 unfold ixN;rw[if_pos h0,if_pos h]
theorem Kl (t:Addr) (items:Array Value):Meets (Builtin.«enumerate.__new__» { pos:=[Value.type "enumerate",Value.ref t] }) fun _ R s=>
  s.heap.IsTuple t items/\R (.ok (.ret (.ref (s.heap.objs.size+1)))) { s with heap:=(s.heap.push { cls:=.type "tuple_iterator",data:=.fields #[.ref t,.int 0 0] }).push { cls:=.type "enumerate",data:=.fields #[.none,.bool false,.ref s.heap.objs.size,rawInt 0,.none,.none] } }:=by
 refine Meets.of_wp fun prog w A R s h=>?_;obtain⟨ht,hR⟩:=h;unfold Builtin.«enumerate.__new__» Builtin.SmallTypes.newClass;refine wpAny_bind (wpAny_bind (wpAny_pure (wpAny_ite_false rfl (wpAny_bind (wpAny_of_eq sub_enumerate (wpAny_ite_false rfl (wpAny_pure (wpAny_ite_true rfl (wpAny_bind ?_)))))))));unfold Builtin.SmallTypes.calledThroughType;refine wpAny_bind (wpAny_stack_any fun st=>wpAny_pure ?_);have fin:wpAny (model prog w) A.in1 (do
   let it <- pyIter (Value.ref t)
   let r <- Builtin.SmallTypes.newRecord (Value.type "enumerate") (Builtin.SmallTypes.ownedTupleFields++[it,rawInt 0,Value.none,Value.none])
   ret r) (fun fin s'=>∃v,fin=Fin.done (Flow.ret v)/\R (Except.ok (Flow.ret v)) s') (fun e s'=>R (Except.error e) s') s:=by
  refine wpAny_bind (wpAny_pyIter_tuple ht ?_);show wpAny _ _ (newObj (.type "enumerate") (.fields #[.none,.bool false,.ref s.heap.objs.size,rawInt 0,.none,.none]) >>= fun r=>ret r) _ _ _;refine wpAny_bind (wpAny_newObj_type ?_);refine wpAny_pure ⟨_,rfl,?_⟩;have e:(s.heap.push { cls:=Value.type "tuple_iterator",data:=Data.fields #[Value.ref t,Value.int 0 0] }).objs.size=s.heap.objs.size+1:=size_push ..;rw[e];exact hR
 dsimp only;split
 ·split
  ·exact wpAny_bind (wpAny_pure fin)
  exact wpAny_bind (wpAny_pure fin)
 split
 ·exact wpAny_bind (wpAny_pure fin)
 exact wpAny_bind (wpAny_pure fin)
theorem dH {prog:Program}{w:World}{A:Around}{E:Value->Shared->Prop}{s:Shared}{it t:Addr}{i:Nat}{items:Array Value}{x:Value}{Q:Value->Shared->Prop}(hit:s.heap.IsTupleIter it t i)(ht:s.heap.IsTuple t items)(hx:items[i]?=some x)
  (hQ:∀h',h'.IsTupleIter it t (i+1)->Heap.SameBut it s.heap h'->Q x { s with heap:=h' }):wpAny (model prog w) A (Builtin.SmallTypes.nextOf (Value.ref it)) Q E s:=by
 obtain⟨o,ho,hc,hd⟩:=id hit;obtain⟨ol,hol,hcl,nl,hdl⟩:=ht;unfold Builtin.SmallTypes.nextOf;refine wpAny_bind (wpAny_callSpecial?_slot hit.typeIs F.slot_tuple_iterator_next (wpAny_call_entry F.slot_tuple_iterator_next hit.typeIs F.entry_tuple_iterator_next ?_ (F.args_tuple_iterator_next_1 _)));refine wpAny_bind (wpAny_pure (wpAny_bind (wpAny_field ho hd (i:=0) rfl ?_)));refine wpAny_ite_false rfl (wpAny_bind (wpAny_field ho hd (i:=1) rfl ?_));refine wpAny_bind (wpAny_seqItems hol hdl ?_);show wpAny _ _ (match items[(i:Int).toNat]? with
  | some x=>(do setField (.ref it) 1 (rawInt ((i:Int)+1));ret x)
  | none=>_) _ _ _
 rw[toNat_natCast,hx];refine wpAny_bind (wpAny_setField ho hd (lt_succ_self 1) (wpAny_pure ⟨x,rfl,wpAny_pure (hQ _ ?_ ?_)⟩))
 ·refine⟨_,get?_update_self _ ho (Obj.isFreed_of_fields (Obj.data_mapFields hd _)),(Obj.cls_mapFields o _).trans hc,?_⟩;rw[Obj.data_mapFields hd];rfl
 exact Heap.SameBut.update s.heap it _
theorem gO {prog:Program}{w:World}{A:Around}{E:Value->Shared->Prop}{s:Shared}{it t:Addr}{i:Nat}{items:Array Value}{Q:Value->Shared->Prop}(hh:A.handled=none)(hit:s.heap.IsTupleIter it t i)(ht:s.heap.IsTuple t items)(hx:items[i]?=none)
  (hE:∀h' e,Heap.ExtBut it s.heap h'->(∃o,h'.get? e=some o/\o.cls=Value.type "StopIteration")->E (.ref e) { s with heap:=h' }):wpAny (model prog w) A (Builtin.SmallTypes.nextOf (Value.ref it)) Q E s:=by
 obtain⟨o,ho,hc,hd⟩:=id hit;obtain⟨ol,hol,hcl,nl,hdl⟩:=ht;unfold Builtin.SmallTypes.nextOf;refine wpAny_bind (wpAny_callSpecial?_slot hit.typeIs F.slot_tuple_iterator_next (wpAny_call_entry F.slot_tuple_iterator_next hit.typeIs F.entry_tuple_iterator_next ?_ (F.args_tuple_iterator_next_1 _)));refine wpAny_bind (wpAny_pure (wpAny_bind (wpAny_field ho hd (i:=0) rfl ?_)));refine wpAny_ite_false rfl (wpAny_bind (wpAny_field ho hd (i:=1) rfl ?_));refine wpAny_bind (wpAny_seqItems hol hdl ?_);show wpAny _ _ (match items[(i:Int).toNat]? with
  | some x=>_
  | none=>(do rule (toString "tuple_iterator.__next__" ++ toString ".end");setField (.ref it) 0 .none;Builtin.SmallTypes.stopIteration)) _ _ _
 rw[toNat_natCast,hx];refine wpAny_bind (wpAny_rule (wpAny_bind (wpAny_setField ho hd (zero_lt_succ 1) ?_)));unfold Builtin.SmallTypes.stopIteration newExc;refine wpAny_bind (wpAny_bind (wpAny_newObj_type ?_));refine wpAny_bind (wpAny_of_eq (a:=.none) rfl ?_);refine wpAny_newObj_type ?_;refine wpAny_raiseNew_none hh (hE _ _ ?_ ?_)
 ·exact fun b ob hb e=>get?_push_of_some _ (get?_push_of_some _ ((get?_update_other _ _ (Ne.symm hb)).trans e))
 exact⟨_,get?_push_size _ rfl,rfl⟩
theorem jD {prog:Program}{w:World}{A:Around}(hh:A.handled=none)(it t:Addr)(hne:t≠it)(items:Array Value):Draws prog w A it [it,t] items.size (fun i v=>items[i]?=some v) fun i h=>h.IsTupleIter it t i/\h.IsTuple t items where
 live:=fun _ _ st=>by
  obtain⟨⟨o,ho,_⟩,_⟩:=st;exact⟨o,ho⟩
 frame:=fun _ _ _ st hk=>by
  obtain⟨h1,⟨o,e,r⟩⟩:=st;exact⟨h1.at fun o e=>hk it (by simp) o e,o,hk t (by simp) o e,r⟩
 item:=fun i s Q E hi st hQ=>by
  have e:items[i]?=some items[i]:=by simp [hi]
  refine dH st.1 st.2 e fun h' h1 sb=>hQ _ _ s.toks e ⟨h1,?_⟩ sb;obtain⟨o,g,r⟩:=st.2;exact⟨o,(sb.2 t hne).trans g,r⟩
 done:=fun s Q E st hE=>gO hh st.1 st.2 (by simp) hE
noncomputable def Iet (K:PySem.W.Frag)(a:Addr):It:=
 ⟨fun i H=>∃xs x,SqT K H a xs/\xs[i]?=some x,
  fun i H v H'=>∃p x,v=.ref p/\H p=none/\H'=upd H p (.tup [.int (i:Nat),x])/\∀xs,SqT K H a xs->xs[i]?=some x,
  fun i H=>∃xs,SqT K H a xs/\xs.length=i⟩
theorem Ek {P:Program}{w:World}{K:PySem.W.Frag}{es:List Expr}{kk:Nat}{tpos:Pos}{e it l:Addr}(hne:e≠it) :
  Turn P w K (.Tuple es kk tpos) (Iet K l) [e,it] e (fun i h=>(∃old,IsEnum h e it ((i:Nat):Int) old)/\h.IsTupleIter it l i) where
 mem:=by simp
 obj:=fun i h st b hb=>by
  obtain⟨⟨old,he⟩,⟨o1,e1,c1,d1⟩⟩:=st;simp only[mem_cons,not_mem_nil,or_false] at hb;rcases hb with rfl|rfl
  ·exact⟨_,he,fun v q=>by cases q⟩
  exact⟨o1,e1,fun v q=>by rw[d1] at q;cases q⟩
 keep:=fun i h h' st k=>by
  obtain⟨⟨old,he⟩,h1⟩:=st;exact⟨⟨old,k e (by simp) _ he⟩,h1.at fun o q=>k it (by simp) o q⟩
 item:=by
  intro X hP hw hK hc i pins s σ H E I hf st hg;subst hP hw hK;obtain⟨xs,x,q1,hx⟩:=hg;obtain⟨its1,rv1,p1,hz1⟩:=I.tuple q1;obtain⟨u1,hu1,ru1⟩:=rv1.get hx;obtain⟨⟨old,he⟩,h1⟩:=st;have hel:e≠l:=fun z=>by
   obtain⟨ol,g1,g2,_⟩:=p1;rw[<- z,he] at g1;cases g1;injection g2 with g2;exact absurd g2 δ
  have hil:l≠it:=fun z=>by
   obtain⟨ol,g1,g2,_⟩:=p1;obtain⟨oi,g3,g4,_⟩:=h1;rw[z,g3] at g1;cases g1;rw[g4] at g2;injection g2 with g2;exact absurd g2 δ
  have hsz1:i<its1.toArray.size:=by
   obtain⟨z,_⟩:=List.getElem?_eq_some_iff.mp hu1;simpa using z
  refine wpAny_pyNext_enum_itemD (jD (A:=X.A.in1) (I.ok.hd hc) it l hil its1.toArray) he ⟨h1,p1⟩ hsz1 hne (by simp [hne,hel]) fun x1 h' tk hP a1 a2 a3 a4 hk=>?_;have ex:x1=u1:=by
   have hP':its1[i]?=some x1:=by simpa using hP
   rw[hu1] at hP';exact(Option.some.inj hP').symm
  subst ex;obtain⟨a2,_⟩:=a2;have new:bN X.prog X.w (upd H s.heap.objs.size (.tup [.int (i:Nat),x])) h' s.heap.objs.size (.tup [.int (i:Nat),x]):=⟨by show 2<=sizeLine;decide,[.int (i:Nat) tk,x1],.cons ⟨_,rfl⟩ (.cons ru1 .nil),_,a3,rfl,_,rfl⟩;have I1:Inv X pins σ (upd H s.heap.objs.size (.tup [.int (i:Nat),x])) { s with heap:=h',toks:=tk+1 }:=I.xr (ch:=[e,it]) hf
   (fun b o hb q=>hk b o (fun z=>hb (by simp [z])) (fun z=>hb (by simp [z])) q) (le_refl _) new
  have hsz:∀b,b∈[e,it]->b≠s.heap.objs.size:=fun b hb=>by
   have lt:∃o,s.heap.get? b=some o:=by
    simp only[mem_cons,not_mem_nil,or_false] at hb;rcases hb with rfl|rfl
    ·exact⟨_,he⟩
    obtain⟨o,q,_⟩:=h1;exact⟨o,q⟩
   obtain⟨o,q⟩:=lt;exact ne_of_lt (lt_size q)
  refine⟨_,rfl,wpAny_letOwnedTupleGo_enum (s:={ s with heap:=h',toks:=tk+1 }) a1 fun h'' z2 sb=>?_⟩;have fz:=hf e (by simp);have I2:Inv X pins σ (upd H s.heap.objs.size (.tup [.int (i:Nat),x])) { s with heap:=h'',toks:=tk+1 }:=Inv.turned (s:={ s with heap:=h',toks:=tk+1 }) (it:=e) I1 (fun b o hb q=>(sb.2 b hb).trans q) (by rw[aH (hsz e (by simp))];exact fz.1) fz.2.1 fz.2.2.2.1 fz.2.2.2.2.1 fz.2.2.2.2.2;refine⟨.ref s.heap.objs.size,_,I2,rfl,⟨_,x,rfl,I.fresh,rfl,fun xs' q=>by rw[I.jN q q1];exact hx⟩,
   ⟨⟨_,by simpa using z2⟩,a2.extBut sb.extBut hne.symm⟩,fun b hb=>by rw[aH (hsz b hb)];exact(hf b hb).1⟩
 done:=by
  intro X hP hw hK hc i pins s σ H E I hf st hg;subst hP hw hK;obtain⟨xs,q1,hx⟩:=hg;obtain⟨its1,rv1,p1,hz1⟩:=I.tuple q1;obtain⟨⟨old,he⟩,h1⟩:=st;have hil:l≠it:=fun z=>by
   obtain⟨ol,g1,g2,_⟩:=p1;obtain⟨oi,g3,g4,_⟩:=h1;rw[z,g3] at g1;cases g1;rw[g4] at g2;injection g2 with g2;exact absurd g2 δ
  have hl1:=rv1.length;have hsi:its1.toArray.size=i:=by rw[size_toArray];omega
  refine wpAny_pyNext_enum_endD (jD (A:=X.A.in1) (I.ok.hd hc) it l hil its1.toArray) he (by rw[hsi];exact⟨h1,p1⟩) fun h' hk=>⟨rfl,?_⟩;exact I.xu (t':=s.toks) (ch:=[e,it]) hf (fun b o hb q=>hk b o (fun z=>hb (by simp [z])) q)
 self:=fun _ _ _ _ _ st h=>by
  obtain⟨⟨old,he⟩,_⟩:=st;exact wpAny_pyIter_enum he h
noncomputable def ieq (K:PySem.W.Frag)(ob:Option HO)(a:Addr)(H:Hp)(R:It->Hp->Prop):Prop:=match ob with
 | some (.lst _)=>R (Ite K a) H
 | some (.tup _)=>R (Iet K a) H
 | _=>False
noncomputable def ieK (K:PySem.W.Frag)(vs:List V)(H:Hp)(R:It->Hp->Prop):Prop:=match vs with
 | [.ref a]=>ieq K (H a) a H R
 | _=>False
noncomputable def Ge (K:PySem.W.Frag)(ta:TA):TI:=fun σ H R=>ta σ H fun vs H1=>ieK K vs H1 R
theorem nT (K:PySem.W.Frag)(ta:TA)(σ:St)(H:Hp)(R:It->Hp->Prop):Ge K ta σ H R=ta σ H fun vs H1=>ieK K vs H1 R:=rfl
theorem tW (K:PySem.W.Frag)(a:Addr)(H:Hp)(R:It->Hp->Prop):ieK K [.ref a] H R=ieq K (H a) a H R:=rfl
theorem tU (K:PySem.W.Frag)(xs:List V)(a:Addr)(H:Hp)(R:It->Hp->Prop):ieq K (some (.lst xs)) a H R=R (Ite K a) H:=rfl
section
variable {X:Cx}
theorem N8 {es:List Expr}{kk:Nat}{tpos:Pos}{a:Expr}{ta:TA}{p pos:Pos}(hg:Gl X "enumerate") (hm:X.mg "enumerate" = none) (ha:PA X [a] ta) (hs:starEach [a] X.env=[(false,eval a X.env)]:=by rfl) :
  PI X (.Tuple es kk tpos) (.Call (.Name "enumerate" p) [a] [] pos) (Ge X.K ta):=by
 intro pins s σ H R I h;refine Call_ (iH I hg hm PyProof.Rows.Boot.«enumerate» (PyProof.Rows.callWith_type1 (thA (ha pos pins s σ H _ I h) fun us s1 vs H1 I1 r1 q1=>?_) hs rfl));replace q1:ieK X.K vs H1 R:=q1;unfold ieK at q1;split at q1
 ·rename_i l1;cases r1 with
  | cons r rr=>
   cases rr;cases r;unfold ieq at q1;split at q1
   ·rename_i xs e;obtain⟨its1,rv1,p1,hz1⟩:=I1.list (SqL.of e);refine call_enumerate_list p1.isList fun h' b1 b2 b3 hk=>?_;refine wpAny_pyIter_enum (s:={ s1 with heap:=h' }) b1 ?_;have I2:Inv X pins σ H1 { s1 with heap:=h' }:=I1.kept (t':=s1.toks) hk;refine⟨_,_,_,_,H1,rfl,I2,Jh (ne_of_gt (lt_succ_self _)),⟨⟨_,b1⟩,b2⟩,fun b hb=>?_,q1⟩;have hle:s1.heap.objs.size<=b:=by
     simp only[mem_cons,not_mem_nil,or_false] at hb;rcases hb with rfl|rfl <;> simp
    exact I1.Dq hle (I1.hok.fresh hle)
   ·rename_i xs e;obtain⟨its1,rv1,p1,hz1⟩:=I1.tuple (SqT.of e);refine callType_new F.called_enumerate δ (F.typeCall_enumerate_1 _) (F.newCall_enumerate_1 _) (fun obj=>F.args_object_init_2 obj _) F.entry_enumerate_new (Kl l1 its1.toArray) ⟨p1,?_⟩;have hz:(s1.heap.push { cls:=Value.type "tuple_iterator",data:=Data.fields #[Value.ref l1,Value.int 0 0] }).objs.size=s1.heap.objs.size+1:=size_push ..;have b1:((s1.heap.push { cls:=Value.type "tuple_iterator",data:=Data.fields #[Value.ref l1,Value.int 0 0] }).push { cls:=Value.type "enumerate",data:=Data.fields #[Value.none,Value.bool false,Value.ref s1.heap.objs.size,rawInt 0,Value.none,Value.none] }).get? (s1.heap.objs.size+1)=some { cls:=Value.type "enumerate",data:=Data.fields #[Value.none,Value.bool false,Value.ref s1.heap.objs.size,rawInt 0,Value.none,Value.none] }:=by
     rw[<- hz];exact get?_push_size _ rfl
    have b2:((s1.heap.push { cls:=Value.type "tuple_iterator",data:=Data.fields #[Value.ref l1,Value.int 0 0] }).push { cls:=Value.type "enumerate",data:=Data.fields #[Value.none,Value.bool false,Value.ref s1.heap.objs.size,rawInt 0,Value.none,Value.none] }).IsTupleIter s1.heap.objs.size l1 0:=
     ⟨_,get?_push_of_some _ (get?_push_size _ rfl),rfl,rfl⟩
    have hk:∀b o,s1.heap.get? b=some o->((s1.heap.push { cls:=Value.type "tuple_iterator",data:=Data.fields #[Value.ref l1,Value.int 0 0] }).push { cls:=Value.type "enumerate",data:=Data.fields #[Value.none,Value.bool false,Value.ref s1.heap.objs.size,rawInt 0,Value.none,Value.none] }).get? b=some o:=fun b o z=>get?_push_of_some _ (get?_push_of_some _ z);refine⟨⟨_,b1,rfl⟩,?_⟩;generalize (s1.heap.push { cls:=Value.type "tuple_iterator",data:=Data.fields #[Value.ref l1,Value.int 0 0] }).push { cls:=Value.type "enumerate",data:=Data.fields #[Value.none,Value.bool false,Value.ref s1.heap.objs.size,rawInt 0,Value.none,Value.none] }=h' at b1 b2 hk;refine wpAny_pyIter_enum (s:={ s1 with heap:=h' }) b1 ?_;have I2:Inv X pins σ H1 { s1 with heap:=h' }:=I1.kept (t':=s1.toks) hk;refine⟨_,_,_,_,H1,rfl,I2,Ek (ne_of_gt (lt_succ_self _)),⟨⟨_,b1⟩,b2⟩,fun b hb=>?_,q1⟩;have hle:s1.heap.objs.size<=b:=by
     simp only[mem_cons,not_mem_nil,or_false] at hb;rcases hb with rfl|rfl <;> simp
    exact I1.Dq hle (I1.hok.fresh hle)
   exact q1.elim
 exact q1.elim
theorem pZ {es:List Expr}{kk:Nat}{tpos:Pos}{a:Expr}{ta:TA}{p pos:Pos}(hg:Gl X "enumerate") (hm:X.mg "enumerate" = none) (ha:QA X [a] ta) (hs:starEach [a] X.env=[(false,eval a X.env)]:=by rfl) :
  QI X (.Tuple es kk tpos) (.Call (.Name "enumerate" p) [a] [] pos) (Ge X.K ta):=⟨N8 hg hm ha.h hs⟩
end
theorem Qw {J:It}{g:TG}{tb:TS}{D:Ends}{σ:St}{H:Hp}{R:It->Hp->Prop}(hR:R=(fun J H1=>∃W:Nat->Nat->St->Hp->Prop,(∃m,W 0 m σ H1)/\∀i m σ H,W i m σ H ->
  (J.stop i H/\D.nx σ H)\/(J.go i H/\∃N:St->Hp->Prop,(∀σ' H',N σ' H'->∃m',m'<m/\W (i+1) m' σ' H')/\∀x H',J.yld i H x H'->g x σ H' fun σ2 H2=>tb { D with nx:=N,ct:=N,bk:=D.nx } σ2 H2)))
  (n:Nat) (Pv:Nat->St->Hp->Prop) (h0:Pv 0 σ H) (hgo:∀i σ H,i<n->Pv i σ H->J.go i H) (hst:∀σ H,Pv n σ H->J.stop n H)
  (hs:∀i σ H x H3,i<n->Pv i σ H->J.yld i H x H3->g x σ H3 fun σ2 H2=>tb { D with nx:=Pv (i+1),ct:=Pv (i+1),bk:=D.nx } σ2 H2) (hd:∀σ H,Pv n σ H->D.nx σ H):R J H:=by
 subst hR;refine⟨fun i m σ H2=>m=n-i/\i<=n/\Pv i σ H2,⟨_,rfl,zero_le _,h0⟩,?_⟩;rintro i m σ H2 ⟨rfl,hi,p⟩;by_cases hlt:i<n
 ·exact .inr ⟨hgo i σ H2 hlt p,Pv (i+1),fun σ' H' q=>⟨_,ω,rfl,hlt,q⟩,fun x H3 y=>hs i σ H2 x H3 hlt p y⟩
 have e:i=n:=ω;subst e;exact .inl ⟨hst σ H2 p,hd σ H2 p⟩
mutual
noncomputable def szD (a:Nat):PyData->Prop
 | .none=>True
 | .bool _=>True
 | .int i=>i.natAbs<=10^20*2^a
 | .str x=>x.length<=30+a/\∀c∈x.cps.toList,c<16^8
 | .list ds=>ds.length<=210*5^a/\pJ a ds
 | .tuple ds=>ds.length<=210*5^a/\pJ a ds
 | .dict _=>False
noncomputable def pJ (a:Nat):List PyData->Prop
 | []=>True
 | d::ds=>szD a d/\pJ a ds
end
theorem qM {a:Nat}:∀{ds:List PyData},pJ a ds ↔ ∀d∈ds,szD a d
 | []=>⟨fun _ d h=>(nomatch h),fun _=>trivial⟩
 | x::ds=>by
  show szD a x/\pJ a ds↔_;rw[qM (ds:=ds)];constructor
  ·intro⟨h1,h2⟩ d hd;rcases mem_cons.mp hd with rfl|z
   ·exact h1
   exact h2 d z
  intro h;exact⟨h x mem_cons_self,fun d hd=>h d (mem_cons_of_mem _ hd)⟩
theorem Hy (a:Nat):210*5^a<=210*5^(a+1):=by rw[Nat.pow_succ];omega
mutual
theorem LR {a:Nat}:∀{d:PyData},szD a d->szD (a+1) d
 | .none,_=>trivial
 | .bool _,_=>trivial
 | .int i,h=>by
  have h':i.natAbs<=10^20*2^a:=h;show i.natAbs<=10^20*2^(a+1);rw[Nat.pow_succ];omega
 | .str x,h=>⟨by have:=h.1;omega,h.2⟩
 | .list ds,h=>⟨le_trans h.1 (Hy a),um h.2⟩
 | .tuple ds,h=>⟨le_trans h.1 (Hy a),um h.2⟩
 | .dict _,h=>h.elim
theorem um {a:Nat}:∀{ds:List PyData},pJ a ds->pJ (a+1) ds
 | [],_=>trivial
 | d::ds,h=>⟨LR h.1,um h.2⟩
end
mutual
theorem uz:∀(d:PyData),szD 2 d->d.shown.length+2<=400*nodes d
 | .none,_=>by decide
 | .bool b,_=>by cases b <;> decide
 | .int i,h=>by
  have h':i.natAbs<=10^20*2^2:=h;have:=Ve (i:=i) ω;show(Str.ofString (toString i)).length+2<=400*1;omega
 | .str x,h=>by
  have h1:=StrLaws.reprText_len x h.2;have h2:=h.1;show(reprText x).length+2<=400*1;omega
 | .list ds,h=>by
  have h1:=jG ds h.2;have h2:=listText_len_le (PyData.shownAll ds);rw[PyData.shown.eq_5,nodes];omega
 | .tuple ds,h=>by
  have h1:=jG ds h.2;have h2:=tupleText_len_le (PyData.shownAll ds);rw[PyData.shown.eq_6,nodes];omega
 | .dict kvs,h=>h.elim
theorem jG:∀(ds:List PyData),pJ 2 ds->((PyData.shownAll ds).map fun x=>x.length).sum+2*(PyData.shownAll ds).length<=400*dR ds
 | [],_=>by simp [PyData.shownAll,dR]
 | d::ds,h=>by
  have h1:=uz d h.1;have h2:=jG ds h.2;rw[PyData.shownAll.eq_2,dR,map_cons,List.sum_cons,length_cons];omega
end
mutual
theorem G5:∀(d:PyData),szD 2 d->d.showable=true/\d.hasDict=false
 | .none,_=>⟨rfl,rfl⟩
 | .bool b,_=>⟨rfl,rfl⟩
 | .int i,h=>by
  refine⟨?_,rfl⟩;have h':i.natAbs<=10^20*2^2:=h;show decide (i.natAbs.log2<1920)=true;refine decide_eq_true ?_;by_cases z:i.natAbs=0
  ·rw[z];decide
  have:=(Nat.log2_lt (k:=70) z).mpr ω;omega
 | .str x,_=>⟨rfl,rfl⟩
 | .list ds,h=>by
  obtain⟨h1,h2⟩:=oV ds h.2;exact⟨h1,h2⟩
 | .tuple ds,h=>by
  obtain⟨h1,h2⟩:=oV ds h.2;exact⟨h1,h2⟩
 | .dict kvs,h=>h.elim
theorem oV:∀(ds:List PyData),pJ 2 ds->PyData.showableAll ds=true/\PyData.hasDictAll ds=false
 | [],_=>⟨rfl,rfl⟩
 | d::ds,h=>by
  obtain⟨h1,h2⟩:=G5 d h.1;obtain⟨h3,h4⟩:=oV ds h.2;refine⟨?_,?_⟩
  ·rw[PyData.showableAll.eq_2,h1,h3];rfl
  rw[PyData.hasDictAll.eq_2,h2,h4];rfl
end
structure Shw (d:PyData):Prop where
 sh:d.showable=true
 nd:d.hasDict=false
 dp:d.depth<=100
 ln:d.shown.length<=sizeLine
theorem WD {d:PyData}(h:szD 2 d)(hn:nodes d<=40000)(hd:d.depth<=100):Shw d:=by
 obtain⟨h1,h2⟩:=G5 d h;have h3:=uz d h;have h4:16000000<=sizeLine:=by decide
 exact⟨h1,h2,hd,ω⟩
noncomputable def WQ:List V->Hp->VK->Prop:=fun xs H Q=>∃v ok d,xs=[v]/\aN ok H v d/\Shw d/\Q (.str d.shown) H
theorem vU {X:Cx}(hg:X.A.guards=some []) (hu:X.A.units+200<cLine):cV X (.builtin "repr") WQ:=by
 intro pins s σ H xs us Q I r h;obtain⟨v,ok,d,rfl,t,⟨sh,hd,hdp,hl⟩,q⟩:=h;obtain⟨u,rfl,rv⟩:=vals1 r;have nodict:∀as:List Addr,d.hasDict=true->¬sysModules∈as:=fun as z=>by rw[hd] at z;cases z
 cases t with
 | non=>cases rv;exact P.repr_of_none ⟨.str _,H,I.tok _,⟨_,rfl⟩,q⟩
 | bl b=>cases rv;exact P.repr_of_bool ⟨.str _,H,I.tok _,⟨_,rfl⟩,q⟩
 | int i=>
  obtain⟨t,rfl⟩:=rv;exact P.repr_of_int (of_decide_eq_true sh) ⟨.str _,H,I.tok _,⟨_,rfl⟩,q⟩
 | str x=>
  obtain⟨t,rfl⟩:=rv;exact P.repr_of_str ⟨.str _,H,I.tok _,⟨_,rfl⟩,q⟩ hl
 | lst o e z t=>
  obtain⟨as,rd⟩:=aN.reads I (aN.lst o e z t) rv;cases rv;exact repr_of_reads' rd sh (nodict as) hg ω (fun _ _ z=>z) (fun h' u tk k=>⟨.str _,H,I.kept k,⟨_,rfl⟩,q⟩) hl
 | tup o e z t=>
  obtain⟨as,rd⟩:=aN.reads I (aN.tup o e z t) rv;cases rv;exact repr_of_reads' rd sh (nodict as) hg ω (fun _ _ z=>z) (fun h' u tk k=>⟨.str _,H,I.kept k,⟨_,rfl⟩,q⟩) hl
theorem qC {x:PyData}:∀{ds:List PyData},x∈ds->x.depth<=PyData.depthAll ds
 | y::ds,h=>by
  rw[PyData.depthAll.eq_2];rcases mem_cons.mp h with rfl|z
  ·omega
  have:=qC z;omega
theorem m8 {k:Nat}:∀{ds:List PyData},(∀d∈ds,d.depth<=k)->PyData.depthAll ds<=k
 | [],_=>zero_le _
 | x::ds,h=>by
  rw[PyData.depthAll.eq_2];have h1:=h x mem_cons_self;have h2:=m8 fun d hd=>h d (mem_cons_of_mem _ hd);omega
noncomputable def ctq (a b:Option HO)(pa:Addr)(H:Hp)(Q:VK):Prop:=match a,b with
 | some (.tup xs),some (.tup ys)=>xs≠[]/\xs.length+ys.length<=sizeLine/\(ys=[]->Q (.ref pa) H)/\(ys≠[]->∀p,H p=none->Q (.ref p) (upd H p (.tup (xs++ys))))
 | _,_=>False
noncomputable def Nt:R2:=fun x y H Q=>match x,y with
 | .ref p,.ref q=>ctq (H p) (H q) p H Q
 | _,_=>False
theorem SJ (p q:Addr)(H:Hp)(Q:VK):Nt (.ref p) (.ref q) H Q=ctq (H p) (H q) p H Q:=rfl
theorem Yx (xs ys:List V)(pa:Addr)(H:Hp)(Q:VK):ctq (some (.tup xs)) (some (.tup ys)) pa H Q=(xs≠[]/\xs.length+ys.length<=sizeLine/\(ys=[]->Q (.ref pa) H)/\(ys≠[]->∀p,H p=none->Q (.ref p) (upd H p (.tup (xs++ys))))):=rfl
theorem Uc {X:Cx}:OpR X (binaryOp .Add) Nt:=by
 intro pins s σ H x y v u Q I rx ry h;unfold Nt at h;split at h
 ·rename_i p q;unfold ctq at h;split at h
  ·rename_i xs ys e1 e2;exact Ub pins s σ H _ _ v u Q I rx ry ⟨p,q,xs,ys,rfl,rfl,SqT.of e1,SqT.of e2,h.1,h.2.1,h.2.2.1,h.2.2.2⟩
  exact h.elim
 exact h.elim
inductive Bq (H:Hp):List V->List (List Nat)->Prop
 | nil:Bq H [] []
 | cons {t:Addr} {p:List Nat} {vs:List V} {ps:List (List Nat)}:H t=some (.tup (kO p))->Bq H vs ps->Bq H (.ref t::vs) (p::ps)
theorem jQ {H H':Hp}{l:Addr}{o:HO}(s:Same H H')(h:H l=none):Same H (upd H' l o):=fun b u e=>by
 rw[aH (aF e h)];exact s b u e
theorem Ww {a:Nat}{d:PyData}(h:szD 0 d):szD a d:=by
 induction a with
 | zero=>exact h
 | succ a ih=>exact LR ih
theorem mG {n:Nat}:∀{ds:List PyData},(∀d∈ds,nodes d<=n)->dR ds<=ds.length*n
 | [],_=>zero_le _
 | x::ds,h=>by
  have h1:=h x mem_cons_self;have h2:=mG fun d hd=>h d (mem_cons_of_mem _ hd);rw[dR,length_cons,Nat.succ_mul];omega
section
variable {X:Cx}{a:Expr}{ta:TE}
noncomputable def trq (ob:Option HO)(H:Hp)(Q:Bool->Hp->Prop):Prop:=match ob with
 | some (.lst xs)=>Q (!xs.isEmpty) H
 | some (.tup xs)=>Q (!xs.isEmpty) H
 | _=>False
noncomputable def RP (x:V)(H:Hp)(Q:Bool->Hp->Prop):Prop:=match x with
 | .ref p=>trq (H p) H Q
 | .bl b=>Q b H
 | .int i=>Q (i != 0) H
 | .non=>Q false H
 | _=>False
noncomputable def Wr (te:TE):TT:=fun σ H Q=>te σ H fun x H1=>RP x H1 Q
theorem RT (te:TE)(σ:St)(H:Hp)(Q:Bool->Hp->Prop):Wr te σ H Q=te σ H fun x H1=>RP x H1 Q:=rfl
theorem Lh (p:Addr)(H:Hp)(Q:Bool->Hp->Prop):RP (.ref p) H Q=trq (H p) H Q:=rfl
theorem Li (i:Int)(H:Hp)(Q:Bool->Hp->Prop):RP (.int i) H Q=Q (i != 0) H:=rfl
theorem RQ (xs:List V)(H:Hp)(Q:Bool->Hp->Prop):trq (some (.lst xs)) H Q=Q (!xs.isEmpty) H:=rfl
theorem W8 (ha:PE X a ta)(he:∀whole,isTrue a X.env whole=(do let v <- whole;standAt a.pos;holding [v] (truthy v))):PT X a (Wr ta):=by
 intro pins s σ H Q I h;refine isTrue_plain (thE (ha pins s σ H _ I h) fun v s1 x H1 I1 r1 q1=>Wo pins s1 σ H1 x v Q I1 r1 ?_) (he _);cases x with
 | ref p=>
  replace q1:trq (H1 p) H1 Q:=q1;unfold trq at q1;split at q1
  ·rename_i xs e;exact⟨_,.inl ⟨xs,SqL.of e,rfl⟩,q1⟩
  ·rename_i xs e;exact⟨_,.inr (.inl ⟨xs,SqT.of e,rfl⟩),q1⟩
  exact q1.elim
 | bl b=>exact⟨_,rfl,q1⟩
 | int i=>exact⟨_,rfl,q1⟩
 | non=>exact⟨_,rfl,q1⟩
 | _=>exact(show False from q1).elim
theorem zM (h:QE X a ta)(he:∀whole,isTrue a X.env whole=(do let v <- whole;standAt a.pos;holding [v] (truthy v)):=by intro _;rfl):QT X a (Wr ta):=⟨W8 h.h he⟩
noncomputable def ZW:R2:=fun x y H Q=>∃p q xs,x=.ref p/\y=.ref q/\H p=some (.lst xs)/\H q=some (.lst [])/\Q (.bl xs.isEmpty) H
noncomputable def ZR:R2:=fun x y H Q=>∃p q xs,x=.ref p/\y=.ref q/\H p=some (.lst xs)/\H q=some (.lst [])/\Q (.bl (!xs.isEmpty)) H
theorem Xy (hu:X.A.units<cLine):OpR X (compareOp .Eq) ZW:=by
 intro pins s σ H x y v u Q I rx ry h;obtain⟨p,q,xs,rfl,rfl,e1,e2,qq⟩:=h;cases rx;cases ry;obtain⟨its1,r1,pl1,hz1⟩:=I.list (SqL.of e1);obtain⟨its2,r2,pl2,hz2⟩:=I.list (SqL.of e2);cases r2;cases xs with
 | nil=>
  cases r1;exact SeqAt.RcAt.lists (e:=fun _=>true) pl1.isList pl2.isList rfl hu (fun j h1 h2=>absurd h2 (not_lt_zero _)) X.prog X.w X.xe (EP X pins σ Q) ⟨.bl true,H,I,rfl,qq⟩
 | cons a b=>
  cases r1;exact SeqAt.RcAt.lists_lengths pl1.isList pl2.isList (by simp) hu X.prog X.w X.xe (EP X pins σ Q) ⟨.bl false,H,I,rfl,qq⟩
theorem Fi (hu:X.A.units<cLine):OpR X (compareOp .NotEq) ZR:=by
 intro pins s σ H x y v u Q I rx ry h;obtain⟨p,q,xs,rfl,rfl,e1,e2,qq⟩:=h;cases rx;cases ry;obtain⟨its1,r1,pl1,hz1⟩:=I.list (SqL.of e1);obtain⟨its2,r2,pl2,hz2⟩:=I.list (SqL.of e2);cases r2;cases xs with
 | nil=>
  cases r1;exact SeqAt.RcNeAt.lists (e:=fun _=>true) pl1.isList pl2.isList rfl hu (fun j h1 h2=>absurd h2 (not_lt_zero _)) X.prog X.w X.xe (EP X pins σ Q) ⟨.bl false,H,I,rfl,qq⟩
 | cons a b=>
  cases r1;exact SeqAt.RcNeAt.lists_lengths pl1.isList pl2.isList (by simp) hu X.prog X.w X.xe (EP X pins σ Q) ⟨.bl true,H,I,rfl,qq⟩
end
theorem N5 {is:List Int}{r:Int}(h0:0<=r)(h:r<is.length):∃i,i∈is/\atI (is.map V.int) r=some (.int i):=by
 have h1:r.toNat<is.length:=ω;refine⟨is[r.toNat],getElem_mem h1,?_⟩;unfold atI;rw[Va h0 (by rw[length_map];omega)];show(is.map V.int)[r.toNat]?=_;rw[getElem?_map,getElem?_eq_getElem h1];rfl
structure RowS (ss:List (Int×Int×Int)):Prop where
 lh:∀(i:Nat) s,ss[i]?=some s->s.1<=s.2.1/\0<=s.2.2/\s.2.2<=9
 nx:∀(i:Nat) s t,ss[i]?=some s->ss[i+1]?=some t->t.1=s.2.1+1
 bd:∀(i:Nat) s,ss[i]?=some s->-(10^12)<=s.1/\s.2.1<=10^9+(10^12+10)*(i+1)
noncomputable def qU:Option Int->V
 | some i=>.int i
 | none=>.non
section
variable {κ:Type}[DecidableEq κ]
noncomputable def fU (kvs:List (κ×V))(k:κ):Option V:=(kvs.find? fun kv=>decide (kv.1=k)).map (·.2)
noncomputable def putK (kvs:List (κ×V))(k:κ)(v:V):List (κ×V):=
 if (kvs.any fun kv=>decide (kv.1=k))=true then kvs.map (fun kv=>if kv.1=k then (kv.1,v) else kv) else kvs++[(k,v)]
theorem dJ {p:κ×V}{r:List (κ×V)}{k:κ}(e:p.1=k):fU (p::r) k=some p.2:=by simp [fU,find?_cons,e]
theorem dM {p:κ×V}{r:List (κ×V)}{k:κ}(e:¬p.1=k):fU (p::r) k=fU r k:=by simp [fU,find?_cons,e]
theorem t8 (k:κ):∀kvs:List (κ×V),(kvs.any fun kv=>decide (kv.1=k))=(fU kvs k).isSome
 | []=>rfl
 | p::r=>by
  rw[any_cons];by_cases e:p.1=k
  ·simp only[dJ e,decide_eq_true e,Bool.true_or,Option.isSome_some]
  rw[dM e,decide_eq_false e,Bool.false_or];exact t8 k r
theorem Bw (k j:κ)(y:V):∀kvs:List (κ×V),fU (kvs.map fun kv=>if kv.1=k then (kv.1,y) else kv) j=(fU kvs j).map fun x=>if j=k then y else x
 | []=>rfl
 | p::r=>by
  have ih:=Bw k j y r;rw[map_cons];by_cases h:p.1=k
  ·rw[if_pos h];by_cases e:p.1=j
   ·rw[dJ (p:=(p.1,y)) e,dJ e,map_some,if_pos (e.symm.trans h)]
   rw[dM (p:=(p.1,y)) e,dM e,ih]
  rw[if_neg h];by_cases e:p.1=j
  ·rw[dJ (p:=p) e,dJ e,map_some,if_neg (fun z=>h (e.trans z))]
  rw[dM (p:=p) e,dM e,ih]
theorem xq (k j:κ)(y:V):∀kvs:List (κ×V),fU kvs k=none->fU (kvs++[(k,y)]) j=if j=k then some y else fU kvs j
 | [],_=>by
  by_cases e:k=j
  ·rw[if_pos e.symm];exact dJ (p:=(k,y)) e
  rw[if_neg (fun z=>e z.symm)];exact dM (p:=(k,y)) e
 | p::r,hn=>by
  rw[List.cons_append];have hk:¬p.1=k:=fun z=>by rw[dJ z] at hn;cases hn
  rw[dM hk] at hn;have ih:=xq k j y r hn;by_cases e:p.1=j
  ·rw[dJ e,dJ e,if_neg (fun z=>hk (e.trans z))]
  rw[dM e,dM e,ih]
theorem Lb (kvs:List (κ×V))(k j:κ)(y:V):fU (putK kvs k y) j=if j=k then some y else fU kvs j:=by
 unfold putK;by_cases a:(kvs.any fun kv=>decide (kv.1=k))=true
 ·rw[if_pos a,Bw];rw[t8] at a;by_cases e:j=k
  ·obtain⟨x,hx⟩:=Option.isSome_iff_exists.mp a;rw[if_pos e,e,hx,map_some,if_pos rfl]
  rw[if_neg e];cases fU kvs j with
  | none=>rfl
  | some x=>rw[map_some,if_neg e]
 rw[if_neg a];refine xq k j y kvs ?_;rw[t8] at a;cases q:fU kvs k with
 | none=>rfl
 | some x=>rw[q] at a;exact(a rfl).elim
theorem Dg (kvs:List (κ×V))(k:κ)(v:V):(putK kvs k v).length<=kvs.length+1:=by
 unfold putK;split
 ·rw[length_map];omega
 rw[length_append,length_cons,length_nil];omega
theorem GQ.yF {o:Option V}{u:Option Value}(r:GQ o u):o.isSome=u.isSome:=by
 cases o with
 | none=>cases u with
  | none=>rfl
  | some _=>exact(show False from r).elim
 | some _=>cases u with
  | none=>exact(show False from r).elim
  | some _=>rfl
theorem KV.val {kvs:List (κ×V)}{vs:List (κ×Value)}(r:KV kvs vs)(k:κ):GQ (fU kvs k) (valueAt vs k):=by
 unfold KV at r
 induction r with
 | nil=>exact True.intro
 | @cons p q ps qs h t ih=>
  obtain⟨h1,h2⟩:=h;by_cases e:p.1=k
  ·have e':q.1=k:=h1.symm.trans e;have b:valueAt (q::qs) k=some q.2:=by simp [valueAt,find?_cons,e']
   rw[dJ e,b];exact h2
  have e':¬q.1=k:=fun z=>e (h1.trans z);have b:valueAt (q::qs) k=valueAt qs k:=by simp [valueAt,find?_cons,e']
  rw[dM e,b];exact ih
theorem KV.any {kvs:List (κ×V)}{vs:List (κ×Value)}(r:KV kvs vs)(k:κ):(kvs.any fun kv=>decide (kv.1=k))=vs.any fun kv=>decide (kv.1=k):=by
 unfold KV at r
 induction r with
 | nil=>rfl
 | cons h t ih=>rw[any_cons,any_cons,ih,h.1]
theorem KV.repl {kvs:List (κ×V)}{vs:List (κ×Value)}(r:KV kvs vs)(k:κ){y:V}{u:Value}(ry:RelV y u) :
  KV (kvs.map fun kv=>if kv.1=k then (kv.1,y) else kv) (vs.map fun kv=>if kv.1=k then (kv.1,u) else kv):=by
 unfold KV at r |-
 induction r with
 | nil=>exact .nil
 | @cons p q ps qs h t ih=>
  rw[map_cons,map_cons];refine .cons ?_ ih;obtain⟨h1,h2⟩:=h;by_cases e:p.1=k
  ·rw[if_pos e,if_pos (h1.symm.trans e)];exact⟨h1,ry⟩
  rw[if_neg e,if_neg (fun z=>e (h1.trans z))];exact⟨h1,h2⟩
theorem KV.put {kvs:List (κ×V)}{vs:List (κ×Value)}(r:KV kvs vs)(k:κ){y:V}{u:Value}(ry:RelV y u):KV (putK kvs k y) (stored vs k u):=by
 unfold putK stored;rw[r.any k];by_cases e:(vs.any fun kv=>decide (kv.1=k))=true
 ·rw[if_pos e,if_pos e];exact r.repl k ry
 rw[if_neg e,if_neg e];exact Paired.snoc r ⟨rfl,ry⟩
theorem KV.length {kvs:List (κ×V)}{vs:List (κ×Value)}(r:KV kvs vs):kvs.length=vs.length:=Paired.length r
end
theorem P0 {P:Program}{w:World}{k:Key}{u:Value}(r:RelV (kV k) u):(bO P w).is k u=true:=by
 cases k with
 | inl i=>obtain⟨t,e⟩:=(show ∃t,u=Value.int i t from r);subst e;exact CZ P w i t
 | inr x=>obtain⟨t,e⟩:=(show ∃t,u=Value.str x t from r);subst e;exact CW P w x t
theorem yE {P:Program}{w:World}:∀{ks:List Key}{us:List Value},Vals (ks.map kV) us->ItemsAre (bO P w) ks us
 | [],_,r=>by rw[map_nil] at r;cases r;exact .nil
 | k::ks,_,r=>by
  rw[map_cons] at r;cases r with
  | cons h t=>exact .cons (P0 h) (yE t)
noncomputable abbrev KT (H:Hp):List (List Key×V)->List (List Key×Addr×Value)->Prop:=Paired fun p q=>p.1=q.1/\H q.2.1=some (.tup (p.1.map kV))/\RelV p.2 q.2.2
theorem KT.val {H:Hp}{kvs:List (List Key×V)}{xs:List (List Key×Addr×Value)}(r:KT H kvs xs)(k:List Key):GQ (fU kvs k) ((atKey xs k).map (·.2)):=by
 induction r with
 | nil=>exact True.intro
 | @cons p q ps qs h t ih=>
  obtain⟨h1,_,h2⟩:=h;by_cases e:p.1=k
  ·have e':q.1=k:=h1.symm.trans e;have b:atKey (q::qs) k=some q.2:=by simp [atKey,find?_cons,e']
   rw[dJ e,b];exact h2
  have e':¬q.1=k:=fun z=>e (h1.trans z);have b:atKey (q::qs) k=atKey qs k:=by simp [atKey,find?_cons,e']
  rw[dM e,b];exact ih
section
variable {P:Program}{w:World}{H:Hp}{h:Heap}{a:Addr}
theorem V5 {u:HO}(ok:HOk P w H h)(e:Rd H a u):bN P w H h a u:=e.ok ok
theorem QK {kvs:List (Key×V)}(ok:HOk P w H h)(e:Rd H a (.dK kvs)):kvs.length<=sizeLine/\(a == sysModules)=false/\∃vs,KV kvs vs/\h.DictOf (bO P w) a vs:=
 show bN P w H h a (.dK kvs) from V5 ok e
theorem Zy {kvs:List (Key×V)}(ok:HOk P w H h)(e:H a=some (.dK kvs)):kvs.length<=sizeLine/\(a == sysModules)=false/\∃vs,KV kvs vs/\h.DictOf (bO P w) a vs:=QK ok (.inl e)
theorem PN {ks:List Key}(ok:HOk P w H h)(e:H a=some (.tup (ks.map kV))):(tupleKind (bO P w)).is h ks a:=by
 obtain⟨_,its,r,o,h1,h2,n,h3⟩:=(show bN P w H h a (.tup (ks.map kV)) from ok a _ e);exact⟨o,its.toArray,n,h1,h2,h3,by simpa using yE r⟩
theorem Wd {kvs:List (List Key×V)}(ok:HOk P w H h)(e:Rd H a (.dT kvs)):kvs.length<=sizeLine/\(a == sysModules)=false /\
  ∃xs,KT H kvs xs/\h.DictOfH (tupleKind (bO P w)) a xs:=by
 obtain⟨z,y,xs,r,o,es,ep,h1,h2,h3,h4,h5⟩:=(show bN P w H h a (.dT kvs) from V5 ok e);refine⟨z,y,xs,r,o,es,ep,h1,h2,h3,h4,fun x hx=>?_,h5⟩;have all:∀{l:List (List Key×V)}{m:List (List Key×Addr×Value)},KT H l m->∀x∈m,(tupleKind (bO P w)).is h x.1 x.2.1:=by
  intro l m q
  induction q with
  | nil=>intro x hx;exact nomatch hx
  | @cons p q ps qs hq t ih=>
   intro x hx;rcases mem_cons.mp hx with e|hx
   ·subst e;exact PN ok (by rw[<- hq.1];exact hq.2.1)
   exact ih x hx
 exact all r x hx
end
noncomputable def Rx (H:Hp)(a:Addr)(y:V)(r:Option V):Prop:=
 (∃kvs k,Rd H a (.dK kvs)/\y=kV k/\r=fU kvs k)\/∃kvs k b,Rd H a (.dT kvs)/\y=.ref b/\H b=some (.tup (k.map kV))/\r=fU kvs k
theorem Rx.k {H:Hp}{a:Addr}{kvs:List (Key×V)}{k:Key}(e:H a=some (.dK kvs)):Rx H a (kV k) (fU kvs k):=.inl ⟨kvs,k,.inl e,rfl,rfl⟩
section
variable {X:Cx}{pins:List (Addr×Obj)}{σ:St}{H:Hp}{s:Shared}{a:Addr}{y v:V}{u r:Value}{o:Option V}{A:Around}{E:Value->Shared->Prop}
theorem Inv.big (I:Inv X pins σ H s):sysModules<s.heap.objs.size:=by
 have h:mainGlobals<s.heap.objs.size:=(I.mod.glob.keeps I.bk).lt;exact lt_trans δ h
theorem Vx {Q:Value->Shared->Prop}(hu:A.units+1<cLine)(I:Inv X pins σ H s)(g:Rx H a y o)(ry:RelV y u)(h:∀s',Inv X pins σ H s'->Q (.bool (!o.isSome)) s') :
  wpAny (model X.prog X.w) A (compareOp .NotIn u (.ref a)) Q E s:=by
 rcases g with⟨kvs,k,e,ey,l⟩|⟨kvs,k,b,e,ey,eb,l⟩
 ·subst ey;obtain⟨z,hd,vs,rel,dd⟩:=QK I.hok e;refine wpAny_notIn_of (P0 ry) hd dd.mapOf ?_;rw[<- (rel.val k).yF,<- l];exact h _ (I.tok _)
 subst ey;cases (show u=Value.ref b from ry);obtain⟨z,hd,xs,rel,dd⟩:=Wd I.hok e;refine wpAny_notIn_heap (tupleKind_room_in1 hu) (PN I.hok eb) hd dd ?_;have q:=(rel.val k).yF;rw[Option.isSome_map] at q;rw[<- q,<- l];exact h _ (I.tok _)
theorem Yu {P:Program}{w:World}{H':Hp}{h':Heap}{kvs:List (Key×V)}{vs:List (Key×Value)}(z:kvs.length<=sizeLine)(hd:(a == sysModules)=false)(rel:KV kvs vs)(dd:h'.DictOf (bO P w) a vs) :
  bN P w H' h' a (.dK kvs):=⟨z,hd,vs,rel,dd⟩
end
theorem QL {P:Program}{w:World}{H:Hp}(h:Heap) (hb:sysModules<h.objs.size):bN P w H (h.push { cls:=.type "dict",data:=.dict #[] }) h.objs.size (.dK []):=
 ⟨zero_le _,beq_eq_false_iff_ne.mpr (Ne.symm (ne_of_lt hb)),[],.nil,Heap.DictOf.new h⟩
noncomputable def El:TE:=fun _ H Q=>∀p,H p=none->Q (.ref p) (upd H p (.dK []))
section
variable {X:Cx}{pos:Pos}
theorem Og:PE X (.Dict [] [] pos) El:=fun pins s σ H Q I h=>
 wpAny_Dict_empty ⟨.ref s.heap.objs.size,_,I.laid (a:=s.heap.objs.size) (o:=.dK []) (t':=s.toks) (fun _ _ q=>get?_push_of_some _ q) (le_refl _) (QL s.heap I.big),rfl,h _ (I.hok.fresh (le_refl _))⟩
end
structure M1 (X:Cx)(o:Expr)(m:Str)(apos:Pos)(e:Expr)(cpos:Pos):Prop where
 base:attributeBase o m X.env (eval o X.env)=eval o X.env
 few:((backTo cpos (starEach [e] X.env)).all (fun x=>!x.1)&&(backToKw cpos (keywordEach [] X.env)).all (fun x=>x.1.isSome)
  && decide (([e]:List Expr).length+([]:List Keyword).length+(if ([]:List Keyword).isEmpty then 0 else 1)<30))=true
 line:(apos.endLine == cpos.line)=true
 trees:backTo cpos (starEach [e] X.env)=[(false,eval e X.env)]
noncomputable def IsD (H:Hp)(a:Addr):Prop:=(∃kvs,Rd H a (.dK kvs))\/∃kvs,Rd H a (.dT kvs)
theorem Ym {X:Cx}{pins:List (Addr×Obj)}{σ:St}{H:Hp}{s:Shared}{a:Addr}(I:Inv X pins σ H s)(d:IsD H a) :
  s.TypeIs (.ref a) "dict" /\ (∀b,Value.ref a=.ref b->∃ob,s.heap.get? b=some ob/\ob.dict=none)/\(a == sysModules)=false:=by
 rcases d with⟨kvs,e⟩|⟨kvs,e⟩
 ·obtain⟨_,hd,vs,_,dd⟩:=QK I.hok e;refine⟨dd.typeIs,fun b q=>?_,hd⟩;cases q;obtain⟨ob,_,_,h1,h2,_⟩:=dd;exact⟨ob,h1,h2.2.1⟩
 obtain⟨_,hd,xs,_,dd⟩:=Wd I.hok e;refine⟨dd.typeIs,fun b q=>?_,hd⟩;cases q;obtain⟨ob,_,_,h1,h2,_⟩:=dd;exact⟨ob,h1,h2.2.1⟩
theorem gW.Wk {k:Nat}{A:Around}(r:gW k A):A.units+1<cLine:=by have:=r.un;omega
noncomputable def Uw:PyData->Int
 | .int i=>i
 | _=>0
noncomputable def iZ (w:Str):List Int->Bool
 | [a]=>decide (w = "pick")&&decide (0<=a)
 | [_,_]=>decide (w = "is")||decide (w = "below")
 | [a,b,_]=>decide (w = "within")&&decide (a<=b)
 | [_,wd,bits,_]=>decide (w = "mask")&&((decide (1<=wd)&&decide (wd<=64))&&(decide (0<=bits)&&decide (bits<2^wd.toNat)))
 | _=>false
noncomputable def Wa (is:List Int):List Int:=match is.getLast? with
 | some t=>[t]
 | none=>[]
noncomputable def oO (w:Str) (is:List Int):List Int:=if w = "pick" then [] else Wa is
noncomputable def YL:List PyData->Option (List PyData)
 | [.int _,.tuple gs]=>if (!gs.isEmpty&&gs.all FZ)=true then some gs else none
 | _=>none
noncomputable def Ms:PyData->Bool
 | .tuple (.str w::ps)=>if w = "table" then (YL ps).isSome else ps.all FZ&&iZ w (ps.map Uw)
 | _=>false
noncomputable def Qn:PyData->List Int
 | .tuple (.str w::ps)=>if w = "table" then ((YL ps).getD []).map Uw else oO w (ps.map Uw)
 | _=>[]
noncomputable def btw (own many:Int)(t:Int):Bool:=decide (own<t)&&decide (t<many)
noncomputable def Ew (own many:Int)(d:PyData):Bool:=Ms d&&(Qn d).all (btw own many)
theorem aM.ints {ok:Addr->Prop}{H:Hp}:∀{xs:List V}{is:List Int},aM ok H xs (is.map PyData.int)->xs=is.map V.int
 | _,[],.nil=>rfl
 | _,i::is,.cons h r=>by
  cases h;rw[r.ints];rfl
theorem xG {ok:Addr->Prop}{H:Hp}:∀(is:List Int),aM ok H (is.map V.int) (is.map PyData.int)
 | []=>.nil
 | i::is=>.cons (.int i) (xG is)
theorem Bo {p:Prop}[Decidable p]{b:Bool}(h:¬p):(decide p&&b)=false:=by rw[decide_eq_false h,Bool.false_and]
theorem aaf {p:Prop}[Decidable p]{b:Bool}(h:p):(decide p&&b)=b:=by rw[decide_eq_true h,Bool.true_and]
theorem Oz (is:List Int):(is.map PyData.int).map Uw=is:=by
 rw[map_map];exact(List.map_congr_left fun a _=>rfl).trans (List.map_id is)
theorem J5 (is:List Int):(is.map PyData.int).all FZ=true:=by
 rw[all_eq_true];intro d hd;obtain⟨i,_,rfl⟩:=mem_map.mp hd;rfl
theorem BZ {own many:Int}{dw:PyData}{is:List Int}(h1:Yk dw "table" = false):Ew own many (.tuple (dw::is.map PyData.int))=(match dw with | .str w=>iZ w is&&(oO w is).all (btw own many)|_=>false):=by
 cases dw with
 | str w=>
  have:w ≠ "table" := fun z=>by rw[z] at h1;exact absurd h1 ψ
  unfold Ew Ms Qn;simp only[if_neg this,J5,Oz,Bool.true_and]
 | _=>rfl
theorem MT (own many:Int) (is:List Int):Ew own many (.tuple (.str "pick" :: is.map PyData.int))=(match is with | [a]=>decide (0<=a)|_=>false):=by
 rw[BZ ψ];show(iZ "pick" is&&(oO "pick" is).all (btw own many))=_;rw[show oO "pick" is=[] from if_pos rfl,all_nil,Bool.and_true]
 match is with
 | []=>rfl
 | [a]=>show(decide (("pick" : Str) = "pick")&&decide (0<=a))=decide (0<=a);rw[decide_eq_true rfl,Bool.true_and]
 | [a,b]=>exact(by decide +kernel:(decide (("pick" : Str) = "is")||decide (("pick" : Str) = "below"))=false)
 | [a,b,c]=>exact Bo (p:=("pick" : Str) = "within") (b:=decide (a<=b)) ψ
 | [a,b,c,d]=>exact Bo (p:=("pick" : Str) = "mask") (b:=(decide (1<=b)&&decide (b<=64))&&(decide (0<=c)&&decide (c<2^b.toNat))) ψ
 | a::b::c::d::e::r=>rfl
theorem fM {w:Str}{is:List Int}{t:Int}(h:w ≠ "pick") (hl:is.getLast?=some t):oO w is=[t]:=by
 unfold oO Wa;rw[if_neg h,hl]
theorem eV {w:Str}(h:w = "is" \/ w = "below") (is:List Int):iZ w is=decide (is.length=2):=by
 have h3:decide (w = "pick")=false:=decide_eq_false (by rcases h with rfl|rfl <;> decide +kernel)
 have h4:decide (w = "within")=false:=decide_eq_false (by rcases h with rfl|rfl <;> decide +kernel)
 have h5:decide (w = "mask")=false:=decide_eq_false (by rcases h with rfl|rfl <;> decide +kernel)
 match is with
 | []=>rfl
 | [a]=>show(decide (w = "pick")&&_)=_;rw[h3];rfl
 | [a,b]=>
  show(decide (w = "is")||decide (w = "below"))=true;rcases h with z|z
  ·rw[decide_eq_true z,Bool.true_or]
  rw[decide_eq_true z,Bool.or_true]
 | [a,b,c]=>show(decide (w = "within")&&_)=_;rw[h4];rfl
 | [a,b,c,d]=>show(decide (w = "mask")&&_)=_;rw[h5];rfl
 | a::b::c::d::e::r=>show false=decide (r.length+5=2);exact(decide_eq_false ω).symm
theorem kj (is:List Int):iZ "within" is=(match is with | [a,b,_]=>decide (a<=b)|_=>false):=by
 match is with
 | []=>rfl
 | [a]=>exact Bo (p:=("within" : Str) = "pick") (b:=decide (0<=a)) ψ
 | [a,b]=>exact(by decide +kernel:(decide (("within" : Str) = "is")||decide (("within" : Str) = "below"))=false)
 | [a,b,c]=>show(decide (("within" : Str) = "within")&&decide (a<=b))=decide (a<=b);rw[decide_eq_true rfl,Bool.true_and]
 | [a,b,c,d]=>exact Bo (p:=("within" : Str) = "mask") (b:=(decide (1<=b)&&decide (b<=64))&&(decide (0<=c)&&decide (c<2^b.toNat))) ψ
 | a::b::c::d::e::r=>rfl
theorem oX (is:List Int):iZ "mask" is=(match is with | [_,wd,bits,_]=>(decide (1<=wd)&&decide (wd<=64))&&(decide (0<=bits)&&decide (bits<2^wd.toNat))|_=>false):=by
 match is with
 | []=>rfl
 | [a]=>exact Bo (p:=("mask" : Str) = "pick") (b:=decide (0<=a)) ψ
 | [a,b]=>exact(by decide +kernel:(decide (("mask" : Str) = "is")||decide (("mask" : Str) = "below"))=false)
 | [a,b,c]=>exact Bo (p:=("mask" : Str) = "within") (b:=decide (a<=b)) ψ
 | [a,b,c,d]=>exact aaf (p:=("mask" : Str) = "mask") (b:=(decide (1<=b)&&decide (b<=64))&&(decide (0<=c)&&decide (c<2^b.toNat))) rfl
 | a::b::c::d::e::r=>rfl
theorem rT {w:Str}(h1:w ≠ "is") (h2:w ≠ "below") (h3:w ≠ "within") (h4:w ≠ "mask") (h5:w ≠ "pick") (is:List Int):iZ w is=false:=by
 match is with
 | []=>rfl
 | [a]=>exact Bo h5
 | [a,b]=>show(decide (w = "is")||decide (w = "below"))=_;rw[decide_eq_false h1,decide_eq_false h2];rfl
 | [a,b,c]=>exact Bo h3
 | [a,b,c,d]=>exact Bo h4
 | a::b::c::d::e::r=>rfl
theorem Cu:(("is" : Str) = "below")=False:=eq_false ψ
theorem Fq:(("is" : Str) = "mask")=False:=eq_false ψ
theorem Fp:(("is" : Str) = "pick")=False:=eq_false ψ
theorem Cr:(("is" : Str) = "table")=False:=eq_false ψ
theorem zW:(("within" : Str) = "is")=False:=eq_false ψ
theorem sX:(("within" : Str) = "below")=False:=eq_false ψ
theorem uO:(("within" : Str) = "mask")=False:=eq_false ψ
theorem uN:(("within" : Str) = "pick")=False:=eq_false ψ
theorem sW:(("within" : Str) = "table")=False:=eq_false ψ
theorem Cv:(("below" : Str) = "is")=False:=eq_false ψ
theorem sZ:(("below" : Str) = "within")=False:=eq_false ψ
theorem wM:(("below" : Str) = "mask")=False:=eq_false ψ
theorem wL:(("below" : Str) = "pick")=False:=eq_false ψ
theorem uR:(("below" : Str) = "table")=False:=eq_false ψ
theorem Fo:(("mask" : Str) = "is")=False:=eq_false ψ
theorem uQ:(("mask" : Str) = "within")=False:=eq_false ψ
theorem oJ:(("mask" : Str) = "below")=False:=eq_false ψ
theorem qb:(("mask" : Str) = "pick")=False:=eq_false ψ
theorem oH:(("mask" : Str) = "table")=False:=eq_false ψ
theorem uP:(("pick" : Str) = "within")=False:=eq_false ψ
theorem oG:(("pick" : Str) = "below")=False:=eq_false ψ
theorem zX:(("pick" : Str) = "mask")=False:=eq_false ψ
theorem wK:(("pick" : Str) = "table")=False:=eq_false ψ
theorem Cq:(("table" : Str) = "is")=False:=eq_false ψ
theorem sY:(("table" : Str) = "within")=False:=eq_false ψ
theorem mF:(("table" : Str) = "below")=False:=eq_false ψ
theorem oF:(("table" : Str) = "mask")=False:=eq_false ψ
theorem oE:(("table" : Str) = "pick")=False:=eq_false ψ
noncomputable def rdW:=And.intro @zW (And.intro @Cv (And.intro @sZ (And.intro @Fo (And.intro @uQ (And.intro @oJ (And.intro @qb (And.intro @oH (And.intro @uP (And.intro @oG (And.intro @Cq (And.intro @sY (And.intro @mF (And.intro @oF @oE)))))))))))))
theorem Wc {K:PySem.W.Frag}{a:Addr}{xs:List V}{g:TG}{tb:TS}{D:Ends}{σ:St}{H:Hp}{R:It->Hp->Prop}(hR:R=(fun J H1=>∃W:Nat->Nat->St->Hp->Prop,(∃m,W 0 m σ H1)/\∀i m σ H,W i m σ H ->
  (J.stop i H/\D.nx σ H)\/(J.go i H/\∃N:St->Hp->Prop,(∀σ' H',N σ' H'->∃m',m'<m/\W (i+1) m' σ' H')/\∀x H',J.yld i H x H'->g x σ H' fun σ2 H2=>tb { D with nx:=N,ct:=N,bk:=D.nx } σ2 H2)))
  (Pv:Nat->St->Hp->Prop) (h0:Pv 0 σ H) (hl:∀i σ H,Pv i σ H->H a=some (.lst xs))
  (hs:∀(i:Nat) x σ H p,xs[i]?=some x->Pv i σ H->H p=none->g (.ref p) σ (upd H p (.tup [.int (i:Nat),x])) fun σ2 H2=>tb { D with nx:=Pv (i+1),ct:=Pv (i+1),bk:=D.nx } σ2 H2) (hd:∀σ H,Pv xs.length σ H->D.nx σ H):R (Ite K a) H:=by
 refine Qw hR xs.length Pv h0 (fun i σ H hi p=>?_) (fun σ H p=>?_) (fun i σ H x H3 hi p y=>?_) hd
 ·exact⟨xs,_,SqL.of (hl i σ H p),getElem?_eq_getElem hi⟩
 ·exact⟨xs,SqL.of (hl _ σ H p),getElem?_eq_none (le_refl _)⟩
 obtain⟨q,x1,rfl,hq,rfl,hx⟩:=y;exact hs i x1 σ H q (hx _ (SqL.of (hl i σ H p))) p hq
noncomputable def lW (w:Str):Int:=if w = "is" then 3 else if w = "within" then 4 else if w = "below" then 3 else if w = "mask" then 5 else if w = "pick" then 2 else 0
theorem uy (w:Str):(w = "is" /\ lW w=3)\/(w = "within" /\ lW w=4)\/(w = "below" /\ lW w=3)\/(w = "mask" /\ lW w=5)\/(w = "pick" /\ lW w=2)\/(lW w=0/\w ≠ "is" /\ w ≠ "below" /\ w ≠ "within" /\ w ≠ "mask" /\ w ≠ "pick"):=by
 unfold lW;by_cases h1:w = "is"
 ·exact .inl ⟨h1,if_pos h1⟩
 by_cases h2:w = "within"
 ·exact .inr (.inl ⟨h2,by rw[if_neg h1,if_pos h2]⟩)
 by_cases h3:w = "below"
 ·exact .inr (.inr (.inl ⟨h3,by rw[if_neg h1,if_neg h2,if_pos h3]⟩))
 by_cases h4:w = "mask"
 ·exact .inr (.inr (.inr (.inl ⟨h4,by rw[if_neg h1,if_neg h2,if_neg h3,if_pos h4]⟩)))
 by_cases h5:w = "pick"
 ·exact .inr (.inr (.inr (.inr (.inl ⟨h5,by rw[if_neg h1,if_neg h2,if_neg h3,if_neg h4,if_pos h5]⟩))))
 exact .inr (.inr (.inr (.inr (.inr ⟨by rw[if_neg h1,if_neg h2,if_neg h3,if_neg h4,if_neg h5],h1,h3,h2,h4,h5⟩))))
theorem En {w:Str}{is:List Int}(h:lW w≠(is.length:Int)+1):iZ w is=false:=by
 rcases uy w with⟨rfl,e⟩|⟨rfl,e⟩|⟨rfl,e⟩|⟨rfl,e⟩|⟨rfl,e⟩|⟨e,h1,h2,h3,h4,h5⟩
 ·rw[eV (.inl rfl)];exact decide_eq_false (by rw[e] at h;omega)
 ·rw[kj]
  match is,h with
  | [],_=>rfl
  | [a],_=>rfl
  | [a,b],_=>rfl
  | [a,b,c],h=>exact absurd e h
  | a::b::c::d::r,_=>rfl
 ·rw[eV (.inr rfl)];exact decide_eq_false (by rw[e] at h;omega)
 ·rw[oX]
  match is,h with
  | [],_=>rfl
  | [a],_=>rfl
  | [a,b],_=>rfl
  | [a,b,c],_=>rfl
  | [a,b,c,d],h=>exact absurd e h
  | a::b::c::d::f::r,_=>rfl
 ·have:=MT 0 0 is;rw[BZ ψ] at this;replace this:(iZ "pick" is&&(oO "pick" is).all (btw 0 0))=_:=this;rw[show oO "pick" is=[] from if_pos rfl,all_nil,Bool.and_true] at this;rw[this]
  match is,h with
  | [],_=>rfl
  | [a],h=>exact absurd e h
  | a::b::r,_=>rfl
 exact rT h1 h2 h3 h4 h5 is
theorem Same.none {H H':Hp}(s:Same H H'){p:Addr}(h:H' p=none):H p=none:=by
 cases e:H p with
 | none=>rfl
 | some o=>rw[s _ _ e] at h;cases h
theorem Zr {is:List Int}(h:is.length=2):∃a b,is=[a,b]:=by
 match is,h with
 | [a,b],_=>exact⟨a,b,rfl⟩
theorem Z5 {is:List Int}(h:is.length=1):∃a,is=[a]:=by
 match is,h with
 | [a],_=>exact⟨a,rfl⟩
inductive m9 where
 | ins (w:Str) (is:List Int)
 | tab (n:Int) (gs:List Int)
noncomputable def wI:m9->PyData
 | .ins w is=>.tuple (.str w::is.map PyData.int)
 | .tab n gs=>.tuple [.str "table",.int n,.tuple (gs.map PyData.int)]
noncomputable def iM (many own:Int):m9->Prop
 | .ins w is=>w ≠ "table" /\ iZ w is=true/\(oO w is).all (btw own many)=true/\(∀i∈is,i.natAbs<=2^64)/\is.length<=4/\w.length<=10
 | .tab n gs=>gs≠[]/\gs.length<=200/\gs.all (btw own many)=true/\n.natAbs<=1000
theorem xU {k:Nat}(h:k<=64):(2:Int)^k<=2^64:=by
 have:=Nat.pow_le_pow_right (n:=2) δ h
 exact_mod_cast this
theorem xP {rs:List m9}{m:Int}{r:m9}(h:∀(j:Nat) r,rs[j]?=some r->iM m j r)(hr:iM m rs.length r):∀(j:Nat) r',(rs++[r])[j]?=some r'->iM m j r':=fun j r' e=>by
 rcases lt_or_ge j rs.length with z|z
 ·rw[List.getElem?_append_left z] at e;exact h j r' e
 rw[getElem?_append_right z] at e;cases hk:j-rs.length with
 | zero=>
  rw[hk] at e;cases e;rw[show j=rs.length by omega];exact hr
 | succ k=>rw[hk] at e;cases e
theorem V9 {m o n t:Int}(h1:n.natAbs<=2^64) (h2:t.natAbs<=2^64) (h:btw o m t=true):iM m o (.ins "is" [n,t])/\iM m o (.ins "below" [n,t]):=by
 constructor <;> exact⟨ψ,by rw[eV (by first|exact .inl rfl|exact .inr rfl)];rfl,by rw[fM ψ (show [n,t].getLast?=some t from rfl)];simp [h],by simp [h1,h2],by simp,ψ⟩
theorem JL {m o a b t:Int}(hab:a<=b) (h1:a.natAbs<=2^64) (h2:b.natAbs<=2^64) (h3:t.natAbs<=2^64) (h:btw o m t=true):iM m o (.ins "within" [a,b,t]):=
 ⟨ψ,by rw[kj];exact decide_eq_true hab,by rw[fM ψ (show [a,b,t].getLast?=some t from rfl)];simp [h],by simp [h1,h2,h3],by simp,ψ⟩
theorem Uk {m o a wd bits t:Int}(hw:1<=wd/\wd<=64) (hb:0<=bits/\bits<2^wd.toNat) (h1:a.natAbs<=2^64) (h3:t.natAbs<=2^64) (h:btw o m t=true):iM m o (.ins "mask" [a,wd,bits,t]):=by
 have p:=xU (k:=wd.toNat) ω;refine⟨ψ,?_,by rw[fM ψ (show [a,wd,bits,t].getLast?=some t from rfl)];simp [h],?_,by simp,ψ⟩
 ·rw[oX];show((decide (1<=wd)&&decide (wd<=64))&&(decide (0<=bits)&&decide (bits<2^wd.toNat)))=true;rw[decide_eq_true hw.1,decide_eq_true hw.2,decide_eq_true hb.1,decide_eq_true hb.2];rfl
 intro i hi;simp only[mem_cons,not_mem_nil,or_false] at hi;rcases hi with rfl|rfl|rfl|rfl <;> omega
theorem HJ {m o l:Int}(h:0<=l) (h2:l.natAbs<=2^64):iM m o (.ins "pick" [l]):=
 ⟨ψ,by show(decide (("pick" : Str) = "pick")&&decide (0<=l))=true;rw[decide_eq_true rfl,decide_eq_true h];rfl,by rw[show oO "pick" [l]=[] from if_pos rfl];rfl,by simp [h2],by simp,ψ⟩
theorem DG {o m r:Int}(h0:0<=r)(h1:r<m-o-1):btw o m (o+1+r)=true:=by
 unfold btw;rw[decide_eq_true ω,decide_eq_true ω];rfl
mutual
noncomputable def szB:PyData->Bool
 | .none=>true
 | .bool _=>true
 | .int i=>decide (i.natAbs<=10^20)
 | .str x=>decide (x.length<=30)&&x.cps.toList.all fun c=>decide (c<16^8)
 | .list ds=>decide (ds.length<=210)&&Wy ds
 | .tuple ds=>decide (ds.length<=210)&&Wy ds
 | .dict _=>false
noncomputable def Wy:List PyData->Bool
 | []=>true
 | d::ds=>szB d&&Wy ds
end
theorem RD {w:Str}{is:List Int}(h:iZ w is=true):w = "is" \/ w = "within" \/ w = "below" \/ w = "mask" \/ w = "pick" := by
 rcases uy w with⟨e,_⟩|⟨e,_⟩|⟨e,_⟩|⟨e,_⟩|⟨e,_⟩|⟨_,h1,h2,h3,h4,h5⟩
 ·exact .inl e
 ·exact .inr (.inl e)
 ·exact .inr (.inr (.inl e))
 ·exact .inr (.inr (.inr (.inl e)))
 ·exact .inr (.inr (.inr (.inr e)))
 rw[rT h1 h2 h3 h4 h5] at h;cases h
theorem tY {prog:Program}{w:World}{A:Around}{E:Value->Shared->Prop}{s:Shared}{z TI TO i1 i2 l1 l2:Addr}{k1 k2:Nat}{xs ys:Array Value}{x y a b:Value}{Q:Value->Shared->Prop}(D:ZipApart z TI TO i1 i2 l1 l2)(hz:IsZip s.heap z TI TO Value.none)(hTI:IsPair s.heap TI (Value.ref i1) (Value.ref i2))(hTO:IsPair s.heap TO a b)
  (h1:s.heap.IsTupleIter i1 l1 k1) (h2:s.heap.IsTupleIter i2 l2 k2) (hl1:s.heap.IsTuple l1 xs) (hl2:s.heap.IsTuple l2 ys) (hx:xs[k1]?=some x) (hy:ys[k2]?=some y)
  (hQ:∀h':Heap,IsZip h' z TI TO (rawInt s.heap.objs.size)->IsPair h' TO x y->h'.IsTupleIter i1 l1 (k1+1)->h'.IsTupleIter i2 l2 (k2+1)->IsPair h' s.heap.objs.size x y->h'.objs.size=s.heap.objs.size+1->(∀c o,c≠z->c≠TO->c≠i1->c≠i2->s.heap.get? c=some o->h'.get? c=some o)->Q (Value.ref s.heap.objs.size) { s with heap:=h' }) :
  wpAny (model prog w) A (Builtin.«zip.__next__» { pos:=[Value.ref z] }) (fun fin s'=>∃v,fin=Fin.done (Flow.ret v)/\Q v s') E s:=by
 show wpAny _ _ (field (Value.ref z) 2 >>= _) _ _ _;refine wpAny_bind (wpAny_field hz rfl rfl ?_);show wpAny _ _ (field (Value.ref z) 3 >>= _) _ _ _;refine wpAny_bind (wpAny_field hz rfl rfl ?_);refine wpAny_bind (wpAny_seqItems hTI rfl ?_);show wpAny _ _ (Builtin.SmallTypes.ownedTupleIsFree (Value.ref z) >>= _) _ _ _;refine wpAny_bind ?_;show wpAny _ _ (field (Value.ref z) 0 >>= _) _ _ _;refine wpAny_bind (wpAny_field hz rfl rfl (wpAny_pure ?_));show wpAny _ _ (rule _ >>= _) _ _ _;refine wpAny_bind (wpAny_rule (wpAny_bind (wpAny_field hz rfl rfl ?_)));show wpAny _ _ (setField (Value.ref z) 0 Value.ellipsis >>= _) _ _ _;refine wpAny_bind (wpAny_setField_rec hz (lt_of_sub_pos (zero_lt_succ 4)) fun h₁ hz₁ hs₁=>?_);have old1:∀c o,c≠z->s.heap.get? c=some o->h₁.get? c=some o:=fun c o hc e=>(hs₁.2 c hc).trans e;have h1a:h₁.IsTupleIter i1 l1 k1:=h1.at fun o e=>old1 i1 o D.i1z e;have h2a:h₁.IsTupleIter i2 l2 k2:=h2.at fun o e=>old1 i2 o D.i2z e;have tup:∀{h:Heap}{l:Addr}{vs:Array Value},s.heap.IsTuple l vs->(∀o,s.heap.get? l=some o->h.get? l=some o)->h.IsTuple l vs:=fun⟨o,e,r⟩ k=>⟨o,k o e,r⟩;refine wpAny_bind ?_;show wpAny _ _ (forIn [(Value.ref i1,0),(Value.ref i2,1)] (none,()) _) _ _ _;rw[forIn_cons];refine wpAny_bind ?_;show wpAny _ _ ((Sem.onRaise (Builtin.SmallTypes.nextOf (Value.ref i1) >>= fun v=>pure (some v)) (fun _=>setField (Value.ref z) 0 Value.none)) >>= _) _ _ _;refine wpAny_bind (wpAny_onRaise (wpAny_bind (dH (s:={ s with heap:=h₁ }) h1a (tup hl1 fun o e=>old1 l1 o D.l1z e) hx fun h₂ h1b sb₂=>wpAny_pure ?_)));have old2:∀c o,c≠z->c≠i1->s.heap.get? c=some o->h₂.get? c=some o:=fun c o hc hc1 e=>(sb₂.2 c hc1).trans (old1 c o hc e);have hTO2:IsPair h₂ TO a b:=old2 TO _ D.TOz D.TOi1 hTO;show wpAny _ _ (seqItems? (Value.ref TO) >>= _) _ _ _;refine wpAny_bind (wpAny_seqItems (s:={ s with heap:=h₂ }) hTO2 rfl ?_);show wpAny _ _ (updateSeq TO _ >>= _) _ _ _;refine wpAny_bind (wpAny_updateSeq_pair (s:={ s with heap:=h₂ }) hTO2 fun h₃ g₃ sb₃=>?_);refine wpAny_bind (wpAny_letGo (wpAny_pure ?_));show wpAny _ _ (forIn [(Value.ref i2,1)] (none,()) _) _ _ _;rw[forIn_cons];refine wpAny_bind ?_;have old3:∀c o,c≠z->c≠i1->c≠TO->s.heap.get? c=some o->h₃.get? c=some o:=fun c o hc hc1 hc2 e=>(sb₃.2 c hc2).trans (old2 c o hc hc1 e);have h2c:h₃.IsTupleIter i2 l2 k2:=h2.at fun o e=>old3 i2 o D.i2z (Ne.symm D.i12) (Ne.symm D.TOi2) e;have g₃':IsPair h₃ TO x b:=g₃;show wpAny _ _ ((Sem.onRaise (Builtin.SmallTypes.nextOf (Value.ref i2) >>= fun v=>pure (some v)) (fun _=>setField (Value.ref z) 0 Value.none)) >>= _) _ _ _;refine wpAny_bind (wpAny_onRaise (wpAny_bind (dH (s:={ s with heap:=h₃ }) h2c (tup hl2 fun o e=>old3 l2 o D.l2z D.l2i1 D.l2TO e) hy fun h₄ h2d sb₄=>wpAny_pure ?_)));have hTO4:IsPair h₄ TO x b:=(sb₄.2 TO D.TOi2).trans g₃';show wpAny _ _ (seqItems? (Value.ref TO) >>= _) _ _ _;refine wpAny_bind (wpAny_seqItems (s:={ s with heap:=h₄ }) hTO4 rfl ?_);show wpAny _ _ (updateSeq TO _ >>= _) _ _ _
 refine wpAny_bind (wpAny_updateSeq_pair (s:={ s with heap:=h₄ }) hTO4 fun h₅ g₅ sb₅=>?_);refine wpAny_bind (wpAny_letGo (wpAny_pure ?_));have g₅':IsPair h₅ TO x y:=g₅;show wpAny _ _ (forIn [] (none,()) _) _ _ _;rw[forIn_nil];refine wpAny_pure ?_;show wpAny _ _ (seqItems? (Value.ref TO) >>= _) _ _ _;refine wpAny_bind (wpAny_seqItems (s:={ s with heap:=h₅ }) g₅' rfl ?_);show wpAny _ _ (newTuple [x,y] >>= _) _ _ _;refine wpAny_bind (wpAny_newTuple ?_ (by show 2<=sizeLine;decide));have sz:h₅.objs.size=s.heap.objs.size:=by
  rw[sb₅.1,sb₄.1,sb₃.1,sb₂.1,hs₁.1]
 have z5:h₅.get? z=_:=(sb₅.2 z (Ne.symm D.TOz)).trans ((sb₄.2 z (Ne.symm D.i2z)).trans ((sb₃.2 z (Ne.symm D.TOz)).trans ((sb₂.2 z (Ne.symm D.i1z)).trans hz₁)));have z6:(h₅.push { cls:=Value.type "tuple",data:=Data.seq #[x,y] }).get? z=_:=get?_push_of_some _ z5;refine wpAny_bind ?_;show wpAny _ _ (setField (Value.ref z) 0 (rawInt h₅.objs.size) >>= fun _=>setField (Value.ref z) 1 (Value.bool false)) _ _ _;refine wpAny_bind (wpAny_setField_rec (s:={ s with heap:=h₅.push { cls:=Value.type "tuple",data:=Data.seq #[x,y] } }) z6 (lt_of_sub_pos (zero_lt_succ 4)) fun h₇ hz₇ hs₇=>?_);refine wpAny_setField_rec (s:={ s with heap:=h₇ }) hz₇ (lt_of_sub_pos (zero_lt_succ 3)) fun h₈ hz₈ hs₈=>?_;have nzs:s.heap.objs.size≠z:=fun q=>by
  have:=lt_size hz;rw[<- q] at this;exact lt_irrefl _ this
 have old6:∀c o,h₅.get? c=some o->(h₅.push { cls:=Value.type "tuple",data:=Data.seq #[x,y] }).get? c=some o:=fun c o e=>get?_push_of_some _ e;have old8:∀c o,c≠z->h₅.get? c=some o->h₈.get? c=some o:=fun c o hc e=>(hs₈.2 c hc).trans ((hs₇.2 c hc).trans (old6 c o e));have new8:h₈.get? s.heap.objs.size=some { cls:=Value.type "tuple",data:=Data.seq #[x,y] }:=by
  refine(hs₈.2 _ nzs).trans ((hs₇.2 _ nzs).trans ?_);show(h₅.push { cls:=Value.type "tuple",data:=Data.seq #[x,y] }).get? s.heap.objs.size=_;rw[<- sz];exact get?_push_size _ rfl
 refine wpAny_pure ⟨_,rfl,?_⟩;rw[show(({ s with heap:=h₅ }:Shared).heap.objs.size)=s.heap.objs.size from sz];refine hQ h₈ ?_ ?_ ?_ ?_ new8 ?_ ?_
 ·rw[sz] at hz₈;exact hz₈
 ·exact old8 TO _ D.TOz g₅'
 ·refine h1b.at fun o e=>old8 i1 o D.i1z ?_;exact(sb₅.2 i1 (Ne.symm D.TOi1)).trans ((sb₄.2 i1 D.i12).trans ((sb₃.2 i1 (Ne.symm D.TOi1)).trans e))
 ·refine h2d.at fun o e=>old8 i2 o D.i2z ?_;exact(sb₅.2 i2 (Ne.symm D.TOi2)).trans e
 ·rw[hs₈.1,hs₇.1];show(h₅.push { cls:=Value.type "tuple",data:=Data.seq #[x,y] }).objs.size=_;rw[size_push,sz]
 intro c o hc1 hc2 hc3 hc4 e;exact old8 c o hc1 ((sb₅.2 c hc2).trans ((sb₄.2 c hc4).trans (old3 c o hc1 hc3 hc2 e)))
theorem j9 {prog:Program}{w:World}{A:Around}{E:Value->Shared->Prop}{s:Shared}{z TI TO i1 i2 l1 l2:Addr}{k1 k2:Nat}{xs ys:Array Value}{x y a b:Value}{Q:Option Value->Shared->Prop}(D:ZipApart z TI TO i1 i2 l1 l2)(hz:IsZip s.heap z TI TO Value.none)(hTI:IsPair s.heap TI (Value.ref i1) (Value.ref i2))(hTO:IsPair s.heap TO a b)
  (h1:s.heap.IsTupleIter i1 l1 k1) (h2:s.heap.IsTupleIter i2 l2 k2) (hl1:s.heap.IsTuple l1 xs) (hl2:s.heap.IsTuple l2 ys) (hx:xs[k1]?=some x) (hy:ys[k2]?=some y)
  (hQ:∀h':Heap,IsZip h' z TI TO (rawInt s.heap.objs.size)->IsPair h' TO x y->h'.IsTupleIter i1 l1 (k1+1)->h'.IsTupleIter i2 l2 (k2+1)->IsPair h' s.heap.objs.size x y->h'.objs.size=s.heap.objs.size+1->(∀c o,c≠z->c≠TO->c≠i1->c≠i2->s.heap.get? c=some o->h'.get? c=some o)->Q (some (Value.ref s.heap.objs.size)) { s with heap:=h' }) :
  wpAny (model prog w) A (pyNext (Value.ref z)) Q E s:=by
 have hT:∃o,s.heap.get? z=some o/\o.cls=Value.type "zip" := ⟨_,hz,rfl⟩;exact wpAny_bind (wpAny_attempt (wpAny_callSpecial?_slot hT F.slot_zip_next (wpAny_call_entry F.slot_zip_next hT F.entry_zip_next
  (tY D hz hTI hTO h1 h2 hl1 hl2 hx hy fun h' a1 a2 a3 a4 a5 a6 a7=>wpAny_pure (hQ h' a1 a2 a3 a4 a5 a6 a7)) (F.args_zip_next_1 (Value.ref z)))))
theorem wu {prog:Program}{w:World}{A:Around}{E:Value->Shared->Prop}{s:Shared}{z TI TO i1 i2 l1 l2:Addr}{k1 k2:Nat}{xs ys:Array Value}{a b:Value}{Q:PySem.Fin->Shared->Prop}(hh:A.handled=none)(D:ZipApart z TI TO i1 i2 l1 l2)(hz:IsZip s.heap z TI TO Value.none)(hTI:IsPair s.heap TI (Value.ref i1) (Value.ref i2))(hTO:IsPair s.heap TO a b)
  (h1:s.heap.IsTupleIter i1 l1 k1) (h2:s.heap.IsTupleIter i2 l2 k2) (hl1:s.heap.IsTuple l1 xs) (hl2:s.heap.IsTuple l2 ys) (hend:xs[k1]?=none\/ys[k2]?=none)
  (hE:∀(h':Heap)(e:Addr),(∀c o,c≠z->c≠TO->c≠i1->c≠i2->s.heap.get? c=some o->h'.get? c=some o)->(∃o,h'.get? e=some o/\o.cls=Value.type "StopIteration")->E (Value.ref e) { s with heap:=h' }) :
  wpAny (model prog w) A (Builtin.«zip.__next__» { pos:=[Value.ref z] }) Q E s:=by
 show wpAny _ _ (field (Value.ref z) 2 >>= _) _ _ _;refine wpAny_bind (wpAny_field hz rfl rfl ?_);show wpAny _ _ (field (Value.ref z) 3 >>= _) _ _ _;refine wpAny_bind (wpAny_field hz rfl rfl ?_);refine wpAny_bind (wpAny_seqItems hTI rfl ?_);show wpAny _ _ (Builtin.SmallTypes.ownedTupleIsFree (Value.ref z) >>= _) _ _ _;refine wpAny_bind ?_;show wpAny _ _ (field (Value.ref z) 0 >>= _) _ _ _;refine wpAny_bind (wpAny_field hz rfl rfl (wpAny_pure ?_));show wpAny _ _ (rule _ >>= _) _ _ _;refine wpAny_bind (wpAny_rule (wpAny_bind (wpAny_field hz rfl rfl ?_)));show wpAny _ _ (setField (Value.ref z) 0 Value.ellipsis >>= _) _ _ _;refine wpAny_bind (wpAny_setField_rec hz (lt_of_sub_pos (zero_lt_succ 4)) fun h₁ hz₁ hs₁=>?_);have old1:∀c o,c≠z->s.heap.get? c=some o->h₁.get? c=some o:=fun c o hc e=>(hs₁.2 c hc).trans e;have h1a:h₁.IsTupleIter i1 l1 k1:=h1.at fun o e=>old1 i1 o D.i1z e;have tup:∀{h:Heap}{l:Addr}{vs:Array Value},s.heap.IsTuple l vs->(∀o,s.heap.get? l=some o->h.get? l=some o)->h.IsTuple l vs:=fun⟨o,e,r⟩ k=>⟨o,k o e,r⟩;have out:∀{h:Heap}{e:Addr}{vs:Array Value},h.get? z=some { cls:=Value.type "zip",data:=Data.fields vs }->0<vs.size->(∀c o,c≠z->c≠TO->c≠i1->c≠i2->s.heap.get? c=some o->h.get? c=some o)->(∃o,h.get? e=some o/\o.cls=Value.type "StopIteration") ->
   wpAny (model prog w) A (setField (Value.ref z) 0 Value.none) (fun _ s''=>E (Value.ref e) s'') E { s with heap:=h }:=fun {h e vs} ez hv hk he=>by
  refine wpAny_setField_rec (s:={ s with heap:=h }) ez hv fun h' _ hs=>hE h' e (fun c o c1 c2 c3 c4 g=>(hs.2 c c1).trans (hk c o c1 c2 c3 c4 g)) ?_;obtain⟨o,ho,hc⟩:=he;refine⟨o,(hs.2 e fun q=>?_).trans ho,hc⟩;rw[q,ez] at ho;cases ho;injection hc with hc;exact absurd hc δ
 refine wpAny_bind ?_;show wpAny _ _ (forIn [(Value.ref i1,0),(Value.ref i2,1)] (none,()) _) _ _ _;rw[forIn_cons];refine wpAny_bind ?_;show wpAny _ _ ((Sem.onRaise (Builtin.SmallTypes.nextOf (Value.ref i1) >>= fun v=>pure (some v)) (fun _=>setField (Value.ref z) 0 Value.none)) >>= _) _ _ _;cases hx:xs[k1]? with
 | none=>
  refine wpAny_bind (wpAny_onRaise (wpAny_bind (gO (s:={ s with heap:=h₁ }) hh h1a (tup hl1 fun o e=>old1 l1 o D.l1z e) hx fun h₂ e ext he=>?_)));exact out (h:=h₂) (ext z _ (Ne.symm D.i1z) hz₁) (lt_of_sub_pos (zero_lt_succ 4)) (fun c o c1 c2 c3 c4 g=>ext c o c3 (old1 c o c1 g)) he
 | some x=>
  have hy:ys[k2]?=none:=by
   rcases hend with q|q
   ·rw[hx] at q;cases q
   exact q
  refine wpAny_bind (wpAny_onRaise (wpAny_bind (dH (s:={ s with heap:=h₁ }) h1a (tup hl1 fun o e=>old1 l1 o D.l1z e) hx fun h₂ h1b sb₂=>wpAny_pure ?_)));have old2:∀c o,c≠z->c≠i1->s.heap.get? c=some o->h₂.get? c=some o:=fun c o hc hc1 e=>(sb₂.2 c hc1).trans (old1 c o hc e);have hTO2:IsPair h₂ TO a b:=old2 TO _ D.TOz D.TOi1 hTO;show wpAny _ _ (seqItems? (Value.ref TO) >>= _) _ _ _;refine wpAny_bind (wpAny_seqItems (s:={ s with heap:=h₂ }) hTO2 rfl ?_);show wpAny _ _ (updateSeq TO _ >>= _) _ _ _;refine wpAny_bind (wpAny_updateSeq_pair (s:={ s with heap:=h₂ }) hTO2 fun h₃ g₃ sb₃=>?_);refine wpAny_bind (wpAny_letGo (wpAny_pure ?_));show wpAny _ _ (forIn [(Value.ref i2,1)] (none,()) _) _ _ _;rw[forIn_cons];refine wpAny_bind ?_;have old3:∀c o,c≠z->c≠i1->c≠TO->s.heap.get? c=some o->h₃.get? c=some o:=fun c o hc hc1 hc2 e=>(sb₃.2 c hc2).trans (old2 c o hc hc1 e);have h2c:h₃.IsTupleIter i2 l2 k2:=h2.at fun o e=>old3 i2 o D.i2z (Ne.symm D.i12) (Ne.symm D.TOi2) e;have z3:h₃.get? z=_:=(sb₃.2 z (Ne.symm D.TOz)).trans ((sb₂.2 z (Ne.symm D.i1z)).trans hz₁);show wpAny _ _ ((Sem.onRaise (Builtin.SmallTypes.nextOf (Value.ref i2) >>= fun v=>pure (some v)) (fun _=>setField (Value.ref z) 0 Value.none)) >>= _) _ _ _;refine wpAny_bind (wpAny_onRaise (wpAny_bind (gO (s:={ s with heap:=h₃ }) hh h2c (tup hl2 fun o e=>old3 l2 o D.l2z D.l2i1 D.l2TO e) hy fun h₄ e ext he=>?_)));exact out (h:=h₄) (ext z _ (Ne.symm D.i2z) z3) (lt_of_sub_pos (zero_lt_succ 4)) (fun c o c1 c2 c3 c4 g=>ext c o c4 (old3 c o c1 c3 c2 g)) he
theorem lJ {prog:Program}{w:World}{A:Around}{E:Value->Shared->Prop}{s:Shared}{z TI TO i1 i2 l1 l2:Addr}{k1 k2:Nat}{xs ys:Array Value}{a b:Value}{Q:Option Value->Shared->Prop}(hh:A.handled=none)(D:ZipApart z TI TO i1 i2 l1 l2)(hz:IsZip s.heap z TI TO Value.none)(hTI:IsPair s.heap TI (Value.ref i1) (Value.ref i2))(hTO:IsPair s.heap TO a b)
  (h1:s.heap.IsTupleIter i1 l1 k1) (h2:s.heap.IsTupleIter i2 l2 k2) (hl1:s.heap.IsTuple l1 xs) (hl2:s.heap.IsTuple l2 ys) (hend:xs[k1]?=none\/ys[k2]?=none)
  (hQ:∀h':Heap,(∀c o,c≠z->c≠TO->c≠i1->c≠i2->s.heap.get? c=some o->h'.get? c=some o)->Q none { s with heap:=h' }):wpAny (model prog w) A (pyNext (Value.ref z)) Q E s:=by
 have hT:∃o,s.heap.get? z=some o/\o.cls=Value.type "zip" := ⟨_,hz,rfl⟩;exact wpAny_bind (wpAny_attempt (wpAny_callSpecial?_slot hT F.slot_zip_next (wpAny_call_entry F.slot_zip_next hT F.entry_zip_next
  (wu hh D hz hTI hTO h1 h2 hl1 hl2 hend fun h' e hk he=>by
   obtain⟨o,ho,hc⟩:=he;exact wpAny_bind (wpAny_isInstance ⟨o,ho,hc⟩ isSubtype_stop (wpAny_pure (hQ h' hk)))) (F.args_zip_next_1 (Value.ref z)))))
noncomputable def tz1 (h:Heap) (l1:Addr):Heap:=h.push { cls:=Value.type "tuple_iterator",data:=Data.fields #[Value.ref l1,Value.int 0 0] }
noncomputable def tz2 (h:Heap) (l1 l2:Addr):Heap:=(tz1 h l1).push { cls:=Value.type "tuple_iterator",data:=Data.fields #[Value.ref l2,Value.int 0 0] }
noncomputable def tz3 (h:Heap) (l1 l2:Addr):Heap:=(tz2 h l1 l2).push { cls:=Value.type "tuple",data:=Data.seq #[Value.ref h.objs.size,Value.ref (tz1 h l1).objs.size] }
noncomputable def tz4 (h:Heap) (l1 l2:Addr):Heap:=(tz3 h l1 l2).push { cls:=Value.type "tuple",data:=Data.seq #[Value.none,Value.none] }
noncomputable def tz5 (h:Heap) (l1 l2:Addr):Heap:=(tz4 h l1 l2).push { cls:=Value.type "zip",data:=Data.fields #[Value.none,Value.bool false,Value.bool false,Value.ref (tz2 h l1 l2).objs.size,Value.ref (tz3 h l1 l2).objs.size] }
theorem K3 (l1 l2:Addr) (xs ys:Array Value):Meets (Builtin.«zip.__new__» { pos:=[Value.type "zip",Value.ref l1,Value.ref l2] }) fun _ R s=>
  s.heap.IsTuple l1 xs/\s.heap.IsTuple l2 ys/\R (.ok (.ret (.ref (tz4 s.heap l1 l2).objs.size))) { s with heap:=tz5 s.heap l1 l2 }:=by
 refine Meets.of_wp fun prog w A R s h=>?_;obtain⟨ht1,ht2,hR⟩:=h;unfold Builtin.«zip.__new__» Builtin.SmallTypes.newClass;refine wpAny_bind (wpAny_bind (wpAny_pure (wpAny_ite_false rfl (wpAny_bind (wpAny_of_eq sub_zip (wpAny_ite_false rfl (wpAny_pure ?_)))))));show wpAny _ _ (Builtin.SmallTypes.iterAll [Value.ref l1,Value.ref l2] >>= _) _ _ _;refine wpAny_bind ?_;unfold Builtin.SmallTypes.iterAll;refine wpAny_bind ?_;rw[forIn_cons];refine wpAny_bind (wpAny_bind (wpAny_holding (wpAny_pyIter_tuple ht1 (wpAny_pure ?_))));show wpAny _ _ (forIn [Value.ref l2] #[Value.ref s.heap.objs.size] _) _ _ _;rw[forIn_cons];have ht2':(tz1 s.heap l1).IsTuple l2 ys:=by
  obtain⟨o,e,r⟩:=ht2;exact⟨o,get?_push_of_some _ e,r⟩
 refine wpAny_bind (wpAny_bind (wpAny_holding (wpAny_pyIter_tuple (s:={ s with heap:=tz1 s.heap l1 }) ht2' (wpAny_pure ?_))));show wpAny _ _ (forIn [] #[Value.ref s.heap.objs.size,Value.ref (tz1 s.heap l1).objs.size] _) _ _ _;rw[forIn_nil];refine wpAny_pure (wpAny_pure ?_);show wpAny _ _ (newTuple [Value.ref s.heap.objs.size,Value.ref (tz1 s.heap l1).objs.size] >>= _) _ _ { s with heap:=tz2 s.heap l1 l2 };refine wpAny_bind (wpAny_newTuple ?_ (by show 2<=sizeLine;decide));show wpAny _ _ (newTuple [Value.none,Value.none] >>= _) _ _ { s with heap:=tz3 s.heap l1 l2 };refine wpAny_bind (wpAny_newTuple ?_ (by show 2<=sizeLine;decide));show wpAny _ _ (newObj (.type "zip") (.fields #[.none,.bool false,.bool false,.ref (tz2 s.heap l1 l2).objs.size,.ref (tz3 s.heap l1 l2).objs.size]) >>= fun r=>ret r) _ _ { s with heap:=tz4 s.heap l1 l2 };refine wpAny_bind (wpAny_newObj_type ?_);exact wpAny_pure ⟨_,rfl,hR⟩
theorem Dw {prog:Program}{w:World}{A:Around}{E:Value->Shared->Prop}{s:Shared}{l1 l2:Addr}{xs ys:Array Value}{Q:Value->Shared->Prop}(hl1:s.heap.IsTuple l1 xs)(hl2:s.heap.IsTuple l2 ys)
  (h:∀h':Heap,IsZip h' (s.heap.objs.size+4) (s.heap.objs.size+2) (s.heap.objs.size+3) Value.none->IsPair h' (s.heap.objs.size+2) (Value.ref s.heap.objs.size) (Value.ref (s.heap.objs.size+1))->IsPair h' (s.heap.objs.size+3) Value.none Value.none->h'.IsTupleIter s.heap.objs.size l1 0->h'.IsTupleIter (s.heap.objs.size+1) l2 0 ->
   h'.objs.size=s.heap.objs.size+5->(∀c o,s.heap.get? c=some o->h'.get? c=some o)->Q (Value.ref (s.heap.objs.size+4)) { s with heap:=h' }):wpAny (model prog w) A (call (Value.type "zip") [Value.ref l1,Value.ref l2]) Q E s:=by
 refine callType_new F.called_zip δ (F.typeCall_zip_2 _ _) (F.newCall_zip_2 _ _) (fun obj=>F.args_object_init_3 obj _ _) F.entry_zip_new (K3 l1 l2 xs ys) ⟨hl1,hl2,?_⟩;have z1:(tz1 s.heap l1).objs.size=s.heap.objs.size+1:=size_push ..;have z2:(tz2 s.heap l1 l2).objs.size=s.heap.objs.size+2:=(size_push ..).trans (by rw[z1]);have z3:(tz3 s.heap l1 l2).objs.size=s.heap.objs.size+3:=(size_push ..).trans (by rw[z2]);have z4:(tz4 s.heap l1 l2).objs.size=s.heap.objs.size+4:=(size_push ..).trans (by rw[z3]);have z5:(tz5 s.heap l1 l2).objs.size=s.heap.objs.size+5:=(size_push ..).trans (by rw[z4]);have g5:(tz5 s.heap l1 l2).get? (tz4 s.heap l1 l2).objs.size=_:=get?_push_size _ rfl;have g4:(tz5 s.heap l1 l2).get? (tz3 s.heap l1 l2).objs.size=_:=get?_push_of_some _ (get?_push_size _ rfl);have g3:(tz5 s.heap l1 l2).get? (tz2 s.heap l1 l2).objs.size=_:=get?_push_of_some _ (get?_push_of_some _ (get?_push_size _ rfl));have g2:(tz5 s.heap l1 l2).get? (tz1 s.heap l1).objs.size=_:=get?_push_of_some _ (get?_push_of_some _ (get?_push_of_some _ (get?_push_size _ rfl)));have g1:(tz5 s.heap l1 l2).get? s.heap.objs.size=_:=get?_push_of_some _ (get?_push_of_some _ (get?_push_of_some _ (get?_push_of_some _ (get?_push_size _ rfl))));have hk:∀c o,s.heap.get? c=some o->(tz5 s.heap l1 l2).get? c=some o:=fun c o e=>get?_push_of_some _ (get?_push_of_some _ (get?_push_of_some _ (get?_push_of_some _ (get?_push_of_some _ e))));rw[z4,z2,z3] at g5;rw[z3] at g4;rw[z2,z1] at g3;rw[z1] at g2;rw[z4];generalize tz5 s.heap l1 l2=h' at z5 g5 g4 g3 g2 g1 hk;exact⟨⟨_,g5,rfl⟩,h h' g5 g3 g4 ⟨_,g1,rfl,rfl⟩ ⟨_,g2,rfl,rfl⟩ z5 hk⟩
noncomputable def Itu (K:PySem.W.Frag)(a b:Addr):It:=
 ⟨fun i H=>∃xs ys x y,SqT K H a xs/\SqT K H b ys/\xs[i]?=some x/\ys[i]?=some y,
  fun i H v H'=>∃p x y,v=.ref p/\H p=none/\H'=upd H p (.tup [x,y])/\(∀xs,SqT K H a xs->xs[i]?=some x)/\∀ys,SqT K H b ys->ys[i]?=some y,
  fun i H=>∃xs ys,SqT K H a xs/\SqT K H b ys/\(xs[i]?=none\/ys[i]?=none)⟩
theorem Jf {P:Program}{w:World}{K:PySem.W.Frag}{es:List Expr}{kk:Nat}{tpos:Pos}{z TI TO i1 i2 l1 l2:Addr}(D:ZipApart z TI TO i1 i2 l1 l2) :
  Turn P w K (.Tuple es kk tpos) (Itu K l1 l2) [z,TI,TO,i1,i2] z (fun i h=>IsZip h z TI TO .none/\IsPair h TI (.ref i1) (.ref i2)/\(∃a b,IsPair h TO a b)/\h.IsTupleIter i1 l1 i/\h.IsTupleIter i2 l2 i) where
 mem:=by simp
 obj:=fun i h st b hb=>by
  obtain⟨hz,hTI,⟨a,b',hTO⟩,⟨o1,e1,c1,d1⟩,⟨o2,e2,c2,d2⟩⟩:=st;simp only[mem_cons,not_mem_nil,or_false] at hb;rcases hb with rfl|rfl|rfl|rfl|rfl
  ·exact⟨_,hz,fun v q=>by cases q⟩
  ·exact⟨_,hTI,fun v q=>by cases q⟩
  ·exact⟨_,hTO,fun v q=>by cases q⟩
  ·exact⟨o1,e1,fun v q=>by rw[d1] at q;cases q⟩
  exact⟨o2,e2,fun v q=>by rw[d2] at q;cases q⟩
 keep:=fun i h h' st k=>by
  obtain⟨hz,hTI,⟨a,b',hTO⟩,h1,h2⟩:=st;exact⟨k z (by simp) _ hz,k TI (by simp) _ hTI,⟨a,b',k TO (by simp) _ hTO⟩,h1.at fun o e=>k i1 (by simp) o e,h2.at fun o e=>k i2 (by simp) o e⟩
 item:=by
  intro X hP hw hK hc i pins s σ H E I hf st hg;subst hP hw hK;obtain⟨xs,ys,x,y,q1,q2,hx,hy⟩:=hg;obtain⟨its1,rv1,p1,hz1⟩:=I.tuple q1;obtain⟨its2,rv2,p2,hz2⟩:=I.tuple q2;obtain⟨u1,hu1,ru1⟩:=rv1.get hx;obtain⟨u2,hu2,ru2⟩:=rv2.get hy;obtain⟨hz,hTI,⟨a,b',hTO⟩,h1,h2⟩:=st;refine j9 D hz hTI hTO h1 h2 p1 p2 (x:=u1) (y:=u2) (by simpa using hu1) (by simpa using hu2) fun h' a1 a2 a3 a4 a5 a6 hk=>?_;have new:bN X.prog X.w (upd H s.heap.objs.size (.tup [x,y])) h' s.heap.objs.size (.tup [x,y]):=⟨by show 2<=sizeLine;decide,[u1,u2],.cons ru1 (.cons ru2 .nil),_,a5,rfl,_,rfl⟩;have I1:Inv X pins σ (upd H s.heap.objs.size (.tup [x,y])) { s with heap:=h' }:=I.xr (t':=s.toks) (ch:=[z,TO,i1,i2]) (fun b hb=>hf b (by
   simp only[mem_cons,not_mem_nil,or_false] at hb |-;rcases hb with r|r|r|r <;> simp [r]))
   (fun b o hb e=>hk b o (fun q=>hb (by simp [q])) (fun q=>hb (by simp [q])) (fun q=>hb (by simp [q])) (fun q=>hb (by simp [q])) e) (le_refl _) new
  have hTI':IsPair h' TI (.ref i1) (.ref i2):=hk _ _ D.TIz D.TITO D.TIi1 D.TIi2 hTI;have hsz:∀b,b∈[z,TI,TO,i1,i2]->b≠s.heap.objs.size:=fun b hb=>by
   obtain⟨_,_,hlt,_⟩:=hf b hb;have lt:∃o,s.heap.get? b=some o:=by
    simp only[mem_cons,not_mem_nil,or_false] at hb;rcases hb with rfl|rfl|rfl|rfl|rfl
    ·exact⟨_,hz⟩
    ·exact⟨_,hTI⟩
    ·exact⟨_,hTO⟩
    ·obtain⟨o,e,_⟩:=h1;exact⟨o,e⟩
    obtain⟨o,e,_⟩:=h2;exact⟨o,e⟩
   obtain⟨o,e⟩:=lt;exact ne_of_lt (lt_size e)
  refine⟨_,rfl,wpAny_letOwnedTupleGo_zip (s:={ s with heap:=h' }) a1 fun h'' z2 sb=>?_⟩;have fz:=hf z (by simp);have I2:Inv X pins σ (upd H s.heap.objs.size (.tup [x,y])) { s with heap:=h'' }:=Inv.turned (s:={ s with heap:=h' }) (it:=z) (t':=s.toks) I1 (fun b o hb e=>(sb.2 b hb).trans e) (by rw[aH (hsz z (by simp))];exact fz.1) fz.2.1 fz.2.2.2.1 fz.2.2.2.2.1 fz.2.2.2.2.2;refine⟨.ref s.heap.objs.size,_,I2,rfl,⟨_,x,y,rfl,I.fresh,rfl,fun xs' q=>by rw[I.jN q q1];exact hx,fun ys' q=>by rw[I.jN q q2];exact hy⟩,
   ⟨z2,(sb.2 _ D.TIz).trans hTI',⟨_,_,(sb.2 _ D.TOz).trans a2⟩,a3.extBut sb.extBut D.i1z,a4.extBut sb.extBut D.i2z⟩,fun b hb=>by rw[aH (hsz b hb)];exact(hf b hb).1⟩
 done:=by
  intro X hP hw hK hc i pins s σ H E I hf st hg;subst hP hw hK;obtain⟨xs,ys,q1,q2,hx⟩:=hg;obtain⟨its1,rv1,p1,hz1⟩:=I.tuple q1;obtain⟨its2,rv2,p2,hz2⟩:=I.tuple q2;obtain⟨hz,hTI,⟨a,b',hTO⟩,h1,h2⟩:=st;have hend:its1.toArray[i]?=none\/its2.toArray[i]?=none:=by
   rcases hx with r|r
   ·exact .inl (by simpa using rv1.none_of r)
   exact .inr (by simpa using rv2.none_of r)
  refine lJ (I.ok.hd hc) D hz hTI hTO h1 h2 p1 p2 hend fun h' hk=>⟨rfl,?_⟩;exact I.xu (t':=s.toks) (ch:=[z,TO,i1,i2]) (fun b hb=>hf b (by
   simp only[mem_cons,not_mem_nil,or_false] at hb |-;rcases hb with r|r|r|r <;> simp [r]))
   (fun b o hb e=>hk b o (fun q=>hb (by simp [q])) (fun q=>hb (by simp [q])) (fun q=>hb (by simp [q])) (fun q=>hb (by simp [q])) e)
 self:=fun _ _ _ _ _ st h=>wpAny_pyIter_zip st.1 h
noncomputable def zpq (K:PySem.W.Frag)(o1 o2:Option HO)(a b:Addr)(H:Hp)(R:It->Hp->Prop):Prop:=match o1,o2 with
 | some (.lst _),some (.lst _)=>R (Itz K a b) H
 | some (.tup _),some (.tup _)=>R (Itu K a b) H
 | _,_=>False
noncomputable def zpK (K:PySem.W.Frag)(vs:List V)(H:Hp)(R:It->Hp->Prop):Prop:=match vs with
 | [.ref a,.ref b]=>zpq K (H a) (H b) a b H R
 | _=>False
noncomputable def Qi (K:PySem.W.Frag)(ta:TA):TI:=fun σ H R=>ta σ H fun vs H1=>zpK K vs H1 R
theorem Qh (K:PySem.W.Frag)(ta:TA)(σ:St)(H:Hp)(R:It->Hp->Prop):Qi K ta σ H R=ta σ H fun vs H1=>zpK K vs H1 R:=rfl
theorem Wj (K:PySem.W.Frag)(a b:Addr)(H:Hp)(R:It->Hp->Prop):zpK K [.ref a,.ref b] H R=zpq K (H a) (H b) a b H R:=rfl
theorem Wi (K:PySem.W.Frag)(xs ys:List V)(a b:Addr)(H:Hp)(R:It->Hp->Prop):zpq K (some (.lst xs)) (some (.lst ys)) a b H R=R (Itz K a b) H:=rfl
theorem Wh (K:PySem.W.Frag)(xs ys:List V)(a b:Addr)(H:Hp)(R:It->Hp->Prop):zpq K (some (.tup xs)) (some (.tup ys)) a b H R=R (Itu K a b) H:=rfl
section
variable {X:Cx}
theorem TF {es:List Expr}{kk:Nat}{tpos:Pos}{a b:Expr}{ta:TA}{p pos:Pos}(hg:Gl X "zip") (hm:X.mg "zip" = none) (ha:PA X [a,b] ta) (hs:starEach [a,b] X.env=[(false,eval a X.env),(false,eval b X.env)]:=by rfl) (hs2:starEach [b] X.env=[(false,eval b X.env)]:=by rfl) :
  PI X (.Tuple es kk tpos) (.Call (.Name "zip" p) [a,b] [] pos) (Qi X.K ta):=by
 intro pins s σ H R I h;refine Call_ (iH I hg hm boot_zip (PyProof.Rows.callWith_type1 (thA (ha pos pins s σ H _ I h) fun us s1 vs H1 I1 r1 q1=>?_) (by rw[hs,hs2]) (by rw[hs2];rfl)));replace q1:zpK X.K vs H1 R:=q1;unfold zpK at q1;split at q1
 ·rename_i l1 l2;unfold zpq at q1;cases r1 with
  | cons r rr=>
   cases rr with
   | cons r' rr=>
    cases rr;cases r;cases r';have apart:l1<s1.heap.objs.size->l2<s1.heap.objs.size->ZipApart (s1.heap.objs.size+4) (s1.heap.objs.size+2) (s1.heap.objs.size+3) s1.heap.objs.size (s1.heap.objs.size+1) l1 l2:=by
     generalize s1.heap.objs.size=n;intro lt1 lt2;have lt1':@LT.lt Nat _ l1 n:=lt1;have lt2':@LT.lt Nat _ l2 n:=lt2;constructor <;> (intro(z:@Eq Nat _ _);omega)
    have fp:∀b∈[s1.heap.objs.size+4,s1.heap.objs.size+2,s1.heap.objs.size+3,s1.heap.objs.size,s1.heap.objs.size+1],rO X pins H1 b:=fun b hb=>by
     have hle:s1.heap.objs.size<=b:=by
      simp only[mem_cons,not_mem_nil,or_false] at hb;rcases hb with rfl|rfl|rfl|rfl|rfl <;> simp
     exact I1.Dq hle (I1.hok.fresh hle)
    split at q1
    ·rename_i xs ys e1 e2;obtain⟨its1,rv1,p1,hz1⟩:=I1.list (SqL.of e1);obtain⟨its2,rv2,p2,hz2⟩:=I1.list (SqL.of e2);have lt1:l1<s1.heap.objs.size:=by obtain⟨_,e,_⟩:=p1.isList;exact lt_size e
     have lt2:l2<s1.heap.objs.size:=by obtain⟨_,e,_⟩:=p2.isList;exact lt_size e
     refine call_zip_2 p1.isList p2.isList fun h' b1 b2 b3 b4 b5 b6 hk=>?_;refine wpAny_pyIter_zip (s:={ s1 with heap:=h' }) b1 ?_;exact⟨_,_,_,_,H1,rfl,I1.kept (t':=s1.toks) hk,Lg (apart lt1 lt2),⟨b1,b2,⟨_,_,b3⟩,b4,b5⟩,fp,q1⟩
    ·rename_i xs ys e1 e2;obtain⟨its1,rv1,p1,hz1⟩:=I1.tuple (SqT.of e1);obtain⟨its2,rv2,p2,hz2⟩:=I1.tuple (SqT.of e2);have lt1:l1<s1.heap.objs.size:=by obtain⟨_,e,_⟩:=p1;exact lt_size e
     have lt2:l2<s1.heap.objs.size:=by obtain⟨_,e,_⟩:=p2;exact lt_size e
     refine Dw p1 p2 fun h' b1 b2 b3 b4 b5 b6 hk=>?_;refine wpAny_pyIter_zip (s:={ s1 with heap:=h' }) b1 ?_;exact⟨_,_,_,_,H1,rfl,I1.kept (t':=s1.toks) hk,Jf (apart lt1 lt2),⟨b1,b2,⟨_,_,b3⟩,b4,b5⟩,fp,q1⟩
    exact q1.elim
 exact q1.elim
theorem S5 {es:List Expr}{kk:Nat}{tpos:Pos}{a b:Expr}{t:TA}{p pos:Pos}(hg:Gl X "zip") (hm:X.mg "zip" = none) (ha:QA X [a,b] t) (hs:starEach [a,b] X.env=[(false,eval a X.env),(false,eval b X.env)]:=by rfl) (hs2:starEach [b] X.env=[(false,eval b X.env)]:=by rfl):QI X (.Tuple es kk tpos) (.Call (.Name "zip" p) [a,b] [] pos) (Qi X.K t):=⟨TF hg hm ha.h hs hs2⟩
end
noncomputable def pK (n:Nat):Sp:=fun vs H Q _=>∃x y ok d,vs=[x,y]/\aN ok H x d/\aN ok H y d/\d.depth<n/\∀H',Same H H'->Q (.bl true) H'
theorem yN {d:PyData}{ds:List PyData}(h:d∈ds):d.depth<(PyData.list ds).depth/\d.depth<(PyData.tuple ds).depth:=by
 have:=qC h;rw[PyData.depth.eq_1,PyData.depth.eq_2];omega
section
variable {K:PySem.W.Frag}{mp:List (Option Nat)}{g:TG}{tc:TT}{te:TE}{σ:St}{H:Hp}{Q:VK}{R:It->Hp->Prop}
theorem VB {a b:Addr}{xs ys:List V}(hR:R=GZ mp g tc te σ Q)(hz:xs.length<=sizeLine)(hl2:xs.length=ys.length)(Pv:Nat->List V->St->Hp->Prop)(h0:Pv 0 [] (lR mp σ) H)(hl:∀i acc τ H,Pv i acc τ H->acc.length<=i)
  (hq:∀i acc τ H,Pv i acc τ H->H a=some (.lst xs)/\H b=some (.lst ys))
  (hs:∀i x y acc τ H p,xs[i]?=some x->ys[i]?=some y->Pv i acc τ H->H p=none->g (.ref p) τ (upd H p (.tup [x,y])) fun τ1 H4=>tc τ1 H4 fun b H5=>if b=true then te τ1 H5 fun v H6=>Pv (i+1) (acc++[v]) τ1 H6 else Pv (i+1) acc τ1 H5)
  (hd:∀acc τ H d,Pv xs.length acc τ H->H d=none->Q (.ref d) (upd H d (.lst acc))):R (Itz K a b) H:=by
 refine qG hR xs.length hz Pv h0 hl (fun i acc τ H hi p=>?_) (fun acc τ H p=>?_) (fun i acc τ H x H3 hi p y=>?_) hd
 ·obtain⟨e1,e2⟩:=hq i acc τ H p;exact⟨xs,ys,_,_,SqL.of e1,SqL.of e2,getElem?_eq_getElem hi,getElem?_eq_getElem ω⟩
 ·obtain⟨e1,e2⟩:=hq _ acc τ H p;exact⟨xs,ys,SqL.of e1,SqL.of e2,.inl (getElem?_eq_none (le_refl _))⟩
 obtain⟨e1,e2⟩:=hq i acc τ H p;obtain⟨q,x1,y1,rfl,hq1,rfl,hx,hy⟩:=y;exact hs i x1 y1 acc τ H q (hx _ (SqL.of e1)) (hy _ (SqL.of e2)) p hq1
theorem Vz {a b:Addr}{xs ys:List V}(hR:R=GZ mp g tc te σ Q)(hz:xs.length<=sizeLine)(hl2:xs.length=ys.length)(Pv:Nat->List V->St->Hp->Prop)(h0:Pv 0 [] (lR mp σ) H)(hl:∀i acc τ H,Pv i acc τ H->acc.length<=i)
  (hq:∀i acc τ H,Pv i acc τ H->H a=some (.tup xs)/\H b=some (.tup ys))
  (hs:∀i x y acc τ H p,xs[i]?=some x->ys[i]?=some y->Pv i acc τ H->H p=none->g (.ref p) τ (upd H p (.tup [x,y])) fun τ1 H4=>tc τ1 H4 fun b H5=>if b=true then te τ1 H5 fun v H6=>Pv (i+1) (acc++[v]) τ1 H6 else Pv (i+1) acc τ1 H5)
  (hd:∀acc τ H d,Pv xs.length acc τ H->H d=none->Q (.ref d) (upd H d (.lst acc))):R (Itu K a b) H:=by
 refine qG hR xs.length hz Pv h0 hl (fun i acc τ H hi p=>?_) (fun acc τ H p=>?_) (fun i acc τ H x H3 hi p y=>?_) hd
 ·obtain⟨e1,e2⟩:=hq i acc τ H p;exact⟨xs,ys,_,_,SqT.of e1,SqT.of e2,getElem?_eq_getElem hi,getElem?_eq_getElem ω⟩
 ·obtain⟨e1,e2⟩:=hq _ acc τ H p;exact⟨xs,ys,SqT.of e1,SqT.of e2,.inl (getElem?_eq_none (le_refl _))⟩
 obtain⟨e1,e2⟩:=hq i acc τ H p;obtain⟨q,x1,y1,rfl,hq1,rfl,hx,hy⟩:=y;exact hs i x1 y1 acc τ H q (hx _ (SqT.of e1)) (hy _ (SqT.of e2)) p hq1
end
inductive RowC where
 | one (n t:Int)
 | rng (a b t:Int)
 | low (n t:Int)
 | msk (lo wd bits t:Int)
 | tab (lo:Int) (gs:List Int)
 | pik (l:Int)
noncomputable def bJ:RowC->PyData
 | .one n t=>.tuple [.str "is",.int n,.int t]
 | .rng a b t=>.tuple [.str "within",.int a,.int b,.int t]
 | .low n t=>.tuple [.str "below",.int n,.int t]
 | .msk lo wd bits t=>.tuple [.str "mask",.int lo,.int wd,.int bits,.int t]
 | .tab lo gs=>.tuple [.str "table",.int lo,.tuple (gs.map PyData.int)]
 | .pik l=>.tuple [.str "pick",.int l]
noncomputable def gU (m o:Int):RowC->Prop
 | .one _ t=>btw o m t=true
 | .rng _ _ t=>btw o m t=true
 | .low _ t=>btw o m t=true
 | .msk _ wd bits t=>btw o m t=true/\1<=wd/\wd<=64/\0<=bits
 | .tab _ gs=>gs.all (btw o m)=true
 | .pik _=>True
noncomputable def gC:RowC->Bool
 | .pik _=>true
 | _=>false
noncomputable def bitAt (bits place:Int):Bool:=decide (Builtin.bitAnd (bits/2^place.toNat) 1=1)
noncomputable def dN (c:RowC)(o n:Int):Option Int:=match c with
 | .one a t=>some (if n=a then t else o+1)
 | .rng a b t=>some (if a<=n/\n<=b then t else o+1)
 | .low a t=>some (if n<a then t else o+1)
 | .msk lo wd bits t=>if 0<=n-lo/\n-lo<wd then some (if bitAt bits (n-lo)=true then t else o+1) else none
 | .tab lo gs=>if 0<=n-lo/\n-lo<gs.length then gs[(n-lo).toNat]? else none
 | .pik _=>none
noncomputable def cI (cs:List RowC):Prop:=1<=cs.length/\∀(j:Nat) c,cs[j]?=some c->gU cs.length j c
theorem jO {cs:List RowC}(h:cI cs){j:Nat}{c:RowC}(hc:cs[j]?=some c){n t:Int}(ht:dN c j n=some t):(j:Int)<t/\t<cs.length:=by
 have hl:=(List.getElem?_eq_some_iff.mp hc).1;have hk:=h.2 j c hc;have bt:∀{t:Int},btw (j:Int) cs.length t=true->(j:Int)<t/\t<cs.length:=fun {t} hb=>by
  unfold btw at hb;rwa [and_eq_true,decide_eq_true_eq,decide_eq_true_eq] at hb
 have nx:gC c=false->(j:Int)+1<cs.length:=fun hp=>by
  have key:∀{t:Int},btw (j:Int) cs.length t=true->(j:Int)+1<cs.length:=fun {t} hb=>by have:=bt hb;omega
  cases c with
  | one a t=>exact key hk
  | rng a b t=>exact key hk
  | low a t=>exact key hk
  | msk lo wd bits t=>exact key hk.1
  | tab lo gs=>
   have h2:(if 0<=n-lo/\n-lo<gs.length then gs[(n-lo).toNat]? else none)=some t:=ht;split at h2
   ·exact key (all_eq_true.mp hk t (mem_of_getElem? h2))
   cases h2
  | pik l=>cases hp
 cases c with
 | one a t'=>
  have h2:some (if n=a then t' else (j:Int)+1)=some t:=ht;split at h2 <;> cases h2
  ·exact bt hk
  exact⟨ω,nx rfl⟩
 | rng a b t'=>
  have h2:some (if a<=n/\n<=b then t' else (j:Int)+1)=some t:=ht;split at h2 <;> cases h2
  ·exact bt hk
  exact⟨ω,nx rfl⟩
 | low a t'=>
  have h2:some (if n<a then t' else (j:Int)+1)=some t:=ht;split at h2 <;> cases h2
  ·exact bt hk
  exact⟨ω,nx rfl⟩
 | msk lo wd bits t'=>
  have h2:(if 0<=n-lo/\n-lo<wd then some (if bitAt bits (n-lo)=true then t' else (j:Int)+1) else none)=some t:=ht;split at h2
  ·split at h2 <;> cases h2
   ·exact bt hk.1
   exact⟨ω,nx rfl⟩
  cases h2
 | tab lo gs=>
  have h2:(if 0<=n-lo/\n-lo<gs.length then gs[(n-lo).toNat]? else none)=some t:=ht;split at h2
  ·exact bt (all_eq_true.mp hk t (mem_of_getElem? h2))
  cases h2
 | pik l=>cases ht
noncomputable def runC (cs:List RowC)(n:Int):Nat->Int->Option Int×List Int
 | 0,a=>(none,[a])
 | k+1,a=>match cs[a.toNat]? with
  | some (.pik l)=>(some l,[a])
  | some c=>match dN c a n with
   | none=>(none,[a])
   | some t=>((runC cs n k t).1,a::(runC cs n k t).2)
  | none=>(none,[a])
theorem uG {cs:List RowC}{n:Int}{k:Nat}{a l:Int}(h:cs[a.toNat]?=some (.pik l)):runC cs n (k+1) a=(some l,[a]):=by
 show(match cs[a.toNat]? with|some (.pik l)=>_|some c=>_|none=>_)=_
 rw[h]
theorem zF {cs:List RowC}{n:Int}{k:Nat}{a:Int}{c:RowC}{t:Int}(h:cs[a.toNat]?=some c)(hp:gC c=false)(ht:dN c a n=some t):runC cs n (k+1) a=((runC cs n k t).1,a::(runC cs n k t).2):=by
 show(match cs[a.toNat]? with|some (.pik l)=>_|some c=>_|none=>_)=_
 rw[h];cases c with
 | pik l=>cases hp
 | _=>simp only[ht]
theorem zE {cs:List RowC}{n:Int}{k:Nat}{a:Int}{c:RowC}(h:cs[a.toNat]?=some c)(hp:gC c=false)(ht:dN c a n=none):runC cs n (k+1) a=(none,[a]):=by
 show(match cs[a.toNat]? with|some (.pik l)=>_|some c=>_|none=>_)=_
 rw[h];cases c with
 | pik l=>cases hp
 | _=>simp only[ht]
noncomputable def runOf (cs:List RowC)(n:Int):Option Int×List Int:=runC cs n cs.length 0
noncomputable def xJ:Sp:=fun vs H Q _=>∃(l:Addr)(ok:Addr->Prop)(cs:List RowC)(j:Nat)(n:Int)(c:RowC),vs=[.ref l,.int (j:Int),.int n]/\aN ok H (.ref l) (.list (cs.map bJ))/\cI cs/\cs[j]?=some c/\gC c=false/\∀H',Same H H'->Q (qU (dN c j n)) H'
noncomputable def G8 (must:Bool):Sp:=fun vs H Q _=>∃(l:Addr)(ok:Addr->Prop)(cs:List RowC)(n:Int),vs=[.ref l,.int n]/\aN ok H (.ref l) (.list (cs.map bJ))/\cI cs/\(must=true->∃lab,(runOf cs n).1=some lab) /\
 ∀(t ld:Addr) H',Same H H'->H t=none->H ld=none->t≠ld->H' t=some (.tup [qU (runOf cs n).1,.ref ld])->H' ld=some (.lst ((runOf cs n).2.map V.int))->(runOf cs n).2.length<=cs.length->Q (.ref t) H'
noncomputable def cu:RowC->Addr->List V
 | .one n t,_=>[.str "is",.int n,.int t]
 | .rng a b t,_=>[.str "within",.int a,.int b,.int t]
 | .low n t,_=>[.str "below",.int n,.int t]
 | .msk lo wd bits t,_=>[.str "mask",.int lo,.int wd,.int bits,.int t]
 | .tab lo _,g=>[.str "table",.int lo,.ref g]
 | .pik l,_=>[.str "pick",.int l]
noncomputable def qJ (H:Hp)(x:V)(c:RowC):Prop:=∃a g,x=.ref a/\H a=some (.tup (cu c g))/\∀lo gs,c=.tab lo gs->H g=some (.tup (gs.map V.int))
noncomputable def scV:PyData->Option V
 | .int i=>some (.int i)
 | .str z=>some (.str z)
 | _=>none
theorem aN.sc {ok:Addr->Prop}{H:Hp}{x v:V}{d:PyData}(t:aN ok H x d)(h:scV d=some v):x=v:=by
 cases t with
 | int i=>exact Option.some.inj h
 | str z=>exact Option.some.inj h
 | _=>cases h
theorem aM.sc {ok:Addr->Prop}{H:Hp}:∀{xs vs:List V}{ds:List PyData},aM ok H xs ds->ds.map scV=vs.map some->xs=vs
 | _,[],_,.nil,_=>rfl
 | _,v::vs,_,.nil,h=>by cases h
 | _,[],_,.cons _ _,h=>by cases h
 | _,v::vs,_,.cons t ts,h=>by
  rw[map_cons,map_cons] at h;injection h with h1 h2;rw[t.sc h1,ts.sc h2]
theorem aM.Ed {ok:Addr->Prop}{H:Hp}{xs:List V}{d:PyData}{ds:List PyData}(t:aM ok H xs (d::ds)):∃x r,xs=x::r/\aN ok H x d/\aM ok H r ds:=by
 cases t with
 | cons h r=>exact⟨_,_,rfl,h,r⟩
theorem aN.ud {ok:Addr->Prop}{H:Hp}{x:V}{ds:List PyData}(t:aN ok H x (.tuple ds)):∃p xs,x=.ref p/\H p=some (.tup xs)/\aM ok H xs ds:=by
 cases t with
 | tup o e z ts=>exact⟨_,_,rfl,e,ts⟩
theorem aN.row {ok:Addr->Prop}{H:Hp}{x:V}{c:RowC}(t:aN ok H x (bJ c)):qJ H x c:=by
 cases c with
 | tab lo gs=>
  obtain⟨p,xs,rfl,e,ts⟩:=aN.ud t;obtain⟨a,b,g,rfl,h1,h2,h3⟩:∃a b g,xs=[a,b,g]/\aN ok H a (.str "table")/\aN ok H b (.int lo)/\aN ok H g (.tuple (gs.map PyData.int)):=by
   obtain⟨a,r,rfl,h1,ts⟩:=ts.Ed;obtain⟨b,r,rfl,h2,ts⟩:=ts.Ed;obtain⟨g,r,rfl,h3,ts⟩:=ts.Ed;have:=ts.length;have hr:r=[]:=length_eq_zero_iff.mp this;exact⟨a,b,g,by rw[hr],h1,h2,h3⟩
  obtain⟨q,ys,rfl,e2,ts2⟩:=aN.ud h3;rw[h1.sc rfl,h2.sc rfl] at e;refine⟨p,q,rfl,e,fun lo' gs' z=>?_⟩;cases z;rw[<- ts2.sc (vs:=gs.map V.int) (by rw[map_map,map_map];rfl)];exact e2
 | one n t'=>
  obtain⟨p,xs,rfl,e,ts⟩:=aN.ud t;exact⟨p,0,rfl,by rw[e,ts.sc (vs:=[.str "is",.int n,.int t']) rfl];rfl,fun _ _ z=>nomatch z⟩
 | rng a b t'=>
  obtain⟨p,xs,rfl,e,ts⟩:=aN.ud t;exact⟨p,0,rfl,by rw[e,ts.sc (vs:=[.str "within",.int a,.int b,.int t']) rfl];rfl,fun _ _ z=>nomatch z⟩
 | low n t'=>
  obtain⟨p,xs,rfl,e,ts⟩:=aN.ud t;exact⟨p,0,rfl,by rw[e,ts.sc (vs:=[.str "below",.int n,.int t']) rfl];rfl,fun _ _ z=>nomatch z⟩
 | msk lo wd bits t'=>
  obtain⟨p,xs,rfl,e,ts⟩:=aN.ud t;exact⟨p,0,rfl,by rw[e,ts.sc (vs:=[.str "mask",.int lo,.int wd,.int bits,.int t']) rfl];rfl,fun _ _ z=>nomatch z⟩
 | pik l=>
  obtain⟨p,xs,rfl,e,ts⟩:=aN.ud t;exact⟨p,0,rfl,by rw[e,ts.sc (vs:=[.str "pick",.int l]) rfl];rfl,fun _ _ z=>nomatch z⟩
theorem aM.row {ok:Addr->Prop}{H:Hp}{xs:List V}{cs:List RowC}(t:aM ok H xs (cs.map bJ)){j:Nat}{c:RowC}(hc:cs[j]?=some c):∃x,xs[j]?=some x/\qJ H x c:=by
 have hl:=t.length;rw[length_map] at hl;have hj:=(List.getElem?_eq_some_iff.mp hc).1;have hx:xs[j]?=some xs[j]:=getElem?_eq_getElem ω;obtain⟨d,hd,td⟩:=t.get hx;rw[getElem?_map,hc] at hd;cases hd;exact⟨_,hx,td.row⟩
theorem qJ.same {H H':Hp}{x:V}{c:RowC}(h:qJ H x c)(s:Same H H'):qJ H' x c:=by
 obtain⟨a,g,e,h1,h2⟩:=h;exact⟨a,g,e,s _ _ h1,fun lo gs hh=>s _ _ (h2 lo gs hh)⟩
noncomputable def yM:RowC->Option (Int×Int)
 | .msk lo wd _ _=>some (lo,lo+wd-1)
 | .tab lo gs=>some (lo,lo+gs.length-1)
 | _=>none
noncomputable def Ml:Sp:=fun vs H Q _=>∃x c,vs=[x]/\qJ H x c/\(yM c=none->Q .non H)/\∀lo hi,yM c=some (lo,hi)->∀p,H p=none->Q (.ref p) (upd H p (.tup [.int lo,.int hi]))
noncomputable def jw:RowC->Str
 | .one _ _ => "is"
 | .rng _ _ _ => "within"
 | .low _ _ => "below"
 | .msk _ _ _ _ => "mask"
 | .tab _ _ => "table"
 | .pik _ => "pick"
theorem lX (c:RowC)(g:Addr):atI (cu c g) 0=some (V.str (jw c)):=by cases c <;> rfl
theorem K4 {c:RowC}(h:gC c=false):jw c ≠ "pick" := by
 cases c with
 | pik l=>cases h
 | one a b=>exact(by decide +kernel:("is" : Str) ≠ "pick")
 | rng a b c=>exact(by decide +kernel:("within" : Str) ≠ "pick")
 | low a b=>exact(by decide +kernel:("below" : Str) ≠ "pick")
 | msk a b c d=>exact(by decide +kernel:("mask" : Str) ≠ "pick")
 | tab a b=>exact(by decide +kernel:("table" : Str) ≠ "pick")
theorem RJ {c:TT}{tb:TS}{D:Ends}{σ:St}{H:Hp}(m:Nat)(Pv:Nat->St->Hp->Prop)(j0:Nat)(h0:Pv j0 σ H)
  (hs:∀j σ H,Pv j σ H->c σ H fun b H1=>if b=true then ∃N:St->Hp->Prop,(∀σ' H',N σ' H'->∃m',m'<m-j/\∃j',m'=m-j'/\Pv j' σ' H')/\tb { D with nx:=N,ct:=N,bk:=D.nx } σ H1 else D.nx σ H1):zb c tb D σ H:=
 ⟨fun k σ H=>∃j,k=m-j/\Pv j σ H,⟨_,j0,rfl,h0⟩,by rintro k σ H ⟨j,rfl,p⟩;exact hs j σ H p⟩
theorem J1 (pre:List Int)(j:Int):atI ((pre++[j]).map V.int) (-1)=some (V.int j):=by
 unfold atI ixN;rw[if_neg δ,if_pos (by rw[length_map,length_append,length_singleton];omega)];show((pre++[j]).map V.int)[_]?=_;rw[show(-1+(((pre++[j]).map V.int).length:Int)).toNat=pre.length by rw[length_map,length_append,length_singleton];omega,getElem?_map,getElem?_append_right (le_refl _),sub_self];rfl
theorem Gs (is:List Int):PyData.depthAll (is.map PyData.int)=0:=by
 induction is with
 | nil=>rfl
 | cons i is ih=>rw[map_cons,PyData.depthAll.eq_2,ih];rfl
section
variable {X:Cx}{e o:Expr}{te to:TE}{pos:Pos}
theorem Nv {i:Nat}{x:Str}{op:Operator}{ti:TIp}{pos':Pos}(h:Nm X.N X.env.scope i x)(hN:X.N.Nodup)(he:QE X e te)(ho:PIp X op ti)(hf:X.fn x=true\/X.env.scope.names.lookup x=some .local:=by exact .inl rfl) :
  QS X (.AugAssign (.Name x pos') op e pos) (Wv i te ti):=⟨Xe hN h.hN h.hv he.h ho hf⟩
end
inductive Pl where
 | pick (l:Int)
 | one (k:Nat) (r:Pl)
 | wit (k:Nat) (r:Pl)
 | low (k:Nat) (a b:Pl)
 | msk (l:Int) (r:Pl)
 | tab
noncomputable def zU:Pl->Nat
 | .pick _=>1
 | .one _ r=>zU r+1
 | .wit _ r=>zU r+1
 | .low _ a b=>zU a+zU b+1
 | .msk _ r=>zU r+1
 | .tab=>1
noncomputable abbrev Sts:=List (Int×Int×Int)
noncomputable def YM (ss:Sts)(k:Nat):Int×Int×Int:=ss.getD k (0,0,0)
structure Lf (ss:Sts)(left:List Nat):Prop where
 ne:left≠[]
 lt:∀k∈left,k<ss.length
 up:left.Pairwise (· < ·)
noncomputable def qN (ss:Sts):Pl->List Nat->List (List Nat×Pl)
 | .pick l,left=>[(left,.pick l)]
 | .tab,left=>[(left,.tab)]
 | .one k r,left=>(left,.one k r)::qN ss r (left.filter (·≠k))
 | .wit k r,left=>(left,.wit k r)::qN ss r (left.filter (·≠k))
 | .low k a b,left=>(left,.low k a b)::(qN ss b (left.filter (k<=·))++qN ss a (left.filter (· < k)))
 | .msk l r,left=>(left,.msk l r)::qN ss r (left.filter fun k=>(YM ss k).2.2≠l)
noncomputable def nW:Pl->Nat->List (Nat×Nat)
 | .pick _,_=>[]
 | .tab,_=>[]
 | .one _ r,p=>nW r (p+1)
 | .wit _ r,p=>nW r (p+1)
 | .msk _ r,p=>nW r (p+1)
 | .low _ a b,p=>nW b (p+1)++(p,p+1+zU b)::nW a (p+1+zU b)
noncomputable def Yr:List Pl->List Nat->Nat->List (Nat×Nat)
 | [],_,_=>[]
 | c::rest,T,p=>nW c p++(match T with | []=>[]|t::T'=>match rest with | []=>[]|_::_=>(t,p+zU c)::Yr rest T' (p+zU c))
theorem m7:entryFor table "dict.update.loop" = some Builtin.«dict.update.loop»:=entryFor_of_tree (by rfl)
theorem Jm {K:Type}[DecidableEq K](kvs:List (K×Value))(k:K)(v:Value):(stored kvs k v).length<=kvs.length+1:=by
 unfold stored;split
 ·rw[length_map];omega
 rw[length_append];simp
noncomputable def GP (h:Heap)(its:List Value)(ks:List (List Int)):Prop:=∀(j:Nat) v,its[j]?=some v->∃t vs k,v=Value.ref t/\IsTup h t vs/\ks[j]?=some k/\IntsAre vs.toList k
theorem YS {prog:Program}{w:World}{A:Around}{E:Value->Shared->Prop}{s:Shared}{l b:Addr}{items items2:Array Value}{ns ms:List Int}{Q:Value->Shared->Prop}(hl:IsTup s.heap l items)(hb:IsTup s.heap b items2)(hi:IntsAre items.toList ns)(hj:IntsAre items2.toList ms)
  (hu:A.units<cLine) (h:Q (.bool (HT.lexLt ns ms)) s):wpAny (model prog w) A (richCompare .Lt (.ref l) (.ref b)) Q E s:=by
 obtain⟨⟨cls,dd,data,sl⟩,ho,hc,n,hd⟩:=id hl;obtain⟨⟨cls2,dd2,data2,sl2⟩,ho2,hc2,n2,hd2⟩:=id hb;simp only at hc hd hc2 hd2;subst hc hd hc2 hd2;exact richCompare_meets_room (op:=.Lt) ⟨_,ho,rfl⟩ ⟨_,ho2,rfl⟩ PySem.F.slot_tuple_lt PySem.F.entry_tuple_lt (PySem.F.args_tuple_lt_2 _ _) (HT.wz l b items items2 n n2 dd dd2 sl sl2 ns ms hi hj)
  ⟨ho,ho2,show Value.bool (HT.lexLt ns ms)≠Value.notImplemented/\Q (.bool (HT.lexLt ns ms)) s from⟨(fun x=>nomatch x),h⟩⟩ hu
noncomputable def btT (ks:List (List Int))(i j:Nat):Bool:=HT.lexLt (ks.getD i []) (ks.getD j [])
theorem rE {prog:Program}{w:World}{A:Around}{R:Result->Shared->Prop}{it b l:Addr}{its:List Value}{ks:List (List Int)}(hh:A.handled=none) (hu:(A.under (Code.builtin "min.loop" { pos:=[Value.ref it,Value.none,Value.ref b] })).units<cLine) (ib:it≠b) (li:l≠it) (lb:l≠b) (ti:∀t,Value.ref t∈its->t≠it/\t≠b) :
  ∀(m i:Nat)(s:Shared),its.length-i=m->1<=i->i<=its.length->s.heap.IsListIter it l i->s.heap.IsList l its.toArray->GP s.heap its ks->(∃k v,s.heap.get? b=some { cls:=Value.type "list",data:=Data.seq #[v,v] k }/\its[argBest (btT ks) (i-1)]?=some v) ->
   (∀(h':Heap)(v:Value),(∀c o,c≠it->c≠b->s.heap.get? c=some o->h'.get? c=some o)->its[argBest (btT ks) (its.length-1)]?=some v->R (.ok (.ret v)) { s with heap:=h' }) ->
   codeAny (model prog w) A (Code.builtin "min.loop" { pos:=[Value.ref it,Value.none,Value.ref b] }) R s
 | 0,i,s,hm,h1,h2,hit,hl,tu,⟨k,v,ho,hv⟩,hR=>by
  have hi:i=its.length:=ω;subst hi;refine codeAny_builtin F.entry_min_loop ?_;show wpAny _ _ (seqItems? (Value.ref b) >>= _) _ _ _;refine wpAny_bind (wpAny_seqItems ho rfl ?_);refine wpAny_bind (wpAny_tryCatch (wpAny_pyNext_list_end (A:=A.under _) hh hit hl (by simp) fun h' ext=>?_));show wpAny _ _ (updateSeq b _ >>= _) _ _ _;refine wpAny_bind (wpAny_updateSeq (s:={ s with heap:=h' }) (ext b _ (Ne.symm ib) ho) rfl ?_ (by show 2<=sizeLine;decide) (by show 0<=sizeLine+1;decide));refine wpAny_bind (wpAny_letGo (wpAny_pure ?_));refine hR _ v (fun c q c1 c2 e=>?_) hv;exact(get?_update_other _ _ (Ne.symm c2)).trans (ext c q c1 e)
 | m+1,i,s,hm,h1,h2,hit,hl,tu,⟨k,v,ho,hv⟩,hR=>by
  have hi:i<its.length:=ω;have hx:its[i]?=some its[i]:=getElem?_eq_getElem hi;refine codeAny_builtin F.entry_min_loop ?_;show wpAny _ _ (seqItems? (Value.ref b) >>= _) _ _ _;refine wpAny_bind (wpAny_seqItems ho rfl ?_);refine wpAny_bind (wpAny_tryCatch (wpAny_pyNext_list_item (A:=A.under _) hit hl (by rw[getElem?_toArray];exact hx) fun h' hit' sb=>?_));obtain⟨t1,v1,k1,e1,p1,g1,n1⟩:=tu i _ hx;obtain⟨t2,v2,k2,e2,p2,g2,n2⟩:=tu _ _ hv;rw[e1];subst e2;have up:∀{c o},c≠it->s.heap.get? c=some o->h'.get? c=some o:=fun {c o} hc e=>(sb.2 c hc).trans e;have m1:=ti t1 (by rw[<- e1];exact mem_of_getElem? hx);have m2:=ti t2 (mem_of_getElem? hv);have p1':IsTup h' t1 v1:=by obtain⟨o,e,r⟩:=p1;exact⟨o,up m1.1 e,r⟩
  have p2':IsTup h' t2 v2:=by obtain⟨o,e,r⟩:=p2;exact⟨o,up m2.1 e,r⟩
  show wpAny _ _ (pure (Value.ref t1) >>= _) _ _ _;refine wpAny_bind (wpAny_pure ?_);have gi:ks.getD i []=k1:=by rw[List.getD_eq_getElem?_getD,g1];rfl
  have ga:ks.getD (argBest (btT ks) (i-1)) []=k2:=by rw[List.getD_eq_getElem?_getD,g2];rfl
  have ab:argBest (btT ks) i=if HT.lexLt k1 k2=true then i else argBest (btT ks) (i-1):=by
   obtain⟨j,rfl⟩:∃j,i=j+1:=⟨i-1,ω⟩;rw[show j+1=j.succ from rfl,argBest.eq_2];show(if HT.lexLt (ks.getD (j+1) []) (ks.getD (argBest (btT ks) j) [])=true then _ else _)=_;rw[gi,show argBest (btT ks) j=argBest (btT ks) (j.succ-1) from rfl,ga]
  refine wpAny_bind (wpAny_tryCatch (wpAny_holding (wpAny_bind (YS (A:=A.under _) (s:={ s with heap:=h' }) p1' p2' n1 n2 hu ?_))));refine wpAny_bind (wpAny_holding (wpAny_truthy_bool (wpAny_bind (wpAny_letGo (wpAny_pure ?_)))));have hl':h'.IsList l its.toArray:=by obtain⟨o,e,r⟩:=hl;exact⟨o,up li e,r⟩
  cases hb:HT.lexLt k1 k2 with
  | true=>
   refine wpAny_ite_true rfl ?_;refine wpAny_bind (wpAny_updateSeq (s:={ s with heap:=h' }) (up (Ne.symm ib) ho) rfl ?_ (by show 2<=sizeLine;decide) (by show 2<=sizeLine+1;decide));refine wpAny_bind (wpAny_letGo (wpAny_pure ⟨Code.quiet_builtin _ ψ,?_⟩));have up2:∀{c o},c≠it->c≠b->s.heap.get? c=some o->(h'.update b (Obj.mapSeq fun _=>#[Value.ref t1,Value.ref t1])).get? c=some o:=fun {c o} c1 c2 e=>(get?_update_other _ _ (Ne.symm c2)).trans (up c1 e);refine rE hh hu ib li lb ti m (i+1) _ ω ω ω (hit'.at fun o e=>(get?_update_other _ _ (Ne.symm ib)).trans e) (by obtain⟨o,e,r⟩:=hl;exact⟨o,up2 li lb e,r⟩) (fun j v hj=>?_) ⟨_,Value.ref t1,PySem.IsL.update (up (Ne.symm ib) ho) (fun _=>#[Value.ref t1,Value.ref t1]),?_⟩ fun h3 v3 k3 e3=>hR h3 v3 (fun c o c1 c2 e=>k3 c o c1 c2 (up2 c1 c2 e)) e3
   ·obtain⟨t,vs,k,q1,q2,q3⟩:=tu j v hj;have mt:=ti t (by rw[<- q1];exact mem_of_getElem? hj);refine⟨t,vs,k,q1,?_,q3⟩;obtain⟨o,e,r⟩:=q2;exact⟨o,up2 mt.1 mt.2 e,r⟩
   rw[Nat.add_sub_cancel,ab,hb,if_pos rfl,hx,e1]
  | false=>
   refine wpAny_ite_false rfl ?_;refine wpAny_bind (wpAny_letGo (wpAny_pure ⟨Code.quiet_builtin _ ψ,?_⟩));refine rE hh hu ib li lb ti m (i+1) _ ω ω ω hit' hl' (fun j v hj=>?_) ⟨k,_,up (Ne.symm ib) ho,?_⟩ fun h3 v3 k3 e3=>hR h3 v3 (fun c o c1 c2 e=>k3 c o c1 c2 (up c1 e)) e3
   ·obtain⟨t,vs,k,q1,q2,q3⟩:=tu j v hj;have mt:=ti t (by rw[<- q1];exact mem_of_getElem? hj);refine⟨t,vs,k,q1,?_,q3⟩;obtain⟨o,e,r⟩:=q2;exact⟨o,up mt.1 e,r⟩
   rw[Nat.add_sub_cancel,ab,hb,if_neg Bool.false_ne_true];exact hv
theorem FN {prog:Program}{w:World}{A:Around}{R:Result->Shared->Prop}{it b l:Addr}{its:List Value}{ks:List (List Int)}{s:Shared}{k:Nat}(hh:A.handled=none) (hu:(A.under (Code.builtin "min.loop" { pos:=[Value.ref it,Value.none,Value.ref b] })).units<cLine) (ib:it≠b) (li:l≠it) (lb:l≠b) (ti:∀t,Value.ref t∈its->t≠it/\t≠b)
  (h1:0<its.length) (hit:s.heap.IsListIter it l 0) (hl:s.heap.IsList l its.toArray) (tu:GP s.heap its ks) (ho:s.heap.get? b=some { cls:=Value.type "list",data:=Data.seq #[] k })
  (hR:∀(h':Heap)(v:Value),(∀c o,c≠it->c≠b->s.heap.get? c=some o->h'.get? c=some o)->its[argBest (btT ks) (its.length-1)]?=some v->R (.ok (.ret v)) { s with heap:=h' }) :
  codeAny (model prog w) A (Code.builtin "min.loop" { pos:=[Value.ref it,Value.none,Value.ref b] }) R s:=by
 have hx:its[0]?=some its[0]:=getElem?_eq_getElem h1;refine codeAny_builtin F.entry_min_loop ?_;show wpAny _ _ (seqItems? (Value.ref b) >>= _) _ _ _;refine wpAny_bind (wpAny_seqItems ho rfl ?_);refine wpAny_bind (wpAny_tryCatch (wpAny_pyNext_list_item (A:=A.under _) hit hl (by rw[getElem?_toArray];exact hx) fun h' hit' sb=>?_));have up:∀{c o},c≠it->s.heap.get? c=some o->h'.get? c=some o:=fun {c o} hc e=>(sb.2 c hc).trans e;show wpAny _ _ (pure its[0] >>= _) _ _ _;refine wpAny_bind (wpAny_pure ?_);show wpAny _ _ (updateSeq b (fun _=>#[its[0],its[0]]) >>= _) _ _ _;refine wpAny_bind (wpAny_updateSeq (s:={ s with heap:=h' }) (up (Ne.symm ib) ho) rfl ?_ (by show 0<=sizeLine;decide) (by show 2<=sizeLine+1;decide));refine wpAny_pure ⟨Code.quiet_builtin _ ψ,?_⟩;have up2:∀{c o},c≠it->c≠b->s.heap.get? c=some o->(h'.update b (Obj.mapSeq fun _=>#[its[0],its[0]])).get? c=some o:=fun {c o} c1 c2 e=>(get?_update_other _ _ (Ne.symm c2)).trans (up c1 e);refine rE hh hu ib li lb ti (its.length-1) 1 _ ω ω ω (hit'.at fun o e=>(get?_update_other _ _ (Ne.symm ib)).trans e) (by obtain⟨o,e,r⟩:=hl;exact⟨o,up2 li lb e,r⟩) (fun j v hj=>?_) ⟨_,its[0],PySem.IsL.update (up (Ne.symm ib) ho) (fun _=>#[its[0],its[0]]),hx⟩ fun h3 v3 k3 e3=>hR h3 v3 (fun c o c1 c2 e=>k3 c o c1 c2 (up2 c1 c2 e)) e3;obtain⟨t,vs,k,q1,q2,q3⟩:=tu j v hj;have mt:=ti t (by rw[<- q1];exact mem_of_getElem? hj);refine⟨t,vs,k,q1,?_,q3⟩;obtain⟨o,e,r⟩:=q2;exact⟨o,up2 mt.1 mt.2 e,r⟩
noncomputable def pk (c:Int×Int):List Int:=[c.1,c.2]
noncomputable def LeP (a b:Int×Int):Prop:=a.1<b.1\/(a.1=b.1/\a.2<=b.2)
theorem LeP.refl (a:Int×Int):LeP a a:=.inr ⟨rfl,Int.le_refl _⟩
theorem LeP.trans {a b c:Int×Int}(h:LeP a b)(k:LeP b c):LeP a c:=by unfold LeP at *;omega
theorem X8 (a b:Int×Int):(HT.lexLt (pk a) (pk b)=true->LeP a b)/\(HT.lexLt (pk a) (pk b)=false->LeP b a):=by
 unfold pk;rw[HT.pC,HT.pC,HT.oM];by_cases h:a.1=b.1
 ·rw[if_pos h];by_cases h2:a.2=b.2
  ·rw[if_pos h2];exact⟨fun q=>(by cases q),fun _=>.inr ⟨h.symm,ω⟩⟩
  rw[if_neg h2];exact⟨fun q=>by have:=of_decide_eq_true q;exact .inr ⟨h,ω⟩,fun q=>by have:=of_decide_eq_false q;exact .inr ⟨h.symm,ω⟩⟩
 rw[if_neg h];exact⟨fun q=>by have:=of_decide_eq_true q;exact .inl ω,fun q=>by have:=of_decide_eq_false q;exact .inl ω⟩
theorem Ja (cs:List (Int×Int)):∀k,k<cs.length->∃c,cs[argBest (btT (cs.map pk)) k]?=some c/\argBest (btT (cs.map pk)) k<=k/\∀(j:Nat) c',j<=k->cs[j]?=some c'->LeP c c'
 | 0,h=>⟨cs[0],by rw[argBest.eq_1];exact getElem?_eq_getElem h,le_refl _,fun j c' hj e=>by
   have:j=0:=by omega
   subst this;rw[getElem?_eq_getElem h] at e;cases e;exact LeP.refl _⟩
 | k+1,h=>by
  obtain⟨c,e,hle,hm⟩:=Ja cs k ω;have gk:(cs.map pk).getD (k+1) []=pk cs[k+1]:=by
   rw[List.getD_eq_getElem?_getD,getElem?_map,getElem?_eq_getElem h];rfl
  have ga:(cs.map pk).getD (argBest (btT (cs.map pk)) k) []=pk c:=by
   rw[List.getD_eq_getElem?_getD,getElem?_map,e];rfl
  have eq:argBest (btT (cs.map pk)) (k+1)=if HT.lexLt (pk cs[k+1]) (pk c)=true then k+1 else argBest (btT (cs.map pk)) k:=by
   refine(argBest.eq_2 _ _).trans ?_;show(if HT.lexLt ((cs.map pk).getD (k+1) []) ((cs.map pk).getD (argBest (btT (cs.map pk)) k) [])=true then _ else _)=_;rw[gk,ga]
  obtain⟨l1,l2⟩:=X8 cs[k+1] c;cases hb:HT.lexLt (pk cs[k+1]) (pk c) with
  | true=>
   rw[hb,if_pos rfl] at eq;rw[eq];refine⟨cs[k+1],getElem?_eq_getElem h,le_refl _,fun j c' hj ej=>?_⟩;rcases lt_or_ge k j with z|z
   ·have:j=k+1:=by omega
    subst this;rw[getElem?_eq_getElem h] at ej;cases ej;exact LeP.refl _
   exact(l1 hb).trans (hm j c' z ej)
  | false=>
   rw[hb,if_neg Bool.false_ne_true] at eq;rw[eq];refine⟨c,e,ω,fun j c' hj ej=>?_⟩;rcases lt_or_ge k j with z|z
   ·have:j=k+1:=by omega
    subst this;rw[getElem?_eq_getElem h] at ej;cases ej;exact l2 hb
   exact hm j c' z ej
section
variable {X:Cx}
theorem yP (hc:X.calm=true) (hu:∀as,(X.A.under (Code.builtin "min.loop" as)).units<cLine):cV X (.builtin "min") (fun xs H Q=>∃(p:Addr)(ts:List Addr)(cs:List (Int×Int)),xs=[.ref p]/\H p=some (.lst (ts.map V.ref))/\ts.length=cs.length/\(∀(j:Nat) t c,ts[j]?=some t->cs[j]?=some c->H t=some (.tup [.int c.1,.int c.2]))/\ts≠[] /\
  ∀(m:Nat) t c,ts[m]?=some t->cs[m]?=some c->(∀c'∈cs,LeP c c')->Q (.ref t) H):=by
 intro pins s σ H xs us Q I r h;obtain⟨p,ts,cs,rfl,hp,hlen,ht,hne,q⟩:=h;obtain⟨u,rfl,rv⟩:=vals1 r;cases rv;have hpos:0<ts.length:=List.length_pos_iff.mpr hne;obtain⟨its,rvs,pl,hz⟩:=I.list (SqL.of hp);have hl:=rvs.length;rw[length_map] at hl;have pl':s.heap.IsList p its.toArray:=pl.isList;have hlt:p<s.heap.objs.size:=by obtain⟨_,e,_⟩:=pl';exact lt_size e
 have itsat:∀(j:Nat) v,its[j]?=some v->∃t c,ts[j]?=some t/\cs[j]?=some c/\v=Value.ref t/\H t=some (.tup [.int c.1,.int c.2]):=fun j v hj=>by
  have hj':j<its.length:=(List.getElem?_eq_some_iff.mp hj).1;have hx:(ts.map V.ref)[j]?=some (V.ref (ts[j]'ω)):=by rw[getElem?_map,getElem?_eq_getElem ω];rfl
  obtain⟨u,hu,ru⟩:=rvs.get hx;rw[hj] at hu;cases hu;cases ru;exact⟨_,cs[j]'ω,getElem?_eq_getElem ω,getElem?_eq_getElem ω,rfl,ht j _ _ (getElem?_eq_getElem ω) (getElem?_eq_getElem ω)⟩
 have tups:GP s.heap its (cs.map pk):=fun j v hj=>by
  obtain⟨t,c,_,e2,rfl,e4⟩:=itsat j v hj;obtain⟨vs,rv2,pt,_⟩:=I.tuple (SqT.of e4);refine⟨t,vs.toArray,pk c,rfl,pt,by rw[getElem?_map,e2];rfl,?_⟩;cases rv2 with
  | cons r1 rr=>
   cases rr with
   | cons r2 rr=>
    cases rr;obtain⟨t1,rfl⟩:=r1;obtain⟨t2,rfl⟩:=r2;exact .cons _ _ (.cons _ _ .nil)
 refine call_function_tree F.kind_min F.plain_min F.entry_min (F.args_min1 _) ?_;refine wpAny_bind (wpAny_of_eq (show _=pure [none,none] from rfl) ?_);refine wpAny_bind (wpAny_pure ?_);refine wpAny_bind (wpAny_pyIter_list pl' ?_);refine wpAny_bind (wpAny_newObj_type ?_);refine wpAny_pure ⟨Code.quiet_builtin _ ψ,?_⟩;have z1:(s.heap.push { cls:=Value.type "list_iterator",data:=Data.fields #[Value.ref p,Value.int 0 0] }).objs.size=s.heap.objs.size+1:=size_push ..;have old:∀c o,s.heap.get? c=some o->((s.heap.push { cls:=Value.type "list_iterator",data:=Data.fields #[Value.ref p,Value.int 0 0] }).push { cls:=Value.type "list",data:=Data.seq #[] }).get? c=some o:=fun c o e=>get?_push_of_some _ (get?_push_of_some _ e);have ne0:∀{c o},s.heap.get? c=some o->c≠s.heap.objs.size:=fun {c o} e=>ne_of_lt (lt_size e);have ne1:∀{c o},s.heap.get? c=some o->c≠(s.heap.push { cls:=Value.type "list_iterator",data:=Data.fields #[Value.ref p,Value.int 0 0] }).objs.size:=fun {c o} e z=>by
  rw[z1] at z;have:=lt_size e;rw[z] at this;exact absurd this (Nat.not_lt.mpr (le_succ _))
 have tgt:∀t,Value.ref t∈its->∃o,s.heap.get? t=some o:=fun t ht'=>by
  obtain⟨j,hj⟩:=mem_iff_getElem?.mp ht';obtain⟨t',vs,k,q1,⟨o,e,_⟩,_⟩:=tups j _ hj;cases q1;exact⟨o,e⟩
 refine FN (l:=p) (its:=its) (ks:=cs.map pk) (k:=0) (A:=X.A) (I.ok.hd hc) (hu _) ?_ (ne_of_lt hlt) ?_ (fun t ht'=>?_) ω ⟨_,get?_push_of_some _ (get?_push_size _ rfl),rfl,rfl⟩ ?_ (fun j v hj=>?_) (get?_push_size _ rfl) fun h' v kp hv=>?_
 ·rw[z1];exact ne_of_lt (lt_succ_self _)
 ·obtain⟨_,e,_⟩:=pl';exact ne1 e
 ·obtain⟨o,e⟩:=tgt t ht';exact⟨ne0 e,ne1 e⟩
 ·obtain⟨o,e,r⟩:=pl';exact⟨o,old _ _ e,r⟩
 ·obtain⟨t,vs,k,q1,⟨o,e,r⟩,q3⟩:=tups j v hj;exact⟨t,vs,k,q1,⟨o,old _ _ e,r⟩,q3⟩
 obtain⟨c,e1,e2,e3⟩:=Ja cs (its.length-1) ω;obtain⟨t,c',g1,g2,rfl,g4⟩:=itsat _ v hv;rw[e1] at g2;cases g2;refine⟨.ref t,H,I.kept (t':=s.toks) fun b o e=>kp b o (ne0 e) (ne1 e) (old b o e),rfl,q _ t c g1 e1 fun c' hc'=>?_⟩;obtain⟨j,hj⟩:=mem_iff_getElem?.mp hc';have:=(List.getElem?_eq_some_iff.mp hj).1;exact e3 j c' ω hj
end
noncomputable def slc (ws:List Int)(i j:Nat):List Int:=(ws.drop i).take (j-i)
inductive Tr:List Int->Int->Prop
 | leaf (w:Int):Tr [w] 0
 | node {a b:List Int} {x y:Int}:Tr a x->Tr b y->Tr (a++b) ((a++b).sum+(x+y))
inductive PTr (ss:Sts)(ws:List Int):Nat->Nat->Pl->Int->Prop
 | leaf {i:Nat}:i<ss.length->PTr ss ws i (i+1) (.pick (YM ss i).2.2) 0
 | node {i k j:Nat} {a b:Pl} {x y:Int}:i<k->k<j->PTr ss ws i k a x->PTr ss ws k j b y->PTr ss ws i j (.low k a b) ((slc ws i j).sum+(x+y))
theorem gW.Zn {k:Nat}{A:Around}(r:gW k A) (as:Args):(A.under (Code.builtin "min.loop" as)).units<cLine:=by
 have:=r.un;show A.units+(Code.builtin "min.loop" as).cUnits<cLine;have e:(Code.builtin "min.loop" as).cUnits<=60:=by
  show 1+3*(Code.builtin "min.loop" as).frames<=60;have:(Code.builtin "min.loop" as).frames=0:=by rfl
  omega
 omega
open PySem.W (Frag clsIn findIn takerIn InstAt looks_clsIn looks_findIn looks_takesIn Looks check_slot looks_mroIn mroIn set_plain osa_eq)
open Builtin Builtin.ObjectAttr
noncomputable def vbm:List Value:=[.type "ValueError",.type "Exception",.type "BaseException",.type "object"]
open PySem.W (Frag clsIn findIn takerIn InstAt looks_clsIn looks_findIn looks_takesIn Looks check_slot looks_mroIn mroIn handedIn handedOut_of)
structure XCls (K:PySem.W.Frag)(C D N fI:Addr):Prop where
 obj:∃nm q bs sn sub ab col dd k0 k1 k2 k3 k5,K.lookup C=some (excClassObj nm q C N bs (.ref D::vbm) true sn sub ab col dd k0 k1 k2 k3 k5 "ValueError.__new__")
 tail:PySem.W.tailIn K vbm (.ref D::vbm)=true
 nsok:PySem.W.nsOkIn K N=true
 init:nsIn K N "__init__" = some (some (.ref fI))
 set:PySem.W.findIn K (.ref C) "__setattr__" = some (some (.builtin "object.__setattr__"))
 ga:PySem.W.findIn K (.ref C) "__getattribute__" = some (some (.builtin "BaseException.__getattribute__"))
 gk:PySem.W.findIn K (.ref C) "__getattr__" = some none
noncomputable abbrev TJ:=St->Hp->(Hp->Prop)->Prop
open PySem.W (Frag clsIn findIn takerIn InstAt looks_clsIn looks_findIn looks_takesIn looks_specialIn specialIn takesIn Looks check_slot looks_mroIn mroIn handedIn handedOut_of class_get KitX)
open Builtin
mutual
noncomputable def noL:PyData->Bool
 | .list _=>false
 | .tuple ds=>jJ ds
 | _=>true
noncomputable def jJ:List PyData->Bool
 | []=>true
 | d::ds=>noL d&&jJ ds
end
mutual
theorem aN.yD {ok ok':Addr->Prop}{H H':Hp}(k:∀a xs,ok a->H a=some (.tup xs)->ok' a/\H' a=some (.tup xs)):∀{v:V}{d:PyData},aN ok H v d->noL d=true->aN ok' H' v d
 | _,_,.non,_=>.non
 | _,_,.bl b,_=>.bl b
 | _,_,.int i,_=>.int i
 | _,_,.str x,_=>.str x
 | _,_,.lst o e z t,h=>by rw[noL] at h;cases h
 | _,_,.tup o e z t,h=>by
  rw[noL] at h;exact .tup (k _ _ o e).1 (k _ _ o e).2 z (aM.yD k t h)
theorem aM.yD {ok ok':Addr->Prop}{H H':Hp}(k:∀a xs,ok a->H a=some (.tup xs)->ok' a/\H' a=some (.tup xs)):∀{vs:List V}{ds:List PyData},aM ok H vs ds->jJ ds=true->aM ok' H' vs ds
 | _,_,.nil,_=>.nil
 | _,_,.cons t r,h=>by
  rw[jJ,and_eq_true] at h;exact .cons (aN.yD k t h.1) (aM.yD k r h.2)
end
theorem HW (i:Int):noL (.int i)=true:=by simp [noL]
theorem Uz (i:Str):noL (.str i)=true:=by simp [noL]
theorem HS (ds:List PyData):noL (.tuple ds)=jJ ds:=by rw[noL]
theorem xY:∀gs:List Int,jJ (gs.map PyData.int)=true
 | []=>by rw[map_nil,jJ]
 | g::gs=>by rw[map_cons,jJ,xY gs,HW];rfl
theorem aM.put {ok:Addr->Prop}{H:Hp}{l:Addr}{xs ys vs:List V}{ds:List PyData}(t:aM ok H vs ds)(h:jJ ds=true)(e:H l=some (.lst xs)):aM ok (upd H l (.lst ys)) vs ds:=
 t.yD (fun a zs o ea=>⟨o,by rw[aH (fun z=>by rw[z,e] at ea;cases ea),ea]⟩) h
theorem aN.put {ok:Addr->Prop}{H:Hp}{l:Addr}{xs ys:List V}{v:V}{d:PyData}(t:aN ok H v d)(h:noL d=true)(e:H l=some (.lst xs)):aN ok (upd H l (.lst ys)) v d:=
 t.yD (fun a zs o ea=>⟨o,by rw[aH (fun z=>by rw[z,e] at ea;cases ea),ea]⟩) h
theorem Qd {n j:Nat}(h:j<n):ixN n (j:Int)=some j:=by
 unfold ixN;rw[if_pos ω,if_pos ω];rfl
theorem Ft:∀ns:List Int,dR (ns.map PyData.int)<=ns.length:=fun ns=>by
 have:=mG (n:=1) (ds:=ns.map PyData.int) fun d hd=>by
  obtain⟨n,_,rfl⟩:=mem_map.mp hd;exact le_refl _
 rw[length_map] at this;omega
section
variable {X:Cx}{o e i:Expr}{to te td ty:TE}{pos:Pos}
theorem W4 {pos:Pos}:QE X (.Dict [] [] pos) El:=⟨Og⟩
end
noncomputable def Yl:Pl->Bool
 | .pick _=>true
 | .tab=>true
 | _=>false
noncomputable def Zx (ss:Sts)(C:List (List Nat×Pl)):List (List Nat×Pl):=(C.map fun x=>qN ss x.2 x.1).flatten
noncomputable def Pz (S:List (List Nat×Pl)):Nat->Bool
 | 0=>false
 | i+1=>match S[i]? with
  | some x=>Yl x.2
  | none=>false
structure AhSt (ss:Sts)(S:List (List Nat×Pl))(tot:List (Nat×Nat))(i:Nat)(C:List (List Nat×Pl))(T:List Nat)(done:List (Nat×Nat)):Prop where
 fl:S.drop i=Zx ss C
 no:Pz S i=false->T.length+1=C.length/\tot=done++Yr (C.map (·.2)) T i
 yes:Pz S i=true->T.length=C.length/\((C=[]/\tot=done)\/∃t T',T=t::T'/\tot=done++(t,i)::Yr (C.map (·.2)) T' i)
theorem ln1 {α:Type}{us:List α}(h:us.length=1):∃a,us=[a]:=by
 cases us with
 | nil=>cases h
 | cons a r=>
  cases r with
  | nil=>exact⟨a,rfl⟩
  | cons b r=>cases h
theorem ln2 {α:Type}{us:List α}(h:us.length=2):∃a0 a1,us=[a0,a1]:=by
 cases us with
 | nil=>cases h
 | cons a0 r=>
  obtain⟨a1,rfl⟩:=ln1 (Nat.succ.inj h);exact⟨a0,a1,rfl⟩
theorem ln3 {α:Type}{us:List α}(h:us.length=3):∃a0 a1 a2,us=[a0,a1,a2]:=by
 cases us with
 | nil=>cases h
 | cons a0 r=>
  obtain⟨a1,a2,rfl⟩:=ln2 (Nat.succ.inj h);exact⟨a0,a1,a2,rfl⟩
theorem ln4 {α:Type}{us:List α}(h:us.length=4):∃a0 a1 a2 a3,us=[a0,a1,a2,a3]:=by
 cases us with
 | nil=>cases h
 | cons a0 r=>
  obtain⟨a1,a2,a3,rfl⟩:=ln3 (Nat.succ.inj h);exact⟨a0,a1,a2,a3,rfl⟩
theorem Zt (x:Int)(i:Nat):x+2+500*(i:Int)+490<=x+2+500*((i+1:Nat):Int):=by omega
theorem Z7 (x:Int):x+2+2+2+2+2<=x+10+2*((0:Nat):Int):=by omega
theorem Z6 (x:Int)(j:Nat):x+2*(j:Int)+2<=x+2*((j+1:Nat):Int):=by omega
theorem pl9 {pre:List Int}{j n:Nat}(h:pre.length<=j)(hj:j<n)(hn:n<=1000000):((pre++[(j:Int)]).map V.int).length<=1000000:=by
 rw[length_map,length_append,length_singleton];omega
theorem tk1 {x:Int}(h:x<=1000000):x+2<=1000100:=by omega
theorem tk2 {x:Int}(h:x<=1000000):x+2+2<=1000100:=by omega
theorem tk3 {x:Int}(h:x<=1000000):x+2+2+2<=1000100:=by omega
theorem tu3 {x:Int}:x+2+2+2<=x+490:=by omega
theorem tk4 {x:Int}(h:x<=1000000):x+2+2+2+2<=1000100:=by omega
theorem tu4 {x:Int}:x+2+2+2+2<=x+490:=by omega
theorem tk5 {x:Int}(h:x<=1000000):x+2+2+2+2+2<=1000100:=by omega
theorem tk6 {x:Int}(h:x<=1000000):x+2+2+2+2+2+2<=1000100:=by omega
theorem tu6 {x:Int}:x+2+2+2+2+2+2<=x+490:=by omega
noncomputable def tV (i:Nat):TE:=fun σ H Q=>match σ[i]? with
 | some (some x)=>Q x H
 | _=>False
theorem V2 {i:Nat}{σ:St}{H:Hp}{Q:VK}(h:tV i σ H Q):Lj i σ H Q:=by
 unfold tV at h;split at h
 ·rename_i x e;exact⟨x,e,h⟩
 exact h.elim
section
variable {X:Cx}{i:Nat}{x:Str}{pos:Pos}
theorem ao (h:Nm X.N X.env.scope i x):QE X (.Name x pos) (tV i):=⟨fun pins s σ H Q I q=>(Z1 h).h pins s σ H Q I (V2 q)⟩
theorem cO (i:Nat) {x:Str}{pos:Pos}(hN:X.N[i]?=some x:=by rfl) (hv:Vis X.env.scope x:=by first|exact Or.inl rfl|exact Or.inr (Or.inl rfl)|exact Or.inr (Or.inr rfl)) (hd:(x == ("__debug__" : Str))=false:=by decide)
  (hcd:(x == ("__classdict__" : Str))=false:=by decide):QE X (.Name x pos) (tV i):=⟨fun pins s σ H Q I q=>(Z0 i hN hv hd hcd).h pins s σ H Q I (V2 q)⟩
end
noncomputable def atq (o:Option V)(H:Hp)(Q:VK):Prop:=∃v,o=some v/\Q v H
theorem Ri (v:V)(H:Hp)(Q:VK):atq (some v) H Q=Q v H:=propext ⟨fun⟨_,e,h⟩=>by cases e;exact h,fun h=>⟨v,rfl,h⟩⟩
theorem Qc (xs:List V)(i:Int)(H:Hp)(Q:VK):ixq (some (.lst xs)) i H Q=atq (atI xs i) H Q:=rfl
theorem Qa (xs:List V)(i:Int)(H:Hp)(Q:VK):ixq (some (.tup xs)) i H Q=atq (atI xs i) H Q:=rfl
theorem Yt {b:Bool}{P:Bool->Prop}:(∃k,V.bl b=V.bl k/\P k)=P b:=propext ⟨fun⟨_,e,h⟩=>by cases e;exact h,fun h=>⟨b,rfl,h⟩⟩
theorem Vu {a:Int}{P:Int->Prop}:(∃k,V.int a=V.int k/\P k)=P a:=propext ⟨fun⟨_,e,h⟩=>by cases e;exact h,fun h=>⟨a,rfl,h⟩⟩
theorem Vt {a b:Int}{P:Int->Int->Prop}:(∃i j,V.int a=V.int i/\V.int b=V.int j/\P i j)=P a b:=propext ⟨fun⟨_,_,e,f,h⟩=>by cases e;cases f;exact h,fun h=>⟨a,b,rfl,rfl,h⟩⟩
theorem Vs {a b:V}{P:V->V->Prop}:(∃i j,[a,b]=[i,j]/\P i j)=P a b:=propext ⟨fun⟨_,_,e,h⟩=>by cases e;exact h,fun h=>⟨a,b,rfl,h⟩⟩
theorem ZD {α:Type}(a b c d:α)(l:List α):atI (a::b::c::d::l) 3=some d:=bM (j:=3) rfl
theorem ZC {α:Type}(a b c d e:α)(l:List α):atI (a::b::c::d::e::l) 4=some e:=bM (j:=4) rfl
theorem Rj {α:Type}(a b c d:α):atI [a,b,c,d] (-1)=some d:=rfl
noncomputable def ry0:=And.intro @Jl.eq_1 (And.intro @rQ.eq_1 (And.intro @tOp.eq_1 (And.intro @rI.eq_1 (And.intro @rI0.eq_1 (And.intro @rU.eq_1 (And.intro @tUn.eq_1 (And.intro @tC.eq_1 (And.intro @Lp.eq_1 (And.intro @uh.eq_1 (And.intro @rR.eq_1 (And.intro @BJ.eq_1 (And.intro @tCB.eq_1 (And.intro @tIf.eq_1 (And.intro @LQ.eq_1 (And.intro @Lr.eq_1 (And.intro @Ls.eq_1 (And.intro @Ln.eq_1 (And.intro @wB.eq_1 (And.intro @j6.eq_1 (And.intro @Qp.eq_1 (And.intro @J9 (And.intro @Vj (And.intro @Cg (And.intro @Nb (And.intro @Ng (And.intro @SX (And.intro @Wq.eq_1 (And.intro @Vm @Yp))))))))))))))))))))))))))))
noncomputable def ry1:=And.intro @Ni (And.intro @Jw (And.intro @Jx (And.intro @Ss (And.intro @Qc (And.intro @Qa (And.intro @RX (And.intro @U7 (And.intro @U6 (And.intro Qe.1 (And.intro Qe.2.1 (And.intro Qe.2.2 (And.intro @ZJ (And.intro @ZG (And.intro @ZF (And.intro @aB (And.intro @Np (And.intro @Nj (And.intro @Yo (And.intro @U9 (And.intro @PX (And.intro @Yh (And.intro @Yg (And.intro @kc_bool (And.intro @ty_int (And.intro @YK (And.intro @ty_str (And.intro @Wm (And.intro @Wl (And.intro @RN (And.intro @RM (And.intro @sV (And.intro @qQ (And.intro @pW (And.intro @zB @BW))))))))))))))))))))))))))))))))))
noncomputable def ry2:=And.intro @zA (And.intro @wH (And.intro @BV (And.intro @Et (And.intro @Es (And.intro @BR (And.intro @zu (And.intro @Er (And.intro @BP (And.intro @zp (And.intro @zq (And.intro @wG (And.intro @wF (And.intro @uF (And.intro @Bool.or_false (And.intro @Bool.or_self (And.intro @Bool.or_true (And.intro @Bool.not_true (And.intro @Bool.not_false (And.intro @false_eq_true (And.intro @decide_true (And.intro @decide_false (And.intro @Ly.eq_1 (And.intro @rEq.eq_1 (And.intro @rNe.eq_1 @SQ))))))))))))))))))))))))
noncomputable def ry3:=And.intro @SN (And.intro @YC (And.intro @WW (And.intro @WX (And.intro @WT (And.intro @W0 (And.intro @Zv (And.intro @Lw.eq_1 (And.intro @Rm (And.intro @Wt.eq_1 (And.intro @Em.eq_1 (And.intro @Mz (And.intro @R9 (And.intro @Mw (And.intro @Mx (And.intro @K1.eq_1 (And.intro @YJ.eq_1 (And.intro @Wg.eq_1 (And.intro @L2.start.eq_1 (And.intro @map_cons.{0,0} (And.intro @map_nil.{0,0} (And.intro @length_cons.{0} (And.intro @length_nil.{0} (And.intro @List.cons_append.{0} (And.intro @nil_append.{0} (And.intro @replicate_succ.{0} (And.intro @List.replicate_zero.{0} (And.intro @append_nil.{0} (And.intro @getElem?_cons_zero.{0} @getElem?_cons_succ.{0}))))))))))))))))))))))))))))
noncomputable def ry4:=And.intro @set_cons_zero.{0} (And.intro @set_cons_succ.{0} (And.intro @sub_self (And.intro @Option.some.injEq.{0} (And.intro @exists_eq_left'.{1} (And.intro @Qz (And.intro @V.int.injEq (And.intro @V.str.injEq (And.intro @V.bl.injEq (And.intro @V.ref.injEq (And.intro @List.cons.injEq.{0} (And.intro @and_true (And.intro @true_and (And.intro @exists_and_left.{1} (And.intro @decide_eq_true_eq (And.intro @Lz (And.intro @Rq (And.intro @Vd (And.intro @Bl (And.intro @M6 (And.intro @R7 (And.intro @tSl.eq_1 (And.intro @zc.eq_1 @Lq.eq_1))))))))))))))))))))))
noncomputable def ry5:=And.intro @Sq (And.intro @Sx (And.intro @Sy (And.intro @Sv (And.intro @Sw (And.intro @Qj (And.intro @Vc (And.intro @Vb (And.intro @RT (And.intro @Lh (And.intro @Li (And.intro @RQ (And.intro @Qh (And.intro @Wj (And.intro @Wi (And.intro @Wh (And.intro @Wv.eq_1 @ipI.eq_1))))))))))))))))
noncomputable def ry6:=And.intro @ZD (And.intro @ZC (And.intro @Rj (And.intro @Ri (And.intro @Yt (And.intro @Vu (And.intro @Vt @Vs))))))
noncomputable def rdy:=And.intro ry0 (And.intro ry1 (And.intro ry2 (And.intro ry3 (And.intro ry4 (And.intro ry5 (And.intro ry6 @tV.eq_1))))))
theorem RG {c:TT}{tb:TS}{D:Ends}{σ:St}{H:Hp}(Pv:Nat->St->Hp->Prop)(h0:∃m,Pv m σ H)
  (hs:∀m σ H,Pv m σ H->∀kt:Hp->Prop,(kt=fun H1=>∃N:St->Hp->Prop,(∀σ' H',N σ' H'->∃m',m'<m/\Pv m' σ' H')/\tb { D with nx:=N,ct:=N,bk:=D.nx } σ H1)->c σ H fun b H1=>if b=true then kt H1 else D.nx σ H1):zb c tb D σ H:=
 ⟨Pv,h0,fun m σ H p=>hs m σ H p _ rfl⟩
theorem Yv {K:PySem.W.Frag}{h:Heap}{mg:Str->Option Value}{x:Str}{st:Stmt}{ps:List Str}{f:Addr}{oc:Value}{od an:Option Addr}{osl:Array (Option Value)}{kV doc pm cdv ct:Value}(X:K.In h)(G:h.Ns mainGlobals mg)(a:nsIn K mainGlobals x=some (some (.ref f)))
  (l:K.lookup f=some ⟨oc,od,.func (fnOf x x (gD st) (eF st) (ak st) .none kV doc pm an cdv ct),osl⟩) (c:codeIn K cdv x=true) (k:keepIn K (.ref f)=true)
  (hb:∀(kV doc pm:Value)(an:Option Addr)(cdv ct:Value)(us:List Value),us.length=ps.length->bindArgs (fnOf x x (gD st) (eF st) (ak st) .none kV doc pm an cdv ct) ⟨us,[]⟩=pure (ps.zip us)):V0 K mg x st ps f (fnOf x x (gD st) (eF st) (ak st) .none kV doc pm an cdv ct):=
 ⟨Qu (st:=st) l c k,(Qu (st:=st) l c k).binds hb,mg_of X G a⟩
end L2
set_option maxHeartbeats 4100000
namespace SRT
open PySem PyProof.Rows
noncomputable def Ris (xs:Array Nat):Prop:=xs.toList.Pairwise (· < ·)
theorem Ris.lt {xs:Array Nat}(h:Ris xs){i k x y:Nat}(hx:xs[i]?=some x)(hy:xs[k]?=some y)(hik:i<k):x<y:=by
 rw[<- getElem?_toList] at hx hy;obtain⟨h1,rfl⟩:=List.getElem?_eq_some_iff.mp hx;obtain⟨h2,rfl⟩:=List.getElem?_eq_some_iff.mp hy;exact pairwise_iff_getElem.mp h i k h1 h2 hik
theorem Vk {xs:Array Nat}(hr:Ris xs)(j:Nat):∀fuel lo hi,hi-lo<=fuel->lo<=hi->hi<=xs.size->(∀i x,xs[i]?=some x->i<lo->x<j)->(∀i x,xs[i]?=some x->hi<=i->j<=x) ->
  (∀i x,xs[i]?=some x->(i<SetTable.below.go xs j fuel lo hi↔x<j))/\SetTable.below.go xs j fuel lo hi<=xs.size:=by
 intro fuel
 induction fuel with
 | zero=>
  intro lo hi h1 h2 h3 h4 h5;have e:hi=lo:=ω;subst e;refine⟨fun i x hx=>⟨fun hl=>h4 i x hx hl,fun hl=>?_⟩,h3⟩;show i<hi;refine Nat.lt_of_not_le fun hle=>?_;have:=h5 i x hx hle;omega
 | succ fuel ih=>
  intro lo hi h1 h2 h3 h4 h5;show(∀i x,xs[i]?=some x->(i<(if lo<hi then if xs.getD ((lo+hi)/2) j<j then SetTable.below.go xs j fuel ((lo+hi)/2+1) hi else SetTable.below.go xs j fuel lo ((lo+hi)/2) else lo)↔x<j))/\(if lo<hi then if xs.getD ((lo+hi)/2) j<j then SetTable.below.go xs j fuel ((lo+hi)/2+1) hi else SetTable.below.go xs j fuel lo ((lo+hi)/2) else lo)<=xs.size;by_cases hl:lo<hi
  ·rw[if_pos hl];have hm:(lo+hi)/2<xs.size:=ω;have hg:xs[(lo+hi)/2]?=some xs[(lo+hi)/2]:=by simp [hm]
   have hd:xs.getD ((lo+hi)/2) j=xs[(lo+hi)/2]:=by simp [Array.getD,hm]
   rw[hd];by_cases hc:xs[(lo+hi)/2]<j
   ·rw[if_pos hc];refine ih _ _ ω ω h3 (fun i x hx hi'=>?_) h5;by_cases e:i=(lo+hi)/2
    ·subst e;rw[hg] at hx;cases hx;exact hc
    exact lt_trans (hr.lt hx hg ω) hc
   rw[if_neg hc];refine ih _ _ ω ω ω h4 (fun i x hx hi'=>?_);by_cases e:i=(lo+hi)/2
   ·subst e;rw[hg] at hx;cases hx;omega
   have:=hr.lt hg hx ω;omega
  rw[if_neg hl];have e:hi=lo:=ω;subst e;refine⟨fun i x hx=>⟨fun hl=>h4 i x hx hl,fun hl=>?_⟩,h3⟩;refine Nat.lt_of_not_le fun hle=>?_;have:=h5 i x hx hle;omega
theorem pH {xs:Array Nat}(hr:Ris xs)(j:Nat):(∀i x,xs[i]?=some x->(i<SetTable.below xs j↔x<j))/\SetTable.below xs j<=xs.size:=by
 unfold SetTable.below;refine Vk hr j _ _ _ ω ω (le_refl _) (fun _ _ _ h=>absurd h ω) fun i x hx hi=>?_;have:=(Array.getElem?_eq_some_iff.mp hx).1;omega
theorem DR {xs:Array Nat}(hr:Ris xs){j:Nat}(hn:xs[SetTable.below xs j]?≠some j):∀x∈xs.toList,x≠j:=by
 intro x hx e;subst e;obtain⟨i,hi,e⟩:=mem_iff_getElem.mp hx;have hg:xs[i]?=some x:=by rw[<- getElem?_toList,getElem?_eq_getElem hi,e]
 have hs:=pH hr x;have h1:=(hs.1 i x hg);have h2:SetTable.below xs x<=i:=by
  refine Nat.le_of_not_lt fun h=>?_;exact lt_irrefl _ (h1.mp h)
 rcases lt_or_ge (SetTable.below xs x) i with h|h
 ·have hi':i<xs.size:=by simpa using hi
  have hb:SetTable.below xs x<xs.size:=ω;have hgb:xs[SetTable.below xs x]?=some xs[SetTable.below xs x]:=by simp [hb]
  have l1:=hr.lt hgb hg h;have:=(hs.1 _ _ hgb).mpr l1;omega
 have e:SetTable.below xs x=i:=ω;rw[e] at hn;exact hn hg
theorem wO {α:Type}(xs:Array α)(p:Nat)(x:α):(SetTable.insertAt xs p x).toList=xs.toList.take p++x::xs.toList.drop p:=by
 unfold SetTable.insertAt;simp [toList_extract,List.extract,take_of_length_le]
theorem Ez {xs:Array Nat}(hr:Ris xs){j:Nat}(hn:xs[SetTable.below xs j]?≠some j):Ris (SetTable.insertAt xs (SetTable.below xs j) j):=by
 have hs:=pH hr j;have hne:=DR hr hn;show(SetTable.insertAt xs (SetTable.below xs j) j).toList.Pairwise (· < ·);rw[wO];have hx:xs.toList.Pairwise (· < ·):=hr;rw[pairwise_append,pairwise_cons];refine⟨hx.sublist (take_sublist _ _),⟨fun y hy=>?_,hx.sublist (drop_sublist _ _)⟩,fun a ha b hb=>?_⟩
 ·obtain⟨i,hi,e⟩:=mem_iff_getElem.mp hy;rw[List.getElem_drop] at e;have hl:SetTable.below xs j+i<xs.toList.length:=by rw[length_drop] at hi;omega
  have hg:xs[SetTable.below xs j+i]?=some y:=by rw[<- getElem?_toList,getElem?_eq_getElem hl,e]
  have h1:=hs.1 _ _ hg;have h2:=hne y (List.mem_of_mem_drop hy);have:¬(y<j):=fun h=>by have:=h1.mpr h;omega
  omega
 have l1:a<j:=by
  obtain⟨i,hi,e⟩:=mem_iff_getElem.mp ha;rw[List.getElem_take] at e;have hl:i<SetTable.below xs j/\i<xs.toList.length:=by rw[length_take] at hi;omega
  have hg:xs[i]?=some a:=by rw[<- getElem?_toList,getElem?_eq_getElem hl.2,e]
  exact(hs.1 _ _ hg).mp hl.1
 rcases mem_cons.mp hb with rfl|hb
 ·exact l1
 obtain⟨i,hi,e⟩:=mem_iff_getElem.mp hb;rw[List.getElem_drop] at e;have hl:SetTable.below xs j+i<xs.toList.length:=by rw[length_drop] at hi;omega
 have hg:xs[SetTable.below xs j+i]?=some b:=by rw[<- getElem?_toList,getElem?_eq_getElem hl,e]
 have h1:=hs.1 _ _ hg;have:¬(b<j):=fun h=>by have:=h1.mpr h;omega
 omega
noncomputable def TOk (b:Bool)(t:SetTable):Prop:=Ris t.place/\t.dummies=#[]/\t.led=b
theorem Ji {b:Bool}{t:SetTable}(h:TOk b t)(p:Bool):TOk b { t with plain:=p }:=h
theorem Jv (n:Nat):Ris (Array.range n):=by
 show(Array.range n).toList.Pairwise (· < ·);rw[Array.toList_range];exact List.pairwise_lt_range
theorem jy {b:Bool}{t:SetTable}(h:TOk b t)(n:Nat):TOk b (t.standIn n):=⟨Jv n,rfl,h.2.2⟩
theorem wA {b:Bool}{t:SetTable}(h:TOk b t)(n:Nat):TOk b (t.orStandIn n):=by
 unfold SetTable.orStandIn;split
 ·exact h
 exact jy h n
theorem Jj (f m:Nat)(b:Bool):TOk b (SetTable.fresh f m b):=⟨List.Pairwise.nil,rfl,rfl⟩
theorem Fb {t:SetTable}(hd:t.dummies=#[]){f:Nat->Int}{h:Int}(hf:∀i,(f i == h)=false):∀(fuel:Nat)(p:SetTable.Probe),p.dummy=none ->
  ∀m,SetTable.probe.go t f h fuel p=some m->∃j,m=.empty j none/\t.place[SetTable.below t.place j]?≠some j:=by
 intro fuel
 induction fuel with
 | zero=>intro p _ m e;exact absurd e (by simp [SetTable.probe.go])
 | succ fuel ih=>
  intro p hp m e;unfold SetTable.probe.go at e;have hnd:∀j,SetTable.has t.dummies j=false:=fun j=>by rw[hd];simp [SetTable.has]
  have hadv:∀q:SetTable.Probe,q.dummy=none->(t.advance q).dummy=none:=fun q hq=>by
   unfold SetTable.advance;split
   ·exact hq
   exact hq
  split at e
  ·rename_i hs;cases e;refine⟨p.j,by rw[hp],fun hc=>?_⟩;unfold SetTable.slot at hs;simp [hc] at hs
  ·rename_i hs;unfold SetTable.slot at hs;dsimp only at hs;split at hs
   ·cases hs
   rw[hnd] at hs;simp at hs
  rw[hf,if_neg (by simp)] at e;exact ih _ (hadv _ hp) m e
theorem Dp {t:SetTable}(hd:t.dummies=#[]){h:Int}{j:Nat}{b:Bool}(e:t.freeSlot h=some (j,b)):t.place[SetTable.below t.place j]?≠some j:=by
 unfold SetTable.freeSlot SetTable.probe at e;split at e
 ·rename_i j' d hp;obtain⟨j2,e2,hn⟩:=Fb hd (f:=fun _=>h+1) (h:=h) (fun i=>by simp;omega) _ _ rfl _ hp;cases e2;simp at e;rw[<- e.1];exact hn
 cases e
theorem FW {b:Bool}{t:SetTable}(ht:TOk b t)(es:Array (Int×Value))(h:Int)(x:Value):TOk b (layNew t es h x).2.1:=by
 unfold layNew;split
 ·rename_i slot wd hs;have hn:=Dp ht.2.1 hs;refine wA ?_ _;unfold SetTable.put;refine⟨Ez ht.1 hn,?_,ht.2.2⟩;show(if SetTable.has t.dummies slot=true then SetTable.eraseAt t.dummies (SetTable.below t.dummies slot) else t.dummies)=#[];rw[ht.2.1];rfl
 exact jy ht _
theorem zG {b:Bool}{t:SetTable}(ht:TOk b t)(es:Array (Int×Value))(n:Nat):TOk b (relayAll t es n).2.1:=by
 unfold relayAll;split
 ·rename_i t' order hr;dsimp only;split
  ·unfold SetTable.relaid SetTable.laid at hr;cases ho:SetTable.layClean (SetTable.sizeAbove n-1) (es.map (·.1)) with
   | none=>rw[ho] at hr;cases hr
   | some owner=>
    rw[ho] at hr;simp only[Option.bind_eq_bind,Option.bind_some,Option.pure_def,Option.some.injEq,Prod.mk.injEq] at hr;obtain⟨rfl,-⟩:=hr;refine⟨?_,rfl,ht.2.2⟩;show(List.map _ _).toArray.toList.Pairwise (· < ·);rw[List.toList_toArray,pairwise_map,List.pairwise_filterMap];refine List.pairwise_lt_range.imp fun {a c} hac p hp q hq=>?_;simp only[map_eq_some_iff] at hp hq;obtain⟨_,_,rfl⟩:=hp;obtain⟨_,_,rfl⟩:=hq;exact hac
  exact jy ht _
 exact jy ht _
end SRT
namespace SRT
open PySem PyProof.Rows
section
variable {prog:Program}{w:World}{K:Type}[DecidableEq K]
noncomputable def SetT (knd:KeyKind prog w K)(b:Bool)(h:Heap)(a:Addr)(S:K->Bool)(n:Nat):Prop:=
 ∃o es ep t,h.get? a=some o/\o.ExactSet/\o.data=.set es ep t/\(ElemsOf knd es.toList/\(∀k,S k=true ↔ ∃e∈es.toList,knd.is k e.2=true)/\es.size<scanBound)/\t.fits es.size=true/\es.size=n/\TOk b t
variable {knd:KeyKind prog w K}{A:Around}{E:Value->Shared->Prop}{s:Shared}{b:Bool}
theorem SetT.get {h h':Heap}{a:Addr}{S:K->Bool}{n:Nat}(hS:SetT knd b h a S n)(hk:∀o,h.get? a=some o->h'.get? a=some o):SetT knd b h' a S n:=
 let ⟨o,es,ep,t,ho,r⟩:=hS;⟨o,es,ep,t,hk o ho,r⟩
theorem SetT.congr {h:Heap}{a:Addr}{S S':K->Bool}{n n':Nat}(hS:SetT knd b h a S n)(e:∀k,S k=S' k)(en:n=n'):SetT knd b h a S' n':=by
 have:S=S':=funext e;subst this;subst en;exact hS
theorem xK {h:Heap}{a:Addr}{o:Obj}{es:Array (Int×Value)}{ep:Nat}{t:SetTable}(ho:h.get? a=some o)(hex:o.ExactSet)(hd:o.data=.set es ep t)
  {es':Array (Int×Value)} {t':SetTable} {S':K->Bool} (hel:ElemsOf knd es'.toList/\(∀k,S' k=true ↔ ∃e∈es'.toList,knd.is k e.2=true)/\es'.size<scanBound) (hf:t'.fits es'.size=true) (ht:TOk b t') :
  (h.update a (Obj.putSet es' t')).get? a=some { o with data:=.set es' (ep+1) t' }/\SetT knd b (h.update a (Obj.putSet es' t')) a S' es'.size:=by
 have hg:(h.update a (Obj.putSet es' t')).get? a=some { o with data:=.set es' (ep+1) t' }:=by
  have q:=get?_update_self (Obj.putSet es' t') ho (by rw[putSet_of es' t' hd];rfl);rw[putSet_of es' t' hd] at q;exact q
 exact⟨hg,_,es',ep+1,t',hg,hex,rfl,hel,hf,rfl,ht⟩
theorem DX {g:Bool->Sem Unit}(hg:∀(c:Bool)(s₁:Shared)(Q':Unit->Shared->Prop),Q' () s₁->wpAny (model prog w) A (g c) Q' E s₁)
  {a:Addr} {o:Obj} {es:Array (Int×Value)} {ep:Nat} {t:SetTable} (ho:s.heap.get? a=some o) (hex:o.ExactSet) (hd:o.data=.set es ep t)
  {es1:Array (Int×Value)} {t2:SetTable} {S':K->Bool} (hel:ElemsOf knd es1.toList/\(∀k,S' k=true ↔ ∃e∈es1.toList,knd.is k e.2=true)/\es1.size<scanBound)
  (hf:t2.fits es1.size=true) (ht:TOk b t2) {wd:Bool} {R:Option Bool->Shared->Prop}
  (h:∀h',Heap.SameBut a s.heap h'->SetT knd b h' a S' es1.size->R (some true) { s with heap:=h' }) :
  wpAny (model prog w) A (storeSet a es1 t2 >>= fun _=>if (!wd&&t2.tooFull)=true then (g (relayAll t2 es1 (SetTable.grown es1.size)).2.2 >>= fun _=>storeSet a (relayAll t2 es1 (SetTable.grown es1.size)).1 (relayAll t2 es1 (SetTable.grown es1.size)).2.1 >>= fun _=>pure (some true)) else pure (some true)) R E s:=by
 refine wpAny_bind (wpAny_storeSet_of ho hd ?_ (fits_of_scanBound hel.2.2));obtain⟨ho1,hS1⟩:=xK (knd:=knd) ho hex hd hel hf ht;have hsb1:=Heap.SameBut.update s.heap a (Obj.putSet es1 t2);by_cases hc:(!wd&&t2.tooFull)=true
 ·rw[if_pos hc];have hp:=relayAll_perm t2 es1 (SetTable.grown es1.size);have hfr:=relayAll_fits t2 es1 (SetTable.grown es1.size);have htr:=zG ht es1 (SetTable.grown es1.size);generalize relayAll t2 es1 (SetTable.grown es1.size)=Rl at hp hfr htr |-;obtain⟨es2,t3,gv⟩:=Rl;dsimp only at hp hfr htr |-;have hsz:es2.size=es1.size:=by rw[<- length_toList,hp.length_eq,length_toList]
  have hel2:ElemsOf knd es2.toList/\(∀k,S' k=true ↔ ∃e∈es2.toList,knd.is k e.2=true)/\es2.size<scanBound:=
   ⟨hel.1.perm hp,fun k=>(hel.2.1 k).trans ⟨fun⟨e,he,q⟩=>⟨e,hp.mem_iff.mpr he,q⟩,fun⟨e,he,q⟩=>⟨e,hp.mem_iff.mp he,q⟩⟩,by rw[hsz];exact hel.2.2⟩
  refine wpAny_bind (hg _ _ _ (wpAny_bind (wpAny_storeSet_of ho1 rfl ?_ (fits_of_scanBound hel2.2.2))));obtain⟨_,hS2⟩:=xK (knd:=knd) ho1 hex rfl hel2 hfr htr;rw[hsz] at hS2;exact wpAny_pure (h _ (hsb1.trans (Heap.SameBut.update _ a _)) hS2)
 rw[if_neg hc];exact wpAny_pure (h _ hsb1 hS1)
theorem Mu {a:Addr}{S:K->Bool}{n:Nat}{k:K}{x:Value}{Q:Bool->Shared->Prop}(hkey:knd.is k x=true)(hsc:x.scannable=true)(hS:SetT knd b s.heap a S n)(hroom:n+1<scanBound)
  (h:∀h',Heap.SameBut a s.heap h'->SetT knd b h' a (fun k'=>S k'||decide (k'=k)) (if S k then n else n+1)->Q (!S k) { s with heap:=h' }) :
  wpAny (model prog w) A (setAddHashed a x (knd.hash k)) Q E s:=by
 obtain⟨o,es,ep,t,ho,hex,hd,hel,hf,hn,ht⟩:=hS;unfold setAddHashed setAddHashedIn;refine wpAny_holding (wpAny_bind (wpAny_setState_of ho hd hf ?_));dsimp only;rw[byScan_of hsc hel.2.2 hel.1,if_pos rfl];unfold setAddByScan;refine wpAny_bind (wpAny_bind (wpAny_rule (wpAny_bind (wpAny_setScan_of hkey ho hd hf hel.1 ?_))));cases hr:List.findIdx? (fun e=>knd.is k e.2) es.toList with
 | some j=>
  dsimp only;obtain⟨hj,hpj,_⟩:=List.findIdx?_eq_some_iff_getElem.mp hr;have hSk:S k=true:=(hel.2.1 k).mpr ⟨es.toList[j],getElem_mem hj,hpj⟩;refine wpAny_pure (wpAny_pure ?_);have q:=h s.heap (Heap.SameBut.refl a s.heap) ⟨o,es,ep,t,ho,hex,hd,⟨hel.1,fun k'=>by
   rw[Bool.or_eq_true,decide_eq_true_eq,<- hel.2.1 k'];exact⟨fun hk=>hk.elim id (fun e=>e ▸ hSk),.inl⟩,hel.2.2⟩,hf,by rw[hSk];exact hn,ht⟩
  rw[hSk] at q;exact q
 | none=>
  dsimp only;have hSk:S k=false:=by
   cases hk:S k with
   | false=>rfl
   | true=>
    obtain⟨e,he,hp⟩:=(hel.2.1 k).mp hk;have q:=List.findIdx?_eq_none_iff.mp hr e he;rw[hp] at q;exact Bool.noConfusion q
  have hgw:∀(c:Bool){s₁:Shared}{Q':Unit->Shared->Prop},Q' () s₁->wpAny (model prog w) A (match c with|true=>rule "set.scan.the-table-gave-way" | false=>pure ()) Q' E s₁:=
   fun c s₁ Q' hq=>by cases c <;> first|exact wpAny_pure hq|exact wpAny_rule hq
  have hperm:=layNew_perm t es (knd.hash k) x;have hfits:=layNew_fits t es (knd.hash k) x;have htok:=FW ht es (knd.hash k) x;generalize layNew t es (knd.hash k) x=L at hperm hfits htok |-;obtain⟨es1,t1,wd,gv⟩:=L;dsimp only at hperm hfits htok |-;rw[toList_push] at hperm;have hsz1:es1.size=n+1:=by rw[<- length_toList,hperm.length_eq,length_append,length_toList,hn];rfl
  have hel1:ElemsOf knd es1.toList/\(∀k',(S k'||decide (k'=k))=true ↔ ∃e∈es1.toList,knd.is k' e.2=true)/\es1.size<scanBound:=
   ⟨(hel.1.push hkey hsc).perm hperm,mem_push_iff hkey hel.2.1 hperm,by rw[hsz1];exact hroom⟩
  have hend:∀h',Heap.SameBut a s.heap h'->SetT knd b h' a (fun k'=>S k'||decide (k'=k)) es1.size->Q true { s with heap:=h' }:=by
   intro h' hsb hS';have q:=h h' hsb;rw[hSk] at q;rw[hsz1] at hS';exact q hS'
  refine wpAny_bind (hgw _ ?_);by_cases hpl:t1.plain=true
  ·rw[if_pos hpl,hashByValue_scannable 8 hsc];refine wpAny_bind (wpAny_pure ?_);refine DX (b:=b) ?_ ho hex hd hel1 (t2:=if plainKind x=true then t1 else { t1 with plain:=false }) ?_ ?_ ?_
   ·intro c s₁ Q' hq;cases c <;> first|exact wpAny_pure hq|exact wpAny_rule hq
   ·split
    ·exact hfits
    exact SetTable.fits_plain_off hfits
   ·split
    ·exact htok
    exact Ji htok false
   intro h' hsb hS';dsimp only;exact wpAny_pure (hend h' hsb hS')
  rw[if_neg hpl];refine wpAny_bind (wpAny_pure ?_);refine DX (b:=b) ?_ ho hex hd hel1 hfits htok ?_
  ·intro c s₁ Q' hq;cases c <;> first|exact wpAny_pure hq|exact wpAny_rule hq
  intro h' hsb hS';dsimp only;exact wpAny_pure (hend h' hsb hS')
end
end SRT
namespace SRT
open PySem PyProof.Rows
noncomputable abbrev bt (w:World):Bool:=w.params.followText "set-order"
section
variable {prog:Program}{w:World}{A:Around}{R:Result->Shared->Prop}{I:Addr}{fp wr:List Addr}{G:Array GenState->Array GenState->Prop}{n:Nat}{P:Nat->Value->Prop}{St:Nat->Shared->Prop}{b:Bool}
theorem Ld (W:WalksS prog w A.in1 I fp wr G n P St)(S:Addr)(hSf:S∉fp)(val:Nat->Int)(hval:∀i v,P i v->∃t,v=.int (val i) t)(hb:n+1<scanBound) :
  ∀(k i:Nat)(s:Shared),n-i=k->i<=n->St i s->SetT (intKind prog w) b s.heap S (fun k'=>(firstMet val i).any (· == k')) (firstMet val i).length ->
   (∀s',Moved (S::wr) G s s'->SetT (intKind prog w) b s'.heap S (fun k'=>(firstMet val n).any (· == k')) (firstMet val n).length->R (.ok (.ret .none)) s') ->
   codeAny (model prog w) A (.builtin "set.update.loop" ⟨[.ref S,.ref I],[]⟩) R s:=by
 have hSw:S∉wr:=fun h=>hSf (W.sub _ h);have hsub:∀c∈wr,c∈S::wr:=fun c hc=>mem_cons_of_mem _ hc;intro k
 induction k with
 | zero=>
  intro i s hk hi hst hS hR;have hin:i=n:=ω;subst hin;refine codeAny_builtin F.entry_set_update_loop ?_;rw[Around.under_plainId F.plain_set_update_loop _];show wpAny _ A.in1 (pyNext (.ref I) >>= _) _ _ s;refine wpAny_bind (W.done s _ _ hst fun s' hm=>?_);show wpAny _ A.in1 (ret Value.none) _ _ s';exact wpAny_pure (hR s' (hm.mono hsub) (hS.get fun o e=>hm.heap S _ hSw e))
 | succ k ih=>
  intro i s hk hi hst hS hR;have hlt:i<n:=ω;refine codeAny_builtin F.entry_set_update_loop ?_;rw[Around.under_plainId F.plain_set_update_loop _];show wpAny _ A.in1 (pyNext (.ref I) >>= _) _ _ s;refine wpAny_bind (W.item i s _ _ hlt hst fun v s' hP hst' hm=>?_);obtain⟨t,rfl⟩:=hval i v hP;have hS':=hS.get fun o e=>hm.heap S _ hSw e;show wpAny _ A.in1 (holding [Value.int (val i) t] (setAdd S (.int (val i) t)) >>= _) _ _ s';refine wpAny_bind (wpAny_holding ?_);unfold setAdd;refine wpAny_holding (wpAny_bind ((intKind prog w).pyHash (k:=val i) (intKind_is _ _ _ _) ?_));have hroom:(firstMet val i).length+1<scanBound:=by have:=firstMet_length_le val i;omega
  refine Mu (knd:=intKind prog w) (s:={ s' with toks:=s'.toks+1 }) (intKind_is _ _ _ _) rfl hS' hroom fun h' hsb hS2=>?_;have hSi:SetT (intKind prog w) b h' S (fun k'=>(firstMet val (i+1)).any (· == k')) (firstMet val (i+1)).length:=
   hS2.congr (fun k'=>by rw[firstMet_succ,step_any]) (by rw[firstMet_succ,step_length])
  refine wpAny_pure ⟨plainId_quiet F.plain_set_update_loop _,ih (i+1) _ ω hlt (W.frame _ s' _ _ hst' (le_succ _) fun c hc o e=>?_) hSi fun s'' hm'' hS''=>?_⟩
  ·rw[hsb.2 c (fun h:c=S=>hSf (by rw[<- h];exact hc))];exact e
  refine hR s'' (Moved.trans W.gtrans ((hm.mono hsub).then_heap (le_succ _) fun c o hc e=>?_) hm'') hS'';rw[hsb.2 c (fun h:c=S=>hc (by rw[h];exact mem_cons_self))];exact e
end
noncomputable abbrev wD (w:World):Obj:={ cls:=.type "set",dict:=none,data:=.set #[] 0 (.fresh 0 0 (!bt w)) }
section
variable {prog:Program}{w:World}{A:Around}{E:Value->Shared->Prop}{s:Shared}
theorem Kq (a:Value){Q₁:Value->Shared->Prop}(h:Q₁ (.ref s.heap.objs.size) { s with heap:=s.heap.push (wD w) }) :
  codeAny (model prog w) A (.call (.builtin "set.__new__") ⟨[.type "set",a],[]⟩) (wants Q₁ E) s:=by
 refine codeAny_of_tree (show wpAny _ A.in1 (checkBuiltinCall "set.__new__" ⟨[.type "set",a],[]⟩ >>= fun _=>again (.builtin "set.__new__" ⟨[.type "set",a],[]⟩)) _ _ s from ?_);refine wpAny_bind (wpAny_of_eq (F.newCall_set_1 a) (wpAny_pure ⟨plainId_quiet F.plain_set_new _,codeAny_builtin F.entry_set_new ?_⟩));rw[Around.under_plainId F.plain_set_new _];unfold Builtin.«set.__new__» Builtin.Frozenset.newClass;have hsub:=sub_set_self;obtain⟨hp,g,d,tk,os⟩:=s;dsimp only
 wp_walk
 refine wpAny_askSetting (wpAny_pure ?_);dsimp only;simp only[newObj];exact wpAny_bind (wpAny_alloc (wpAny_pure (wpAny_pure h)))
set_option maxHeartbeats 3200000 in
theorem Kr {l:Addr}{items:Array Value}{ns:List Int}{Q:Value->Shared->Prop}(hh:A.handled=none)(hl:s.heap.IsList l items)(hi:IntsAre items.toList ns)(hb:items.size+1<scanBound)
  (h:∀(h':Heap)(tk:Nat),SetT (intKind prog w) (!bt w) h' s.heap.objs.size (fun k'=>(firstMet (fun i=>ns.getD i 0) items.size).any (· == k')) (firstMet (fun i=>ns.getD i 0) items.size).length ->
   (∀c o,c<s.heap.objs.size->s.heap.get? c=some o->h'.get? c=some o)->Q (.ref s.heap.objs.size) { s with heap:=h',toks:=tk }) :
  wpAny (model prog w) A (call (.type "set") [.ref l]) Q E s:=by
 obtain⟨c,tl,hmro⟩:=F.called_set.mro;have hmade:=F.called_set.made;have hsub:=F.called_set.sub;refine wpAny_call (codeAny_of_tree (show wpAny _ _ (callAny (.type "set") _) _ _ _ from wpAny_pure ⟨Code.quiet_builtin _ ψ,codeAny_builtin F.entry_type_call ?_⟩));rw[Around.under_plain (weight_type_call_type "set" [.ref l] []) rfl];have h1:=F.called_set.notType;have h2:=F.called_set.canCreate;have hct:=F.typeCall_set_1 (.ref l)
 repeat (any_goals (first|assumption|wp_step))
 refine codeAny_mono (Kq (.ref l) (E:=E) (Q₁:=fun obj s₁=>obj=.ref s.heap.objs.size/\s₁={ s with heap:=s.heap.push (wD w) }) ⟨rfl,rfl⟩) fun r s₁ hr=>?_;cases r with
 | error e=>exact hr
 | ok fl=>
  cases fl with
  | ret obj=>
   obtain⟨rfl,rfl⟩:=hr;have hS:(s.heap.push (wD w)).get? s.heap.objs.size=some (wD w):=get?_push_size _ rfl;have hT:Shared.TypeIs { s with heap:=s.heap.push (wD w) } (.ref s.heap.objs.size) "set" := ⟨_,hS,rfl⟩;have hli:=F.called_set.init.lookup;have hbi:=F.called_set.init.bind (.ref s.heap.objs.size)
   repeat (any_goals (first|assumption|wp_step))
   refine codeAny_mono (codeAny_call_builtin (R:=wants (fun r s₂=>r=.none/\∃h' tk,s₂={ s with heap:=h',toks:=tk } /\
     SetT (intKind prog w) (!bt w) h' s.heap.objs.size (fun k'=>(firstMet (fun i=>ns.getD i 0) items.size).any (· == k')) (firstMet (fun i=>ns.getD i 0) items.size).length /\
     (∀c o,c<s.heap.objs.size->s.heap.get? c=some o->h'.get? c=some o)) E) F.called_set.init.plain F.entry_set_init (check_set_init_1 hT ?_)) fun r₂ s₂ hr₂=>?_
   ·obtain⟨ol,hol,hcl,nl,hdl⟩:=hl;obtain⟨ocls,odict,odata,oslots⟩:=ol;simp only at hcl hdl;subst hcl;subst hdl;have hol':(s.heap.push (wD w)).get? l=some { cls:=.type "list",dict:=odict,data:=.seq items nl,slots:=oslots }:=get?_push_of_some _ hol;have hsls:=F.sub_list_set;have hslf:=F.sub_list_frozenset;have hne:(Value.type "list" == Value.type "dict")=false:=by decide
    have hl1:(s.heap.push (wD w)).IsList l items:=⟨_,hol',rfl,nl,rfl⟩;unfold Builtin.«set.__init__» noKeywords Builtin.Frozenset.updateFrom;generalize hPI:pyIter=PI
    wp_walk
    subst hPI;refine wpAny_pyIter_list hl1 (wpAny_bind (wpAny_runValue ?_));have hlS:l<s.heap.objs.size:=lt_size hol;have hh3:A.in1.in1.in1.handled=none:=by simp [hh]
    have hneI:l≠(s.heap.push (wD w)).objs.size:=by
     rw[size_push];exact ne_of_lt (lt_succ_of_lt hlS)
    have hSf:s.heap.objs.size∉[(s.heap.push (wD w)).objs.size,l]:=by
     rw[size_push];simp only[mem_cons,mem_singleton,not_mem_nil,or_false,not_or];exact⟨ne_of_lt (lt_succ_self _),ne_of_gt hlS⟩
    have hval:∀(i:Nat)(v:Value),items[i]?=some v->∃t,v=.int ((fun i=>ns.getD i 0) i) t:=fun i v hv=>IntsAre.int_at hi i v (by rw[getElem?_toList];exact hv);refine Ld (b:=!bt w) ((Walks.list hh3 _ l hneI items).toS) s.heap.objs.size hSf (fun i=>ns.getD i 0) hval hb (items.size-0) 0 _ ω (zero_le _)
     ⟨⟨_,get?_push_size _ rfl,rfl,rfl⟩,(hl1.push _)⟩ ?hS0 ?hR
    case hS0=>exact⟨_,#[],0,_,get?_push_of_some _ hS,⟨rfl,rfl,rfl⟩,rfl,⟨fun e he=>by simp at he,fun k=>by simp [firstMet_zero],δ⟩,by rfl,rfl,Jj _ _ _⟩
    case hR=>
     intro s' hm hS';obtain⟨h',g',d',tk',os'⟩:=s';have eg:g'=s.gens:=hm.gens;have ed:d'=s.drawn:=hm.drawn;have eo:os'=s.os:=hm.os;subst eg;subst ed;subst eo;show wpAny _ _ _ _ _ _;refine wpAny_pure (show wpAny _ _ (ret Value.none) _ _ _ from wpAny_pure ⟨rfl,h',tk',rfl,hS',fun c o hc e=>?_⟩);have hc1:c≠s.heap.objs.size:=ne_of_lt hc;have hc2:c≠(s.heap.push (wD w)).objs.size:=by
      rw[size_push];exact ne_of_lt (lt_succ_of_lt hc)
     exact hm.heap c o (by simp only[mem_cons,mem_singleton,not_mem_nil,or_false,not_or];exact⟨hc1,hc2⟩) (get?_push_of_some _ (get?_push_of_some _ e))
   cases r₂ with
   | error e=>exact hr₂
   | ok fl₂=>
    cases fl₂ with
    | ret r=>
     obtain⟨rfl,h',tk,rfl,hS',hk'⟩:=hr₂
     repeat (any_goals (first|assumption|wp_step))
     exact h _ _ hS' hk'
    | _=>exact hr₂.elim
  | _=>exact hr.elim
end
end SRT
namespace SRT
open PySem PyProof.Rows
theorem oY {α:Type}:∀{l:List α}{i:Nat}(h:i<l.length),(l[i]::l.eraseIdx i).Perm l
 | x::l,0,_=>List.Perm.refl _
 | x::l,i+1,h=>by
  have h':i<l.length:=by simpa using h
  show(l[i]::x::l.eraseIdx i).Perm (x::l);exact(List.Perm.swap _ _ _).trans (List.Perm.cons _ (oY h'))
section
variable {prog:Program}{w:World}{A:Around}{E:Value->Shared->Prop}
theorem wp_choose {s:Shared}{src:Source}{n:Nat}{Q:Nat->Shared->Prop}(hn:n≠0)(h:∀k d,k<n->Q k { s with drawn:=d }):wpAny (model prog w) A (choose src n) Q E s:=
 fun _ _ _=>⟨hn,h _ _ (mod_lt _ (Nat.pos_of_ne_zero hn))⟩
theorem Vv {α:Type}:∀(n:Nat)(xs:List α)(s:Shared){Q:List α->Shared->Prop},xs.length=n->(∀ys d,ys.Perm xs->Q ys { s with drawn:=d })->wpAny (model prog w) A (drawOrder n xs) Q E s:=by
 intro n
 induction n with
 | zero=>
  intro xs s Q hl h;have e:xs=[]:=length_eq_zero_iff.mp hl;subst e;exact wpAny_pure (h [] s.drawn (List.Perm.refl _))
 | succ n ih=>
  intro xs s Q hl h;cases xs with
  | nil=>cases hl
  | cons x xs=>
   unfold drawOrder;refine wpAny_bind (wp_choose (by simp) fun i d hi=>?_);have hg:(x::xs)[i]?=some (x::xs)[i]:=getElem?_eq_getElem hi;rw[hg];dsimp only;refine wpAny_bind (ih _ _ (by rw[List.length_eraseIdx,if_pos hi];simpa using hl) fun ys d' hp=>wpAny_pure (h _ d' ?_));exact(List.Perm.cons _ hp).trans (oY hi)
end
theorem Tz {α:Type}(next:Nat->Nat):∀(fuel k:Nat)(left:List α)(out:Array α),left.length=fuel->(pickOrder.go next fuel k left out).toList.Perm (out.toList++left):=by
 intro fuel
 induction fuel with
 | zero=>
  intro k left out hl;have e:left=[]:=length_eq_zero_iff.mp hl;subst e;show out.toList.Perm _;rw[append_nil]
 | succ fuel ih=>
  intro k left out hl;unfold pickOrder.go;have hi:next k%left.length<left.length:=mod_lt _ ω;rw[getElem?_eq_getElem hi];dsimp only;refine(ih (k+1) _ _ (by rw[List.length_eraseIdx,if_pos hi];omega)).trans ?_;rw[toList_push,append_assoc];exact List.Perm.append_left _ (oY hi)
theorem JB {α:Type}(next:Nat->Nat)(xs:Array α):(pickOrder next xs).toList.Perm xs.toList:=by
 have:=Tz next xs.size 0 xs.toList #[] (by simp);simpa [pickOrder] using this
noncomputable def gG (h:Heap)(S:Addr)(es:Array (Int×Value))(ep:Nat)(t:SetTable):Prop:=∃o,h.get? S=some o/\o.ExactSet/\o.data=.set es ep t
noncomputable def eU (h:Heap)(I:Addr)(first:Value)(i:Nat)(S:Addr)(n ep:Nat):Prop:=
 h.get? I=some { cls:=.type "set_iterator",dict:=none,data:=.fields #[first,.int i 0,.ref S,.int n 0,.int ep 0],slots:=#[] }
theorem gG.get {h h':Heap}{S:Addr}{es:Array (Int×Value)}{ep:Nat}{t:SetTable}(hS:gG h S es ep t)(hk:∀o,h.get? S=some o->h'.get? S=some o):gG h' S es ep t:=
 let ⟨o,ho,r⟩:=hS;⟨o,hk o ho,r⟩
section
variable {prog:Program}{w:World}{A:Around}{E:Value->Shared->Prop}{s:Shared}{S:Addr}{es:Array (Int×Value)}{ep:Nat}{t:SetTable}
theorem lV {Q:(Array (Int×Value)×Nat×SetTable)->Shared->Prop}(hS:gG s.heap S es ep t)(hf:t.fits es.size=true)(h:Q (es,ep,t) s):wpAny (model prog w) A (setState S) Q E s:=
 let ⟨_,ho,_,hd⟩:=hS;wpAny_setState_of ho hd hf h
theorem below_at {xs:Array Nat}(hr:Ris xs){i:Nat}(hi:i<=xs.size):SetTable.below xs (if i=0 then 0 else xs.getD (i-1) 0+1)=i:=by
 have hs:=pH hr (if i=0 then 0 else xs.getD (i-1) 0+1);generalize hb:SetTable.below xs (if i=0 then 0 else xs.getD (i-1) 0+1)=b at hs;by_cases h0:i=0
 ·subst h0;simp only[↓reduceIte] at hs;rcases Nat.eq_zero_or_pos b with h|h
  ·exact h
  have hl:0<xs.size:=ω;have hg:xs[0]?=some xs[0]:=by simp [hl]
  have:=(hs.1 0 _ hg).mp h;omega
 rw[if_neg h0] at hs;have hl:i-1<xs.size:=ω;have hg:xs[i-1]?=some xs[i-1]:=by simp [hl]
 have hd:xs.getD (i-1) 0=xs[i-1]:=by simp [Array.getD,hl]
 rw[hd] at hs;have h1:i-1<b:=(hs.1 _ _ hg).mpr ω;rcases lt_or_ge i b with h|h
 ·have hl2:i<xs.size:=ω;have hg2:xs[i]?=some xs[i]:=by simp [hl2]
  have h2:=(hs.1 _ _ hg2).mp h;have h3:=hr.lt hg hg2 ω;omega
 omega
theorem UG (hf:t.fits es.size=true)(ht:TOk (!bt w) t)(hd:bt w=true\/(!t.plain&&decide (es.size>1))=false) :
  ∃(vs:List Value)(sl:Nat->Nat),sl 0=0/\vs.Perm (es.toList.map (·.2))/\∀(i:Nat)(s:Shared)(A:Around)(E:Value->Shared->Prop)(Q:Option (Value×Nat)->Shared->Prop),i<=vs.length->gG s.heap S es ep t ->
   Q (vs[i]?.map fun x=>(x,sl (i+1))) s->wpAny (model prog w) A (setNext S (sl i) i ep) Q E s:=by
 by_cases hb:bt w=true
 ·refine⟨(pickOrder (w.params.setOrder S ep) es).toList.map (·.2),fun _=>0,rfl,(JB _ es).map _,fun i s A E Q hi hS h=>?_⟩;unfold setNext;refine wpAny_bind (lV hS hf ?_);dsimp only;unfold setsByText;refine wpAny_bind (wpAny_bind (wpAny_askSetting (wpAny_pure ?_)));show wpAny _ _ (if bt w=true then _ else _) _ _ _;rw[if_pos hb,if_neg (by simp)];unfold setWalk;refine wpAny_bind (wpAny_bind (lV hS hf ?_));dsimp only;unfold setsByText;refine wpAny_bind (wpAny_bind (wpAny_askSetting (wpAny_pure ?_)));show wpAny _ _ (if bt w=true then _ else _) _ _ _;rw[if_pos hb];refine wpAny_bind (wpAny_askSetting (wpAny_pure (wpAny_pure ?_)));have e:((pickOrder (w.params.setOrder S ep) es)[i]?).map (fun e=>(e.2,0))=(((pickOrder (w.params.setOrder S ep) es).toList.map (·.2))[i]?).map fun x=>(x,0):=by
   rw[getElem?_map,Option.map_map,getElem?_toList];rfl
  show Q (((pickOrder (w.params.setOrder S ep) es)[i]?).map (fun e=>(e.2,0))) s;rw[e];exact h
 have hb':bt w=false:=by simpa using hb
 have hdr:=hd.resolve_left hb;have hps:t.place.size=es.size:=by
  have:=hf;unfold SetTable.fits at this;simp only[and_eq_true,beq_iff_eq] at this;exact this.1
 refine⟨es.toList.map (·.2),fun i=>if i=0 then 0 else t.place.getD (i-1) 0+1,rfl,List.Perm.refl _,fun i s A E Q hi hS h=>?_⟩;unfold setNext;refine wpAny_bind (lV hS hf ?_);dsimp only;unfold setsByText;refine wpAny_bind (wpAny_bind (wpAny_askSetting (wpAny_pure ?_)));show wpAny _ _ (if bt w=true then _ else _) _ _ _;rw[if_neg hb];show wpAny _ _ (if (!t.plain&&decide (es.size>1))=true then _ else _) _ _ _;rw[if_neg (by rw[hdr];simp)];refine wpAny_bind ?_;show wpAny _ _ (if (!t.led && !es.isEmpty)=true then _ else _) _ _ _;have hled:t.led=true:=by rw[ht.2.2,hb'];rfl
 rw[if_neg (by rw[hled];simp)];refine wpAny_pure (wpAny_pure ?_);have hi':i<=es.size:=by simpa using hi
 rw[below_at ht.1 (by rw[hps];exact hi')];rcases lt_or_ge i es.size with hlt|hge
 ·have g1:es[i]?=some es[i]:=by simp [hlt]
  have g2:t.place[i]?=some t.place[i]:=by simp [hps,hlt]
  have g3:(es.toList.map (·.2))[i]?=some es[i].2:=by rw[getElem?_map,getElem?_toList,g1];rfl
  rw[g1,g2];rw[g3] at h;have g4:t.place.getD i 0=t.place[i]'(by rw[hps];exact hlt):=by simp [Array.getD,hps,hlt]
  simp only[map_some,Nat.add_one_ne_zero,if_false,Nat.add_sub_cancel,g4] at h;exact h
 have g1:es[i]?=none:=by simp [hge]
 have g3:(es.toList.map (·.2))[i]?=none:=by rw[getElem?_map,getElem?_toList,g1];rfl
 rw[g1];rw[g3] at h;exact h
end
end SRT
namespace SRT
open PySem PyProof.Rows
theorem Dt:entryFor table "set.__iter__" = some Builtin.«frozenset.__iter__»:=entryFor_alias (id' := "frozenset.__iter__") (by kernel_rfl) rfl ψ (by kernel_rfl)
theorem cG:Slot "set_iterator" "__next__" "set_iterator.__next__" :=
 .of (owner := "set_iterator") (n := "__next__") (by rw[typeLookup_type,builtinLookup_eq_fast];kernel_rfl) ψ ψ ψ (by first|exact .inl ψ|exact .inr ψ) (by rw[isSubtype_type];kernel_rfl)
theorem ur:Slot "set_iterator" "__iter__" "set_iterator.__iter__" :=
 .of (owner := "set_iterator") (n := "__iter__") (by rw[typeLookup_type,builtinLookup_eq_fast];kernel_rfl) ψ ψ ψ (by first|exact .inl ψ|exact .inr ψ) (by rw[isSubtype_type];kernel_rfl)
theorem jC:entryFor table "set_iterator.__next__" = some Builtin.«set_iterator.__next__»:=entryFor_of_tree (by kernel_rfl)
theorem Ds:entryFor table "set_iterator.__iter__" = some Builtin.«dict_keyiterator.__iter__»:=entryFor_alias (id' := "dict_keyiterator.__iter__") (by kernel_rfl) rfl ψ (by kernel_rfl)
theorem lE (a:Value):argsOk "set_iterator.__next__" ⟨[a],[]⟩:=by unfold argsOk;kernel_rfl
theorem GJ (a:Value):argsOk "set_iterator.__iter__" ⟨[a],[]⟩:=by unfold argsOk;kernel_rfl
section
variable {prog:Program}{w:World}{A:Around}{E:Value->Shared->Prop}{s:Shared}{S I:Addr}{es:Array (Int×Value)}{ep:Nat}{t:SetTable}
theorem eU.ty {h:Shared}{first:Value}{i n:Nat}(hI:eU h.heap I first i S n ep):h.TypeIs (.ref I) "set_iterator" := ⟨_,hI,rfl⟩
theorem eU.get {h h':Heap}{first:Value}{i n:Nat}(hI:eU h I first i S n ep)(hk:∀o,h.get? I=some o->h'.get? I=some o):eU h' I first i S n ep:=hk _ hI
theorem jt {Q:Array (Int×Value)->Shared->Prop}(hS:gG s.heap S es ep t)(hf:t.fits es.size=true)(h:Q es s):wpAny (model prog w) A (setEntries S) Q E s:=
 let ⟨_,ho,_,hd⟩:=hS;wpAny_setEntries_of ho hd hf h
theorem Dr {Q:Nat->Shared->Prop}(hS:gG s.heap S es ep t)(hf:t.fits es.size=true)(h:Q ep s):wpAny (model prog w) A (setEpoch S) Q E s:=
 let ⟨_,ho,_,hd⟩:=hS;wpAny_setEpoch_of ho hd hf h
theorem G6 (hh:A.handled=none) {s:Shared}{P:Fin->Shared->Prop}{E':Value->Shared->Prop}(h:∀(h':Heap)(e:Value),(∀c o,s.heap.get? c=some o->h'.get? c=some o)->Shared.TypeIs { s with heap:=h' } e "StopIteration" -> E' e { s with heap:=h' }) :
  wpAny (model prog w) A (newExc (.type "StopIteration") [] >>= fun e=>(raiseNew e:Sem Fin)) P E' s:=by
 refine wpAny_bind ?_;simp only[newExc,newTuple];refine wpAny_bind (wpAny_newObj_type (wpAny_bind (m:=firstArgMember _ _) (wpAny_of_eq (a:=Value.none) (by first|rfl|(simp only[firstArgMember];rfl)) ?_)) (by size_fits))
 refine wpAny_newObj_type ?_ (by size_fits);simp only[raiseNew];refine wpAny_bind (wpAny_handled ?_);rw[hh];refine wpAny_bind (wpAny_pure (wpAny_throw (h _ (.ref _) (fun c o e=>get?_push_of_some _ (get?_push_of_some _ e)) ⟨_,get?_push_size _ rfl,rfl⟩)))
theorem next_item {n i:Nat}{first:Nat}{v:Value}{sl:Nat}{Q:Option Value->Shared->Prop}(hI:eU s.heap I (.int first 0) i S es.size ep)(hS:gG s.heap S es ep t)(hf:t.fits es.size=true)
  (hn:∀(s:Shared)(A:Around)(E:Value->Shared->Prop)(Q:Option (Value×Nat)->Shared->Prop),gG s.heap S es ep t->Q (some (v,sl)) s->wpAny (model prog w) A (setNext S first i ep) Q E s)
  (hne:S≠I) (hQ:∀h',eU h' I (.int sl 0) (i+1) S es.size ep->Heap.SameBut I s.heap h'->Q (some v) { s with heap:=h' }):wpAny (model prog w) A (pyNext (.ref I)) Q E s:=by
 unfold pyNext;refine wpAny_bind (wpAny_attempt (wpAny_callSpecial?_slot (name:=Str.ofString "__next__") hI.ty cG (wpAny_call_entry cG hI.ty jC ?_ (lE _))));show wpAny _ _ (fieldsOf (.ref I) >>= _) _ _ s;refine wpAny_bind (wpAny_fieldsOf hI rfl ?_);refine wpAny_bind (jt hS hf ?_);rw[if_neg (by simp)];dsimp only;refine wpAny_bind (hn s _ _ _ hS ?_);dsimp only;refine wpAny_bind (wpAny_setField_rec hI (by simp) fun h1 g1 b1=>?_);refine wpAny_bind (wpAny_setField_rec (s:={ s with heap:=h1 }) g1 (by simp) fun h2 g2 b2=>?_);exact wpAny_pure ⟨_,rfl,wpAny_pure (hQ h2 g2 (b1.trans b2))⟩
end
end SRT
namespace SRT
open PySem PyProof.Rows
section
variable {prog:Program}{w:World}{A:Around}{E:Value->Shared->Prop}{s:Shared}{S I T:Addr}{es:Array (Int×Value)}{ep:Nat}{t:SetTable}
theorem BX {a:Addr}{h h' h'':Heap}(b:Heap.SameBut a h h')(k:∀c o,h'.get? c=some o->h''.get? c=some o)(c:Addr)(o:Obj)(hc:c≠a)(e:h.get? c=some o):h''.get? c=some o:=k c o (b.extBut c o hc e)
theorem next_end {i first:Nat}{Q:Option Value->Shared->Prop}(hh:A.handled=none)(hI:eU s.heap I (.int first 0) i S es.size ep)(hS:gG s.heap S es ep t)(hf:t.fits es.size=true)
  (hn:∀(s:Shared)(A:Around)(E:Value->Shared->Prop)(Q:Option (Value×Nat)->Shared->Prop),gG s.heap S es ep t->Q none s->wpAny (model prog w) A (setNext S first i ep) Q E s)
  (hQ:∀h',(∀c o,c≠I->s.heap.get? c=some o->h'.get? c=some o)->Q none { s with heap:=h' }):wpAny (model prog w) A (pyNext (.ref I)) Q E s:=by
 unfold pyNext;refine wpAny_bind (wpAny_attempt (wpAny_callSpecial?_slot (name:=Str.ofString "__next__") hI.ty cG (wpAny_call_entry cG hI.ty jC ?_ (lE _))));show wpAny _ _ (fieldsOf (.ref I) >>= _) _ _ s;refine wpAny_bind (wpAny_fieldsOf hI rfl (wpAny_bind (jt hS hf ?_)));rw[if_neg (by simp)];dsimp only;refine wpAny_bind (hn s _ _ _ hS ?_);dsimp only;refine wpAny_bind (wpAny_setField_rec hI (by simp) fun h1 g1 b1=>?_);refine G6 (s:={ s with heap:=h1 }) (by simpa using hh) fun h2 e k2 ty=>wpAny_bind (wpAny_isInstance ty isSubtype_stop (wpAny_pure (hQ h2 fun c o hc x=>BX b1 k2 c o hc x)))
noncomputable def TupAt (h:Heap) (T:Addr) (ds:List Nat):Prop:=h.get? T=some { cls:=.type "tuple",data:=.seq (ds.map fun(i:Nat)=>rawInt i).toArray }
theorem Gr {i d:Nat}{ds:List Nat}{v:Value}{Q:Option Value->Shared->Prop}(hI:eU s.heap I (.ref T) i S es.size ep)(hS:gG s.heap S es ep t)(hT:TupAt s.heap T ds)(hf:t.fits es.size=true)
  (hd:ds[i]?=some d) (hv:(es[d]?).map (·.2)=some v) (hne:S≠I)
  (hQ:∀h',eU h' I (.ref T) (i+1) S es.size ep->Heap.SameBut I s.heap h'->Q (some v) { s with heap:=h' }):wpAny (model prog w) A (pyNext (.ref I)) Q E s:=by
 unfold pyNext;refine wpAny_bind (wpAny_attempt (wpAny_callSpecial?_slot (name:=Str.ofString "__next__") hI.ty cG (wpAny_call_entry cG hI.ty jC ?_ (lE _))));show wpAny _ _ (fieldsOf (.ref I) >>= _) _ _ s;refine wpAny_bind (wpAny_fieldsOf hI rfl (wpAny_bind (jt hS hf ?_)));rw[if_neg (by simp)];dsimp only;refine wpAny_bind (wpAny_seqItems hT rfl ?_);dsimp only;have hg:(ds.map fun(i:Nat)=>rawInt i).toArray[(i:Int).toNat]?=some (.int (d:Int) 0):=by
  rw[toNat_natCast,getElem?_toArray,getElem?_map,hd];rfl
 rw[hg];dsimp only;unfold setNextDrawn;refine wpAny_bind (wpAny_bind (lV hS hf ?_));dsimp only;rw[if_neg (by simp)];obtain⟨⟨hh,x⟩,he,rfl⟩:=map_eq_some_iff.mp hv;rw[toNat_natCast,he];dsimp only;refine wpAny_pure ?_;refine wpAny_bind (wpAny_setField_rec hI (by simp) fun h1 g1 b1=>?_);exact wpAny_pure ⟨_,rfl,wpAny_pure (hQ h1 g1 b1)⟩
theorem Ko {i:Nat}{ds:List Nat}{Q:Option Value->Shared->Prop}(hh:A.handled=none)(hI:eU s.heap I (.ref T) i S es.size ep)(hS:gG s.heap S es ep t)(hT:TupAt s.heap T ds)(hf:t.fits es.size=true)
  (hd:ds[i]?=none) (hQ:∀h',(∀c o,c≠I->s.heap.get? c=some o->h'.get? c=some o)->Q none { s with heap:=h' }):wpAny (model prog w) A (pyNext (.ref I)) Q E s:=by
 unfold pyNext;refine wpAny_bind (wpAny_attempt (wpAny_callSpecial?_slot (name:=Str.ofString "__next__") hI.ty cG (wpAny_call_entry cG hI.ty jC ?_ (lE _))));show wpAny _ _ (fieldsOf (.ref I) >>= _) _ _ s;refine wpAny_bind (wpAny_fieldsOf hI rfl (wpAny_bind (jt hS hf ?_)));rw[if_neg (by simp)];dsimp only;refine wpAny_bind (wpAny_seqItems hT rfl ?_);dsimp only;have hg:(ds.map fun(i:Nat)=>rawInt i).toArray[(i:Int).toNat]?=none:=by
  rw[toNat_natCast,getElem?_toArray,getElem?_map,hd];rfl
 rw[hg];dsimp only;refine wpAny_bind (wpAny_setField_rec hI (by simp) fun h1 g1 b1=>?_);refine wpAny_bind (wpAny_setField_rec (s:={ s with heap:=h1 }) g1 (by simp) fun h2 g2 b2=>?_);refine G6 (s:={ s with heap:=h2 }) (by simpa using hh) fun h3 e k3 ty=>wpAny_bind (wpAny_isInstance ty isSubtype_stop (wpAny_pure (hQ h3 fun c o hc x=>BX (b1.trans b2) k3 c o hc x)))
theorem Ho {first:Value}{i n:Nat}{Q:Value->Shared->Prop}(hI:eU s.heap I first i S n ep)(h:Q (.ref I) s):wpAny (model prog w) A (pyIter (.ref I)) Q E s:=by
 refine wpAny_pyIter_slot hI.ty ur (wpAny_call_entry ur hI.ty Ds ?_ (GJ _));show wpAny _ _ (ret (.ref I)) _ _ s;exact wpAny_pure ⟨_,rfl, "set_iterator",_,hI.ty,cG.lookup,h⟩
theorem Mt {Q:Value->Shared->Prop}(hh:A.handled=none)(hS:gG s.heap S es ep t)(hf:t.fits es.size=true)(ht:TOk (!bt w) t)(hz:es.size<=sizeLine)
  (h:∀(s':Shared)(I:Addr)(fp:List Addr)(vs:List Value)(St:Nat->Shared->Prop),(∀c o,s.heap.get? c=some o->s'.heap.get? c=some o)->s'.gens=s.gens->s'.os=s.os->s'.toks=s.toks->vs.Perm (es.toList.map (·.2))->I=s'.heap.objs.size-1->s.heap.objs.size<=I->I<s'.heap.objs.size ->
   (∀A':Around,A'.handled=none->WalksS prog w A' I fp [I] (fun a b=>b=a) vs.length (fun i v=>vs[i]?=some v) St)->St 0 s'->(∀b∈fp,b<s'.heap.objs.size/\(b=S\/s.heap.objs.size<=b))->Q (.ref I) s') :
  wpAny (model prog w) A (pyIter (.ref S)) Q E s:=by
 obtain⟨o,ho,hx,hd⟩:=id hS;have hty:s.TypeIs (.ref S) "set" := ⟨o,ho,hx.1⟩;have lt:S<s.heap.objs.size:=lt_size ho;refine wpAny_pyIter_slot hty F.slot_set_iter (wpAny_call_entry F.slot_set_iter hty Dt ?_ (F.args_set_iter_1 _));unfold Builtin.«frozenset.__iter__»;show wpAny _ _ (Builtin.Frozenset.sizeOf S >>= _) _ _ s;unfold Builtin.Frozenset.sizeOf;refine wpAny_bind (wpAny_bind (jt hS hf (wpAny_pure ?_)));unfold setDrawn setsByText;refine wpAny_bind (wpAny_bind (lV hS hf ?_));dsimp only;refine wpAny_bind (wpAny_bind (wpAny_askSetting (wpAny_pure (wpAny_pure ?_))));show wpAny _ _ (if (!bt w&&(!t.plain&&decide (es.size>1)))=true then _ else _) _ _ _;have arith:∀{n m:Nat},m=n+1->n=m-1:=by intros;omega
 by_cases hc:(!bt w&&(!t.plain&&decide (es.size>1)))=true
 ·rw[if_pos hc];refine wpAny_bind (Vv es.size (List.range es.size) _ (length_range) fun ds d hp=>?_);have hdl:ds.length=es.size:=by rw[hp.length_eq,length_range]
  refine wpAny_bind (wpAny_newTuple ?_ (by rw[length_map,hdl];exact hz));have hS1:gG (s.heap.push { cls:=.type "tuple",data:=.seq (ds.map fun(i:Nat)=>rawInt i).toArray }) S es ep t:=hS.get fun o e=>get?_push_of_some _ e;have hT1:TupAt (s.heap.push { cls:=.type "tuple",data:=.seq (ds.map fun(i:Nat)=>rawInt i).toArray }) s.heap.objs.size ds:=get?_push_size _ rfl;have hz1:(s.heap.push { cls:=.type "tuple",data:=.seq (ds.map fun(i:Nat)=>rawInt i).toArray }).objs.size=s.heap.objs.size+1:=size_push ..;have hk1:∀c o,s.heap.get? c=some o->(s.heap.push { cls:=.type "tuple",data:=.seq (ds.map fun(i:Nat)=>rawInt i).toArray }).get? c=some o:=fun c o e=>get?_push_of_some _ e;generalize s.heap.push { cls:=.type "tuple",data:=.seq (ds.map fun(i:Nat)=>rawInt i).toArray }=h1 at hS1 hT1 hz1 hk1 |-;refine wpAny_bind (Dr (s:={ s with drawn:=d,heap:=h1 }) hS1 hf (wpAny_bind (wpAny_newObj_type ?_)));have hI:eU (h1.push { cls:=.type "set_iterator",data:=.fields #[.ref s.heap.objs.size,.int (0:Nat) 0,.ref S,.int (es.size:Nat) 0,.int (ep:Nat) 0] }) h1.objs.size (.ref s.heap.objs.size) 0 S es.size ep:=get?_push_size _ rfl;refine wpAny_pure ⟨_,rfl, "set_iterator",_,⟨_,hI,rfl⟩,cG.lookup,?_⟩;have hz2:(h1.push { cls:=.type "set_iterator",data:=.fields #[.ref s.heap.objs.size,.int (0:Nat) 0,.ref S,.int (es.size:Nat) 0,.int (ep:Nat) 0] }).objs.size=h1.objs.size+1:=size_push ..;have hk2:∀c o,h1.get? c=some o->(h1.push { cls:=.type "set_iterator",data:=.fields #[.ref s.heap.objs.size,.int (0:Nat) 0,.ref S,.int (es.size:Nat) 0,.int (ep:Nat) 0] }).get? c=some o:=fun c o e=>get?_push_of_some _ e;show Q (.ref h1.objs.size) { s with drawn:=d,heap:=h1.push { cls:=.type "set_iterator",data:=.fields #[.ref s.heap.objs.size,.int (0:Nat) 0,.ref S,.int (es.size:Nat) 0,.int (ep:Nat) 0] } };generalize h1.push { cls:=.type "set_iterator",data:=.fields #[.ref s.heap.objs.size,.int (0:Nat) 0,.ref S,.int (es.size:Nat) 0,.int (ep:Nat) 0] }=h2 at hI hz2 hk2 |-;have n1:S≠h1.objs.size:=by rw[hz1];exact ne_of_lt (lt_succ_of_lt lt)
  have n2:s.heap.objs.size≠h1.objs.size:=by rw[hz1];exact ne_of_lt (lt_succ_self _)
  have hmem:∀i d:Nat,ds[i]?=some d->∃x:Value,(es[d]?).map (fun(e:Int×Value)=>e.2)=some x/\(ds.map fun d=>(es.toList.map (·.2)).getD d .none)[i]?=some x:=by
   intro i d hi;have:d<es.size:=by have:=hp.mem_iff.mp (mem_of_getElem? hi);simpa using this
   refine⟨es[d].2,by simp [this],?_⟩;rw[getElem?_map,hi];simp [this]
  refine h { s with drawn:=d,heap:=h2 } h1.objs.size [h1.objs.size,S,s.heap.objs.size] (ds.map fun d=>(es.toList.map (·.2)).getD d .none)
   (fun i s'=>eU s'.heap h1.objs.size (.ref s.heap.objs.size) i S es.size ep/\gG s'.heap S es ep t/\TupAt s'.heap s.heap.objs.size ds)
   (fun c o e=>hk2 c o (hk1 c o e)) rfl rfl rfl ?_ (arith hz2) (by rw[hz1];exact le_succ _) (by show h1.objs.size<h2.objs.size;rw[hz2];exact lt_succ_self _) (fun A' hh'=>?_) ⟨hI,hS1.get (hk2 S),hk2 _ _ hT1⟩ ?_
  ·have e:(List.range es.size).map (fun d=>(es.toList.map (·.2)).getD d .none)=es.toList.map (·.2):=by
    refine ext_getElem (by simp) fun i h1 h2=>?_;simp at h1 h2;simp [h2]
   exact(hp.map fun d=>(es.toList.map fun(x:Int×Value)=>x.2).getD d Value.none).trans (List.Perm.of_eq e)
  ·have hlen:(ds.map fun d=>(es.toList.map (·.2)).getD d .none).length=ds.length:=length_map _;exact {
    sub:=fun b hb=>by simp at hb;simp [hb]
    grefl:=fun _=>rfl
    gtrans:=fun a b c e f=>f.trans e
    frame:=fun i s1 h' tk st _ hk=>⟨st.1.get fun o e=>hk _ (by simp) o e,st.2.1.get fun o e=>hk _ (by simp) o e,hk _ (by simp) _ st.2.2⟩
    item:=fun i s1 Q1 E1 hi st hQ1=>by
     rw[hlen] at hi;obtain⟨x,e1,e2⟩:=hmem i ds[i] (getElem?_eq_getElem hi);refine Gr st.1 st.2.1 st.2.2 hf (getElem?_eq_getElem hi) e1 n1 fun h' i' b'=>?_;exact hQ1 x { s1 with heap:=h' } e2 ⟨i',st.2.1.get fun o e=>b'.extBut _ o n1 e,b'.extBut _ _ n2 st.2.2⟩ ⟨fun b o hb e=>b'.extBut b o (fun z=>hb (by simp [z])) e,rfl,rfl,rfl,le_refl _⟩
    done:=fun s1 Q1 E1 st hQ1=>by
     refine Ko hh' st.1 st.2.1 st.2.2 hf (by rw[hlen];simp) fun h' k'=>?_;exact hQ1 { s1 with heap:=h' } ⟨fun b o hb e=>k' b o (fun z=>hb (by simp [z])) e,rfl,rfl,rfl,le_refl _⟩
    self:=fun i s1 Q1 E1 st hQ1=>Ho st.1 hQ1 }
  intro b hb;show b<h2.objs.size/\_;have l0:=lt_succ_of_lt lt;simp only[mem_cons,not_mem_nil,or_false] at hb;rw[hz2,hz1];rcases hb with rfl|rfl|rfl
  ·rw[hz1];exact⟨lt_succ_self _,.inr (le_succ _)⟩
  ·exact⟨lt_succ_of_lt l0,.inl rfl⟩
  exact⟨lt_succ_of_lt (lt_succ_self _),.inr (le_refl _)⟩
 rw[if_neg hc];obtain⟨vs,sl,sl0,hp,hn⟩:=UG (prog:=prog) (w:=w) (S:=S) (ep:=ep) hf ht (by
  cases hb:bt w with
  | true=>exact .inl rfl
  | false=>rw[hb] at hc;exact .inr (by simpa using hc))
 refine wpAny_bind (wpAny_pure (wpAny_bind (Dr hS hf (wpAny_bind (wpAny_newObj_type ?_)))));have hI:eU (s.heap.push { cls:=.type "set_iterator",data:=.fields #[.int (0:Nat) 0,.int (0:Nat) 0,.ref S,.int (es.size:Nat) 0,.int (ep:Nat) 0] }) s.heap.objs.size (.int (sl 0) 0) 0 S es.size ep:=by rw[sl0];exact get?_push_size _ rfl
 refine wpAny_pure ⟨_,rfl, "set_iterator",_,⟨_,hI,rfl⟩,cG.lookup,?_⟩;have hz2:(s.heap.push { cls:=.type "set_iterator",data:=.fields #[.int (0:Nat) 0,.int (0:Nat) 0,.ref S,.int (es.size:Nat) 0,.int (ep:Nat) 0] }).objs.size=s.heap.objs.size+1:=size_push ..;have hk2:∀c o,s.heap.get? c=some o->(s.heap.push { cls:=.type "set_iterator",data:=.fields #[.int (0:Nat) 0,.int (0:Nat) 0,.ref S,.int (es.size:Nat) 0,.int (ep:Nat) 0] }).get? c=some o:=fun c o e=>get?_push_of_some _ e;show Q (.ref s.heap.objs.size) { s with heap:=s.heap.push { cls:=.type "set_iterator",data:=.fields #[.int (0:Nat) 0,.int (0:Nat) 0,.ref S,.int (es.size:Nat) 0,.int (ep:Nat) 0] } };generalize s.heap.push { cls:=.type "set_iterator",data:=.fields #[.int (0:Nat) 0,.int (0:Nat) 0,.ref S,.int (es.size:Nat) 0,.int (ep:Nat) 0] }=h2 at hI hz2 hk2 |-;have n1:S≠s.heap.objs.size:=ne_of_lt lt;refine h { s with heap:=h2 } s.heap.objs.size [s.heap.objs.size,S] vs (fun i s'=>eU s'.heap s.heap.objs.size (.int (sl i) 0) i S es.size ep/\gG s'.heap S es ep t)
  (fun c o e=>hk2 c o e) rfl rfl rfl hp (arith hz2) (le_refl _) (by show s.heap.objs.size<h2.objs.size;rw[hz2];exact lt_succ_self _) (fun A' hh'=>?_) ⟨hI,hS.get (hk2 S)⟩ ?_
 ·exact {
   sub:=fun b hb=>by simp at hb;simp [hb]
   grefl:=fun _=>rfl
   gtrans:=fun a b c e f=>f.trans e
   frame:=fun i s1 h' tk st _ hk=>⟨st.1.get fun o e=>hk _ (by simp) o e,st.2.get fun o e=>hk _ (by simp) o e⟩
   item:=fun i s1 Q1 E1 hi st hQ1=>by
    have hv:vs[i]?=some vs[i]:=getElem?_eq_getElem hi;refine next_item (n:=0) st.1 st.2 hf (v:=vs[i]) (sl:=sl (i+1)) (fun s2 A2 E2 Q2 st2 hQ2=>hn i s2 A2 E2 Q2 (le_of_lt hi) st2 (by rw[hv];exact hQ2)) n1 fun h' i' b'=>?_;exact hQ1 vs[i] { s1 with heap:=h' } hv ⟨i',st.2.get fun o e=>b'.extBut _ o n1 e⟩ ⟨fun b o hb e=>b'.extBut b o (fun z=>hb (by simp [z])) e,rfl,rfl,rfl,le_refl _⟩
   done:=fun s1 Q1 E1 st hQ1=>by
    have hv:vs[vs.length]?=none:=by simp
    refine next_end hh' st.1 st.2 hf (fun s2 A2 E2 Q2 st2 hQ2=>hn vs.length s2 A2 E2 Q2 (le_refl _) st2 (by rw[hv];exact hQ2)) fun h' k'=>?_;exact hQ1 { s1 with heap:=h' } ⟨fun b o hb e=>k' b o (fun z=>hb (by simp [z])) e,rfl,rfl,rfl,le_refl _⟩
   self:=fun i s1 Q1 E1 st hQ1=>Ho st.1 hQ1 }
 intro b hb;show b<h2.objs.size/\_;rw[hz2];simp only[mem_cons,not_mem_nil,or_false] at hb;rcases hb with rfl|rfl
 ·exact⟨lt_succ_self _,.inr (le_refl _)⟩
 exact⟨lt_succ_of_lt lt,.inl rfl⟩
end
end SRT
namespace SRT
open PySem PyProof.Rows
noncomputable def Vl:Bool->Keyed->Array Keyed->Nat->Nat->Nat->StateT SortSt Sem (Option Nat):=sortPriv% PySem.Builtin.gallop
noncomputable def Pj:Array Keyed->Array Keyed->StateT SortSt Sem (Array Keyed):=sortPriv% PySem.Builtin.mergeLo
noncomputable def Pn:Array Keyed->Array Keyed->StateT SortSt Sem (Array Keyed):=sortPriv% PySem.Builtin.mergeHi
section
variable {prog:Program}{w:World}{s:Shared}{A:Around}{E:Value->Shared->Prop}
theorem bh {st:SortSt}{xs:Array Keyed}{i:Nat}{Q:Keyed->SortSt->Prop}(hi:i<xs.size)(h:∀p,xs[i]?=some p->Q p st):wpS (model prog w) A E s (elem' xs i) Q st:=by
 rw[elem'_eq];have e:xs[i]?=some xs[i]:=getElem?_pos xs i hi;rw[e];exact wpS_pure (h _ e)
end
end SRT
namespace SRT
open PySem PyProof.Rows
noncomputable abbrev jx (st:SortSt)(g:Nat):SortSt:=SortSt.mk' (kindOf st) (arrOf st) (pendingOf st) g (failedOf st)
section
variable {prog:Program}{w:World}{s:Shared}{A:Around}{E:Value->Shared->Prop}
noncomputable def cY (a b out:Array Keyed)(i j:Nat):List Keyed:=out.toList++(a.toList.drop i++b.toList.drop j)
theorem U5 {a b out:Array Keyed}{i j:Nat}:(out++a.extract i a.size++b.extract j b.size).toList=cY a b out i j:=by
 unfold cY;simp [take_of_length_le]
theorem U4 {a b out:Array Keyed}{i j:Nat}:(out++b.extract j b.size++a.extract i a.size).toList.Perm (cY a b out i j):=by
 unfold cY;simp [take_of_length_le];exact List.Perm.append_left _ perm_append_comm
theorem Py {a b out:Array Keyed}{i j:Nat}{p:Keyed}(h:a[i]?=some p):(cY a b (out.push p) (i+1) j).Perm (cY a b out i j):=by
 unfold cY;have hi:i<a.toList.length:=by
  have:=(Array.getElem?_eq_some_iff.mp h).1;simpa using this
 have e:a.toList.drop i=p::a.toList.drop (i+1):=by
  rw[drop_eq_getElem_cons hi];have:=(Array.getElem?_eq_some_iff.mp h).2;simp [this]
 rw[e];simp
theorem Px {a b out:Array Keyed}{i j:Nat}{p:Keyed}(h:b[j]?=some p):(cY a b (out.push p) i (j+1)).Perm (cY a b out i j):=by
 unfold cY;have hi:j<b.toList.length:=by
  have:=(Array.getElem?_eq_some_iff.mp h).1;simpa using this
 have e:b.toList.drop j=p::b.toList.drop (j+1):=by
  rw[drop_eq_getElem_cons hi];have:=(Array.getElem?_eq_some_iff.mp h).2;simp [this]
 rw[e];simp;exact List.Perm.append_left _ List.perm_middle.symm
theorem U3 {a b out:Array Keyed}{i j k:Nat}:(cY a b (out++a.extract i (i+k)) (i+k) j).Perm (cY a b out i j):=by
 unfold cY;have e:a.toList.drop i=(a.extract i (i+k)).toList++a.toList.drop (i+k):=by
  rw[toList_extract];rw[show i+k=i+k from rfl];simp [List.extract,<- drop_drop]
 rw[e];simp
theorem U0 {a b out:Array Keyed}{i j k:Nat}:(cY a b (out++b.extract j (j+k)) i (j+k)).Perm (cY a b out i j):=by
 unfold cY;have e:b.toList.drop j=(b.extract j (j+k)).toList++b.toList.drop (j+k):=by
  rw[toList_extract];simp [List.extract,<- drop_drop]
 rw[e];simp only[toList_append,append_assoc];refine(List.Perm.append_left _ ?_);rw[<- append_assoc];rw[<- append_assoc];exact(List.Perm.append_right _ perm_append_comm)
end
end SRT
namespace SRT
open PySem PyProof.Rows
section
variable {prog:Program}{w:World}{s:Shared}{A:Around}{E:Value->Shared->Prop}
noncomputable def gK (a b out:Array Keyed)(i j:Nat):List Keyed:=(a.toList.take i++b.toList.take j)++out.toList
theorem Vi {a b out:Array Keyed}{i j:Nat}:(a.extract 0 i++b.extract 0 j++out.reverse).toList.Perm (gK a b out i j):=by
 unfold gK;simp;exact List.Perm.append_left _ (List.Perm.append_left _ (reverse_perm _))
theorem Qm {a b out:Array Keyed}{i j:Nat}:(b.extract 0 j++a.extract 0 i++out.reverse).toList.Perm (gK a b out i j):=by
 unfold gK;simp;rw[<- append_assoc];rw[<- append_assoc];exact List.Perm.append perm_append_comm (reverse_perm _)
theorem Bx {xs:List Keyed}{x i:Nat}(h:x<=i):xs.take i=xs.take x++(xs.drop x).take (i-x):=by
 conv=>lhs;rw[show i=x+(i-x) by omega,List.take_add]
theorem Vh {a b out:Array Keyed}{i j x:Nat}(h:x<=i):(gK a b (out++(a.extract x i).reverse) x j).Perm (gK a b out i j):=by
 unfold gK;rw[Bx (xs:=a.toList) h];simp [List.extract];refine(List.Perm.append_left _ ?_);rw[<- append_assoc];refine(perm_append_comm (l₁:=List.take j b.toList++out.toList)).trans ?_;exact List.Perm.append_right _ (reverse_perm _)
theorem Vg {a b out:Array Keyed}{i j x:Nat}(h:x<=j):(gK a b (out++(b.extract x j).reverse) i x).Perm (gK a b out i j):=by
 unfold gK;rw[Bx (xs:=b.toList) h];simp [List.extract];refine List.Perm.append_left _ (List.Perm.append_left _ ?_);exact perm_append_comm.trans (List.Perm.append_right _ (reverse_perm _))
theorem Ik {a:Array Keyed}{i:Nat}{p:Keyed}(h:a[i]?=some p):(a.extract i (i+1)).reverse=#[p]:=by
 have:=(Array.getElem?_eq_some_iff.mp h);obtain⟨h1,h2⟩:=this;apply Array.ext';simp [List.extract];rw[drop_eq_getElem_cons (by simpa using h1)];simp [h2]
end
end SRT
namespace SRT
open PySem PyProof.Rows
noncomputable def Chain:List (Nat×Nat×Nat)->Nat->Nat->Prop
 | [],a,b=>a=b
 | (p,n,_)::t,a,b=>p=a/\1<=n/\Chain t (a+n) b
theorem Chain.le:∀{l:List (Nat×Nat×Nat)}{a b:Nat},Chain l a b->a<=b
 | [],_,_,h=>le_of_eq h
 | (_,n,_)::_,a,_,⟨_,_,h⟩=>le_trans (Nat.le_add_right a n) h.le
theorem Chain.two:∀{pre post:List (Nat×Nat×Nat)}{sa na w sb nb v a b:Nat},Chain (pre++(sa,na,w)::(sb,nb,v)::post) a b ->
  sb=sa+na/\1<=na/\1<=nb/\sb+nb<=b/\Chain (pre++(sa,na+nb,w)::post) a b
 | [],post,sa,na,w,sb,nb,v,a,b,⟨h1,h2,h3,h4,h5⟩=>by
  have:=h5.le;refine⟨ω,h2,h4,ω,h1,ω,?_⟩;rw[<- Nat.add_assoc];exact h5
 | (_,_,_)::pre,post,sa,na,w,sb,nb,v,a,b,⟨h1,h2,h3⟩=>by
  obtain⟨k1,k2,k3,k4,k5⟩:=Chain.two h3;exact⟨k1,k2,k3,k4,h1,h2,k5⟩
theorem Chain.snoc:∀{l:List (Nat×Nat×Nat)}{a b n w:Nat},Chain l a b->1<=n->Chain (l++[(b,n,w)]) a (b+n)
 | [],a,b,n,w,h,h1=>by cases h;exact⟨rfl,h1,rfl⟩
 | (_,_,_)::t,a,b,n,w,⟨k1,k2,k3⟩,h1=>⟨k1,k2,k3.snoc h1⟩
theorem Chain.Cd:∀{l:List (Nat×Nat×Nat)}{a b p n w v:Nat},Chain (l++[(p,n,w)]) a b->Chain (l++[(p,n,v)]) a b
 | [],a,b,p,n,w,v,h=>h
 | (_,_,_)::t,a,b,p,n,w,v,⟨k1,k2,k3⟩=>⟨k1,k2,k3.Cd⟩
theorem zT:∀(m:List Keyed)(k:Nat)(l1 l2 l3:List Keyed)(sa:Nat),l1.length=sa+k->l2.length=m.length->∀a:Array Keyed,a.toList=l1++(l2++l3) ->
  ((m.zipIdx k).foldl (fun a (x:Keyed×Nat)=>a.setIfInBounds (sa+x.2) x.1) a).toList=l1++(m++l3)
 | [],k,l1,l2,l3,sa,h1,h2,a,ha=>by
  have:l2=[]:=List.eq_nil_of_length_eq_zero h2;subst this;exact ha
 | x::m,k,l1,[],l3,sa,h1,h2,a,ha=>by cases h2
 | x::m,k,l1,y::l2,l3,sa,h1,h2,a,ha=>by
  rw[List.zipIdx_cons,List.foldl_cons];have h2':l2.length=m.length:=by simpa using h2
  have:=zT m (k+1) (l1++[x]) l2 l3 sa (by simp;omega) h2' (a.setIfInBounds (sa+k) x) (by
   rw[Array.toList_setIfInBounds,ha,List.set_append_right _ _ ω,h1,sub_self];simp)
  rw[this];simp
theorem Nz {a m:Array Keyed}{sa sb e:Nat}(h1:sa<=sb)(h2:sb<=e)(h3:e<=a.size)(hm:m.toList.Perm ((a.extract sa sb).toList++(a.extract sb e).toList)) :
  (m.toList.zipIdx.foldl (fun a (x:Keyed×Nat)=>a.setIfInBounds (sa+x.2) x.1) a).toList.Perm a.toList:=by
 have ea:a.toList=a.toList.take sa++(((a.extract sa sb).toList++(a.extract sb e).toList)++a.toList.drop e):=by
  apply List.ext_getElem?;intro i;simp only[toList_extract,List.extract_eq_take_drop,List.getElem?_append,List.getElem?_take,List.getElem?_drop,length_take,length_append,length_drop,length_toList];split
  ·rw[if_pos ω]
  split
  ·split
   ·rw[if_pos ω];congr 1;omega
   rw[if_pos ω];congr 1;omega
  congr 1;omega
 have:=zT m.toList 0 (a.toList.take sa) _ (a.toList.drop e) sa (by simp;omega) hm.length_eq.symm a ea;rw[this]
 conv=>rhs;rw[ea]
 exact List.Perm.append_left _ (List.Perm.append_right _ hm)
section
variable {prog:Program}{w:World}{s:Shared}{A:Around}{E:Value->Shared->Prop}{a₀:Array Keyed}
structure MB (a₀:Array Keyed)(st:SortSt):Prop where
 kind:kindOf st=oneType'
 perm:(arrOf st).toList.Perm a₀.toList
 fail:failedOf st=none
theorem Rz {σ:Type}{x st:σ}{Q:PUnit->σ->Prop}(h:Q ⟨⟩ x):wpS (model prog w) A E s (set x:StateT σ Sem PUnit) Q st:=by
 unfold wpS;rw[StateT.run_set];exact wpAny_pure ⟨rfl,h⟩
theorem w6 {σ:Type}{st:σ}{b:Bool}{Q:Bool->σ->Prop}(hb:b=true)(h:Q true st):wpS (model prog w) A E s (pure b:StateT σ Sem Bool) Q st:=by
 subst hb;exact wpS_pure h
end
end SRT
namespace SRT
open PySem PyProof.Rows
end SRT
namespace SRT
open PySem PyProof.Rows
section
variable {prog:Program}{w:World}{s:Shared}{A:Around}{E:Value->Shared->Prop}{a₀:Array Keyed}{pd:Array (Nat×Nat×Nat)}
theorem Yw:∀(l:List (Nat×Nat×Nat)) (i:Nat),i+1<l.length->∃pre x y post,l=pre++x::y::post/\pre.length=i
 | [],i,h=>by simp at h
 | [x],i,h=>by simp at h
 | x::y::t,0,h=>⟨[],x,y,t,rfl,rfl⟩
 | x::y::t,i+1,h=>by
  obtain⟨pre,u,v,post,e,hl⟩:=Yw (y::t) i (by simpa using h);exact⟨x::pre,u,v,post,by rw[e];rfl,by simp [hl]⟩
theorem R6:∀(l:List (Nat×Nat×Nat)),l≠[]->∃t p n v,l=t++[(p,n,v)]
 | l,h=>⟨l.dropLast,(l.getLast h).1,(l.getLast h).2.1,(l.getLast h).2.2,(List.dropLast_concat_getLast h).symm⟩
theorem sE {α:Type}(f:α->α)(x:α):∀t:List α,(t++[x]).modify t.length f=t++[f x]
 | []=>rfl
 | y::t=>congrArg (y :: ·) (sE f x t)
theorem Yj {c:Prop}[Decidable c]{n:Nat}(h:¬n<=1):(if c then n-2-1 else n-2)+1<n:=by split <;> omega
theorem Jb (a:Array (Nat×Nat×Nat))(i:Nat)(h:i<a.size):∃x y z,a[i]?=some (x,y,z):=⟨a[i].1,a[i].2.1,a[i].2.2,by rw[getElem?_pos a i h]⟩
theorem yX {σ α:Type}{c:Prop}[Decidable c]{m n:StateT σ Sem α}{st:σ}{Q:α->σ->Prop}(h1:c->wpS (model prog w) A E s m Q st)(h2:¬c->wpS (model prog w) A E s n Q st):wpS (model prog w) A E s (if c then m else n) Q st:=by
 by_cases h:c
 ·rw[if_pos h];exact h1 h
 rw[if_neg h];exact h2 h
end
end SRT
namespace SRT
open PySem PyProof.Rows
section
variable {prog:Program}{w:World}{s:Shared}{A:Around}{E:Value->Shared->Prop}
theorem nF (vs:List Value):((pairsOf vs).map (·.2)).toList=vs:=by
 unfold pairsOf;simp [List.map_snd_zip]
end
end SRT
namespace SRT
open PySem PyProof.Rows
theorem yH {vs xs:List Value}(hp:xs.Perm vs):∀{ns:List Int},IntsAre vs ns->∃ns',IntsAre xs ns'/\ns'.Perm ns:=by
 induction hp with
 | nil=>intro ns h;exact⟨ns,h,List.Perm.refl _⟩
 | cons x _ ih=>
  intro ns h;cases h with
  | cons n t h=>
   obtain⟨ns',h1,h2⟩:=ih h;exact⟨n::ns',.cons n t h1,h2.cons n⟩
 | swap x y l=>
  intro ns h;cases h with
  | cons n t h=>
   cases h with
   | cons m u h=>exact⟨m::n::_,.cons m u (.cons n t h),List.Perm.swap _ _ _⟩
 | trans _ _ ih1 ih2=>
  intro ns h;obtain⟨n1,a1,b1⟩:=ih2 h;obtain⟨n2,a2,b2⟩:=ih1 a1;exact⟨n2,a2,b2.trans b1⟩
theorem oA {α:Type}[DecidableEq α]:∀{l ks:List α},l.Nodup->(∀x∈l,x∈ks)->ks.length=l.length->ks.Perm l
 | [],ks,_,_,h=>by rw[length_eq_zero_iff.mp h]
 | x::l,ks,hn,hs,hl=>by
  obtain⟨h1,h2⟩:=nodup_cons.mp hn;have hx:x∈ks:=hs x (mem_cons_self ..);refine(List.perm_cons_erase hx).trans (List.Perm.cons _ (oA h2 (fun y hy=>?_) ?_))
  ·have:y≠x:=fun e=>h1 (e ▸ hy);exact(List.mem_erase_of_ne this).mpr (hs y (mem_cons_of_mem _ hy))
  rw[List.length_erase_of_mem hx,hl];rfl
theorem m5 (val:Nat->Int):∀i,(firstMet val i).Nodup
 | 0=>List.nodup_nil
 | i+1=>by
  rw[firstMet_succ];unfold step_dedup;have ih:=m5 val i;split
  ·exact ih
  rename_i h;rw[nodup_append];refine⟨ih,by simp,fun a ha b hb e=>?_⟩;simp only[mem_singleton] at hb;exact h (List.any_eq_true.mpr ⟨a,ha,by simp [e,hb]⟩)
noncomputable def ded (ns:List Int):List Int:=firstMet (fun i=>ns.getD i 0) ns.length
theorem Kp (ns:List Int):(ded ns).Nodup:=m5 _ _
theorem Io (ns:List Int):(ded ns).length<=ns.length:=firstMet_length_le _ _
theorem Vw {ns:List Int}{k:Int}:k∈ded ns↔k∈ns:=by
 have e:=firstMet_any (fun i=>ns.getD i 0) ns.length k;have hr:(List.range ns.length).map (fun i=>ns.getD i 0)=ns:=by
  refine ext_getElem (by simp) fun i h1 h2=>?_;simp at h1 h2;simp [h2]
 rw[hr] at e;have a1:∀l:List Int,l.any (· == k)=true↔k∈l:=fun l=>by simp
 rw[<- a1,<- a1];unfold ded;rw[e]
section
variable {prog:Program}{w:World}{A:Around}{E:Value->Shared->Prop}{s:Shared}{S:Addr}{es:Array (Int×Value)}{ep:Nat}{t:SetTable}
theorem vQ:∀{l:List (Int×Value)},ElemsOf (intKind prog w) l->∃ks:List Int,IntsAre (l.map (·.2)) ks/\∀k,k∈ks ↔ ∃e∈l,(intKind prog w).is k e.2=true
 | [],_=>⟨[],.nil,fun k=>by simp⟩
 | (h,v)::l,he=>by
  obtain⟨⟨k,hk,_⟩,_⟩:=he.head;obtain⟨tk,e⟩:=Value.isInt_shape hk;dsimp only at e hk;subst e;obtain⟨ks,h1,h2⟩:=vQ he.tail;refine⟨k::ks,.cons k tk h1,fun j=>?_⟩;rw[mem_cons,h2];constructor
  ·rintro(rfl|⟨e,a,b⟩)
   ·exact⟨_,mem_cons_self ..,hk⟩
   exact⟨e,mem_cons_of_mem _ a,b⟩
  rintro⟨e,a,b⟩;rcases mem_cons.mp a with rfl|a
  ·exact .inl ((intKind prog w).inj _ _ _ b hk)
  exact .inr ⟨e,a,b⟩
theorem Qf {vs:List Value}{acc:Array Value}(h:ItemsOf (fun i v=>vs[i]?=some v) acc vs.length):acc.toList=vs:=by
 refine ext_getElem (by simpa using h.1) fun i h1 h2=>?_;have:vs[i]?=some acc[i]:=h.2 i acc[i] (by simp);rw[getElem?_eq_getElem h2] at this;simpa using this.symm
theorem Du {Q:List Value->Shared->Prop}(hh:A.handled=none)(hS:gG s.heap S es ep t)(hf:t.fits es.size=true)(ht:TOk (!bt w) t)(hz:es.size<=sizeLine)
  (hQ:∀(s':Shared)(vs:List Value),vs.Perm (es.toList.map (·.2))->(∀c o,s.heap.get? c=some o->s'.heap.get? c=some o)->s'.gens=s.gens->s'.os=s.os->s.heap.objs.size<=s'.heap.objs.size->Q vs s') :
  wpAny (model prog w) A (collect (.ref S)) Q E s:=by
 obtain⟨o,ho,hx,hd⟩:=id hS;have hty:s.TypeIs (.ref S) "set" := ⟨o,ho,hx.1⟩;have lt:S<s.heap.objs.size:=lt_size ho;unfold collect;refine wpAny_bind (wpAny_runValue (codeAny_builtin F.entry_proto_collect ?_));rw[Around.under_plainId F.plain_proto_collect _];show wpAny _ A.in1 (newList [] >>= fun l=>again (.builtin "list.__iadd__" ⟨[l,.ref S],[]⟩)) _ _ s;refine wpAny_bind (wpAny_newObj_type ?_);refine wpAny_pure ⟨plainId_quiet F.plain_list_iadd _,codeAny_builtin F.entry_list_iadd ?_⟩;rw[Around.under_plainId F.plain_list_iadd _];have hS1:gG (s.heap.push { cls:=.type "list",data:=.seq ([]:List Value).toArray }) S es ep t:=hS.get fun o e=>get?_push_of_some _ e;have hL1:(s.heap.push { cls:=.type "list",data:=.seq ([]:List Value).toArray }).get? s.heap.objs.size=some { cls:=.type "list",data:=.seq ([]:List Value).toArray }:=get?_push_size _ rfl;have hk1:∀c o,s.heap.get? c=some o->(s.heap.push { cls:=.type "list",data:=.seq ([]:List Value).toArray }).get? c=some o:=fun c o e=>get?_push_of_some _ e;have hty1:Shared.TypeIs { s with heap:=s.heap.push { cls:=.type "list",data:=.seq ([]:List Value).toArray } } (.ref S) "set" := ⟨o,hk1 _ _ ho,hx.1⟩;generalize s.heap.push { cls:=.type "list",data:=.seq ([]:List Value).toArray }=h1 at hS1 hL1 hk1 hty1 |-;have ne1:s.heap.objs.size≠S:=ne_of_gt lt;show wpAny _ A.in1 (Builtin.List.listExtendWith (.ref s.heap.objs.size) (.ref S) (.ref s.heap.objs.size)) _ _ _;unfold Builtin.List.listExtendWith;refine wpAny_bind (wpAny_typeOf hty1 ?_);have q1:Builtin.List.listSameRef (.ref s.heap.objs.size) (.ref S)=false:=by simp [Builtin.List.listSameRef,ne1]
 rw[if_neg (by rw[q1];decide)];refine wpAny_bind (Mt (s:={ s with heap:=h1 }) hh hS1 hf ht hz fun s2 I fp vs St hk2 hg2 ho2 ht2 hp hI hle hlt W st0 hfp=>?_);have hty2:s2.TypeIs (.ref S) "set" := ⟨o,hk2 _ _ (hk1 _ _ ho),hx.1⟩;refine wpAny_bind (wpAny_holding ?_);unfold Builtin.List.listLengthHint;refine wpAny_bind (wpAny_specialOf hty2 F.slot_set_len.lookup ?_)
 (generalize hid:("set.__len__" : String)=id0;(fail_if_success (clear hid id0));wp_delta;rw[show splitId id0=some ("set","__len__") from by subst hid;decide +kernel];subst hid)
 refine wpAny_bind (wpAny_isInstance (b:=true) hty2 sub_set_self ?_);refine wpAny_ite_false rfl (wpAny_ite_true ψ (wpAny_bind (wpAny_typeOf hty2 (wpAny_pure ?_))));rw[if_pos δ];have hSf:s.heap.objs.size∉fp:=fun z=>by
  have l1:s.heap.objs.size<h1.objs.size:=lt_size hL1;rcases(hfp _ z).2 with e|e
  ·exact ne1 e
  exact lt_irrefl _ (lt_of_lt_of_le l1 e)
 have hL2:=hk2 _ _ hL1;refine wpAny_bind (wpAny_rule (wpAny_bind ?_));show wpAny _ A.in1 (updateSeq s.heap.objs.size (·.push .none) >>= fun _=>updateSeq s.heap.objs.size (·.pop)) _ _ _;refine wpAny_bind (wpAny_updateSeq hL2 rfl ?_);have hL3:=get?_update_self (Obj.mapSeq (·.push Value.none)) hL2 rfl;refine wpAny_updateSeq hL3 rfl ?_;have hL4:=get?_update_self (Obj.mapSeq (·.pop)) hL3 rfl;have oth:∀b o,b≠s.heap.objs.size->s2.heap.get? b=some o->((s2.heap.update s.heap.objs.size (Obj.mapSeq (·.push Value.none))).update s.heap.objs.size (Obj.mapSeq (·.pop))).get? b=some o:=
  fun b o hb e=>(get?_update_other _ _ (Ne.symm hb)).trans ((get?_update_other _ _ (Ne.symm hb)).trans e)
 have W1:=W A.in1 (by simpa using hh);refine wpAny_pure ⟨plainId_quiet F.plain_extend_loop _,codeAny_extend_loopS W1 (by rw[hp.length_eq,length_map,length_toList];exact hz) _ hSf _ vs.length 0 _ _ _ rfl (zero_le _)
  (W1.frame 0 s2 _ s2.toks st0 (le_refl _) fun b hb o e=>oth b o (fun z=>hSf (z ▸ hb)) e) hL4 (ItemsOf.nil _) fun s' acc' c' hm hS' hacc=>?_⟩
 show wpAny _ A (load s.heap.objs.size >>= _) _ _ s';refine wpAny_bind (wpAny_load hS' (wpAny_pure ?_));rw[Qf hacc];have l2:s.heap.objs.size<s'.heap.objs.size:=lt_size hS';refine hQ s' vs hp (fun c o e=>?_) (hm.gens.trans hg2) (hm.os.trans ho2) (le_of_lt l2);have lc:c<s.heap.objs.size:=lt_size e;have nI:c≠I:=fun z=>by
  have l3:s.heap.objs.size<h1.objs.size:=lt_size hL1;have l4:h1.objs.size<=I:=hle;rw[z] at lc;exact lt_irrefl _ (lt_of_lt_of_le (lt_trans lc l3) l4)
 exact hm.heap c o (by simp only[mem_cons,not_mem_nil,or_false,not_or];exact⟨ne_of_lt lc,nI⟩) (oth c o (ne_of_lt lc) (hk2 _ _ (hk1 _ _ e)))
end
end SRT
set_option maxHeartbeats 4000000
namespace L2
open PySem PySem.Spec PyProof.Rows
theorem t7:∀{xs:List Int}{us:List Value},Vals (xs.map V.int) us->IntsAre us xs
 | [],_,h=>by cases h;exact .nil
 | x::xs,_,h=>by
  cases h with
  | cons r h=>
   obtain⟨t,rfl⟩:=r;exact .cons x t (t7 h)
theorem yG:∀{us:List Value}{xs:List Int},IntsAre us xs->Vals (xs.map V.int) us
 | _,_,.nil=>.nil
 | _,_,.cons n t h=>.cons ⟨t,rfl⟩ (yG h)
section
variable {X:Cx}{pins:List (Addr×Obj)}{s:Shared}{σ:St}{H:Hp}
theorem Inv.drawn (I:Inv X pins σ H s)(d:Drawn):Inv X pins σ H { s with drawn:=d }:=
 I.step (g':=s.gens) (d':=d) (t':=s.toks) (h':=s.heap) (ch:=[]) (fun _ z=>nomatch z) (fun b o _ _ _ e _=>e) (fun b o _ _ _ e _=>⟨o.slots,e⟩) (fun _ _ _ _ n=>n) (fun b o _ e=>⟨o,e⟩) (fun _ _ e=>e) (fun _ _ _ e=>e) (fun b ps e=>⟨#[],by rw[e];simp⟩) (fun _ h=>h) I.hok I.bare
end
end L2
set_option maxHeartbeats 8000000
namespace L2
open PySem PySem.Spec PyProof.Rows
end L2
set_option maxHeartbeats 4000000
namespace L2
open PySem PySem.Spec PyProof.Rows
section
variable {X:Cx}{o e:Expr}{p pos:Pos}{to ti:TE}
theorem Rn (o:Expr)(u)(e:Expr)(p pos:Pos)(env:Env)(v:Value):assign (.Subscript o (.UnaryOp u e p) pos) env v=(do
   let ov <- holding [v] (eval o env)
   let iv <- holding [v,ov] (eval (.UnaryOp u e p) env)
   standAt pos
   holding [v,ov,iv] (setItem ov iv v)
   release [v,ov,iv] []):=rfl
theorem zO {u}{t:KY}(ho:QE X o to)(hi:QE X (.UnaryOp u e p) ti)(hs:KZ X t):QG X (.Subscript o (.UnaryOp u e p) pos) (Qp to ti t):=⟨Fe ho.h hi.h hs (fun v=>Rn o u e p pos X.env v)⟩
end
end L2
namespace SRT
open PySem PySem.Builtin PySem.Builtin.List PyProof.Rows
noncomputable def kh:SortKind:=(sortPriv% PySem.Builtin.KeyKind.tuples) true
section
variable {prog:Program}{w:World}{s:Shared}{A:Around}{E:Value->Shared->Prop}
theorem Fj {a b:Int}{t u:Tok}{Q:Bool->Shared->Prop}(h:Q (decide (a<b)) s):wpAny (model prog w) A (oneLt' false (.int a t) (.int b u)) Q E s:=by
 rw[oneLt'_eq];refine wpAny_bind (wpAny_richCompare_same (op:=.Lt) (T := "int") (typeIs_int s a t) (typeIs_int s b u) slot_int_lt (call_int_lt ⟨(by intro h;cases h),?_⟩));exact wpAny_truthy_bool h
end
end SRT
namespace SRT
open PySem PyProof.Rows
noncomputable def Rk (f:Keyed->Int)(xs:Array Keyed)(i:Nat):Int:=match xs[i]? with
 | some p=>f p
 | none=>0
theorem Rk.at {f:Keyed->Int}{xs ys:Array Keyed}{i j:Nat}(h:xs[i]?=ys[j]?):Rk f xs i=Rk f ys j:=by
 unfold Rk;rw[h]
structure RB (a₀:Array Keyed)(st:SortSt):Prop where
 kind:kindOf st=kh
 perm:(arrOf st).toList.Perm a₀.toList
 fail:failedOf st=none
 pend:pendingOf st=#[]
end SRT
namespace SRT
open PySem PyProof.Rows
end SRT
namespace SRT
open PySem PyProof.Rows
section
variable {prog:Program}{w:World}{s:Shared}{A:Around}{E:Value->Shared->Prop}
theorem Le {v:Value}{vs:List Value}{ns:List Int}(hI:IntsAre (v::vs) ns):oneTypeOnly' (v::vs).toArray=pure (some (.type "int")):=by
 simp only[oneTypeOnly'_eq,List.mapM_toArray,mapM_typeOf_ints hI,map_pure,pure_bind,map_cons,getElem?_toArray,getElem?_cons_zero];rw[if_pos ?_];rw[List.all_toArray,all_cons];have e:(Value.type "int" == Value.type "int")=true:=rfl;rw[e,Bool.true_and,all_map];exact all_eq_true.mpr fun _ _=>rfl
theorem mC {vs:List Value}{p:Keyed}(h:p∈(pairsOf vs).toList):p.1∈vs/\p.2=p.1:=by
 unfold pairsOf at h;rw[Array.toList_zip] at h;obtain⟨i,hi,rfl⟩:=List.getElem_of_mem h;simp
end
end SRT
namespace SRT
open PySem PyProof.Rows
end SRT
namespace L2
open PySem PySem.Spec PyProof.Rows
theorem xg:∀{ps:List Addr}{us:List Value},Vals (ps.map V.ref) us->us=ps.map Value.ref
 | [],_,h=>by cases h;rfl
 | p::ps,_,h=>by
  cases h with
  | cons r h=>
   cases r;rw[xg h];rfl
theorem xQ:∀(ps:List Addr),Vals (ps.map V.ref) (ps.map Value.ref)
 | []=>.nil
 | p::ps=>.cons rfl (xQ ps)
theorem JF:∀{xs:List Value}{ps:List Addr},xs.Perm (ps.map Value.ref)->∃qs:List Addr,xs=qs.map Value.ref/\qs.Perm ps:=fun {xs ps} h=>by
 have hx:∀v∈xs,∃p,v=Value.ref p:=fun v hv=>by
  obtain⟨p,_,e⟩:=mem_map.mp (h.mem_iff.mp hv);exact⟨p,e.symm⟩
 obtain⟨qs,rfl⟩:∃qs:List Addr,xs=qs.map Value.ref:=by
  clear h
  induction xs with
  | nil=>exact⟨[],rfl⟩
  | cons v xs ih=>
   obtain⟨p,rfl⟩:=hx v (mem_cons_self ..);obtain⟨qs,rfl⟩:=ih fun x m=>hx x (mem_cons_of_mem _ m);exact⟨p::qs,rfl⟩
 refine⟨qs,rfl,?_⟩;have:=h.filterMap fun v=>match v with | .ref p=>some p|_=>none
 simpa [filterMap_map,Function.comp_def] using this
end L2
namespace SRT
open PySem PyProof.Rows
noncomputable def TP (s:Shared) (x:Value) (a:Int):Prop:=∃q o n t z,x=.ref q/\s.heap.get? q=some o/\o.cls=.type "tuple" /\ o.data=.seq #[.int a t,z] n
section
variable {prog:Program}{w:World}{s:Shared}{A:Around}{E:Value->Shared->Prop}
theorem Ys {v:Value}{a:Int}{Q:Option Value->Shared->Prop}(h:TP s v a)(q:∀t,Q (some (.int a t)) s):wpAny (model prog w) A (firstOfTuple' v) Q E s:=by
 obtain⟨p,o,n,t,z,rfl,ho,hc,hs⟩:=h;show wpAny _ _ (typeOf (.ref p) >>= fun ty=>_) _ _ s;refine wpAny_bind (wpAny_typeOf (T := "tuple") (show s.TypeIs (.ref p) "tuple" from⟨o,ho,hc⟩) ?_);rw[if_neg δ];exact wpAny_bind (listItems_at ho hs (wpAny_pure (q t)))
theorem firstsP:∀{vs:List Value}{Q:List (Option Value)->Shared->Prop},(∀v∈vs,∃a,TP s v a)->(∀(ws:List Value)(ns:List Int),IntsAre ws ns->ws.length=vs.length->Q (ws.map some) s)->wpAny (model prog w) A (vs.mapM firstOfTuple') Q E s
 | [],Q,_,q=>by
  rw[List.mapM_nil];exact wpAny_pure (q [] [] .nil rfl)
 | v::vs,Q,h,q=>by
  rw[List.mapM_cons];obtain⟨a,hv⟩:=h v (mem_cons_self ..);refine wpAny_bind (Ys hv fun t=>?_);refine wpAny_bind (firstsP (vs:=vs) (fun x hx=>h x (mem_cons_of_mem _ hx)) fun ws ns hI hl=>?_);exact wpAny_pure (q (.int a t::ws) (a::ns) (.cons a t hI) (by rw[length_cons,length_cons,hl]))
theorem Zu {vs:List Value}{Q:SortKind->Shared->Prop}(h:∀v∈vs,∃a,TP s v a)(hn:1<=vs.length)(q:Q kh s):wpAny (model prog w) A (keyKind' vs.toArray) Q E s:=by
 rw[keyKind'_eq];rw[List.mapM_toArray];rw[map_eq_pure_bind];refine wpAny_bind (wpAny_bind (firstsP h fun ws ns hI hl=>wpAny_pure ?_));have ha:(ws.map some).toArray.all (·.isSome)=true:=by simp
 rw[if_pos ha];have hfm:(ws.map some).toArray.filterMap id=ws.toArray:=by simp [filterMap_map]
 rw[hfm];cases ws with
 | nil=>rw[<- hl] at hn;cases hn
 | cons v ws=>
  rw[Le hI];refine wpAny_bind (wpAny_rule ?_);exact wpAny_bind (wpAny_pure (wpAny_pure q))
end
end SRT
namespace L2
open PySem PySem.Spec PyProof.Rows
noncomputable def rkP (key:Addr->Int):Value->Int
 | .ref p=>key p
 | _=>0
open PySem PySem.Spec PyProof.Rows Builtin Builtin.Str
open PySem PySem.Spec PyProof.Rows PySem.NumText
noncomputable def kw1 (n:Int) (u:Tok):List (Str×Value):=[("start",.int n u)]
theorem Km (t:Addr) (items:Array Value) (n:Int) (u:Tok) (hn:Builtin.SmallTypes.fitsIndex n=true):Meets (Builtin.«enumerate.__new__» { pos:=[Value.type "enumerate",Value.ref t],kw:=kw1 n u }) fun _ R s=>
  s.heap.IsList t items/\R (.ok (.ret (.ref (s.heap.objs.size+1)))) { s with heap:=(s.heap.push { cls:=.type "list_iterator",data:=.fields #[.ref t,.int 0 0] }).push { cls:=.type "enumerate",data:=.fields #[.none,.bool false,.ref s.heap.objs.size,rawInt n,.none,.none] } }:=by
 refine Meets.of_wp fun prog w A R s h=>?_;obtain⟨ht,hR⟩:=h;unfold Builtin.«enumerate.__new__» Builtin.SmallTypes.newClass kw1;refine wpAny_bind (wpAny_bind (wpAny_pure (wpAny_ite_false rfl (wpAny_bind (wpAny_of_eq sub_enumerate (wpAny_ite_false rfl (wpAny_pure (wpAny_ite_true rfl (wpAny_bind ?_)))))))));unfold Builtin.SmallTypes.calledThroughType;refine wpAny_bind (wpAny_stack_any fun st=>wpAny_pure ?_);have fin:wpAny (model prog w) A.in1 (do
   let it <- pyIter (Value.ref t)
   let r <- Builtin.SmallTypes.newRecord (Value.type "enumerate") (Builtin.SmallTypes.ownedTupleFields++[it,rawInt n,Value.none,Value.none])
   ret r) (fun fin s'=>∃v,fin=Fin.done (Flow.ret v)/\R (Except.ok (Flow.ret v)) s') (fun e s'=>R (Except.error e) s') s:=by
  refine wpAny_bind (wpAny_pyIter_list ht ?_);show wpAny _ _ (newObj (.type "enumerate") (.fields #[.none,.bool false,.ref s.heap.objs.size,rawInt n,.none,.none]) >>= fun r=>ret r) _ _ _;refine wpAny_bind (wpAny_newObj_type ?_);refine wpAny_pure ⟨_,rfl,?_⟩;have e:(s.heap.push { cls:=Value.type "list_iterator",data:=Data.fields #[Value.ref t,Value.int 0 0] }).objs.size=s.heap.objs.size+1:=size_push ..;rw[e];exact hR
 have hf:decide ((!Builtin.SmallTypes.fitsIndex n)=true)=false:=by rw[hn];rfl
 dsimp only;split
 ·split
  ·exact wpAny_bind (wpAny_pure (wpAny_bind (wpAny_of_eq (a:=Value.int n u) rfl (wpAny_bind (wpAny_of_eq (a:=some n) rfl (wpAny_ite_false hf fin))))))
  exact wpAny_bind (wpAny_pure (wpAny_bind (wpAny_of_eq (a:=Value.int n u) rfl (wpAny_bind (wpAny_of_eq (a:=some n) rfl (wpAny_ite_false hf fin))))))
 split
 ·exact wpAny_bind (wpAny_pure (wpAny_bind (wpAny_of_eq (a:=Value.int n u) rfl (wpAny_bind (wpAny_of_eq (a:=some n) rfl (wpAny_ite_false hf fin))))))
 exact wpAny_bind (wpAny_pure (wpAny_bind (wpAny_of_eq (a:=Value.int n u) rfl (wpAny_bind (wpAny_of_eq (a:=some n) rfl (wpAny_ite_false hf fin))))))
section
variable {prog:Program}{w:World}{A:Around}{E:Value->Shared->Prop}{s:Shared}
theorem Ox {T nid:String}{self:Value}{rest:List Value}{kw:List (Str×Value)}(hl:typeLookup (.type T) "__init__" = pure (some (.builtin "object.__init__")))
  (hm:Bind.madeBy (.type T)=pure (some nid)) (hne:(some nid != some "object.__new__")=true) :
  Meets (Builtin.«object.__init__» ⟨self::rest,kw⟩) (fun _ R s=>s.TypeIs self T/\R (.ok (.ret .none)) s):=by
 refine Meets.of_wp fun prog w A R s hs=>?_;obtain⟨hT,hq⟩:=hs;cases rest <;> cases kw <;> repeat (any_goals (first|assumption|wp_step))
 all_goals exact⟨_,rfl,hq⟩
theorem Dz {T newId:String}{Bn:Builtin}{us:List Value}{kw:List (Str×Value)}{S:PySem.Spec}{Q:Value->Shared->Prop}(ft:TypeCalled T newId "object.__init__")
  (hne:(some newId != some "object.__new__")=true) (hct:checkTypeCall T ⟨us,kw⟩=pure ()) (hcn:checkBuiltinCall newId ⟨.type T::us,kw⟩=pure ())
  (hok:∀obj,argsOk "object.__init__" ⟨obj::us,kw⟩) (en:entryFor table newId=some Bn) (g:Meets (Bn ⟨.type T::us,kw⟩) S)
  (h:S A.in1 (wants (fun obj s₁=>s₁.TypeIs obj T/\Q obj s₁) E) s):wpAny (model prog w) A (call (.type T) us kw) Q E s:=by
 obtain⟨c,tl,hmro⟩:=ft.mro;have hmade:=ft.made;have hsub:=ft.sub;refine wpAny_call (codeAny_of_tree ?_);show wpAny (model prog w) _ (callAny (.type T) _) _ _ _;refine wpAny_pure (And.intro (Code.quiet_builtin _ ψ) (codeAny_builtin F.entry_type_call ?_));rw[Around.under_plain (weight_type_call_type T us kw) (units_type_call_type T us kw)];have h1:=ft.notType;have h2:=ft.canCreate
 repeat (any_goals (first|assumption|wp_step))
 refine codeAny_mono (codeAny_call_builtin ft.plain en (wpAny_of_eq hcn (g prog w A.in1 _ s h))) fun z s1 hz=>?_;rcases z with e|fl
 ·exact hz
 cases fl with
 | ret o=>
  obtain⟨hT,hq⟩:=hz;have hli:=ft.init.lookup;have hbi:=ft.init.bind o
  repeat (any_goals (first|assumption|wp_step))
  refine codeAny_mono (codeAny_call_builtin ft.init.plain F.entry_object_init (ft.init.check _ _ _ _ _ _ _ _ hT (hok o) (Ox ft.init.lookup ft.made hne prog w A.in1 (wants (fun r s2=>r=.none/\Q o s2) E) s1 ⟨hT,rfl,hq⟩))) fun z2 s2 hz2=>?_;rcases z2 with e|fl2
  ·exact hz2
  cases fl2 with
  | ret r=>
   obtain⟨rfl,hq2⟩:=hz2
   repeat (any_goals (first|assumption|wp_step))
  | _=>exact hz2.elim
 | _=>exact hz.elim
theorem Q7 {l:Addr}{items:Array Value}{n:Int}{u:Tok}(hn:Builtin.SmallTypes.fitsIndex n=true){Q:Value->Shared->Prop}(hL:s.heap.IsList l items)
  (h:∀h',IsEnum h' (s.heap.objs.size+1) s.heap.objs.size n .none->h'.IsListIter s.heap.objs.size l 0->(∀b o,s.heap.get? b=some o->h'.get? b=some o)->Q (.ref (s.heap.objs.size+1)) { s with heap:=h' }) :
  wpAny (model prog w) A (call (.type "enumerate") [.ref l] (kw1 n u)) Q E s:=by
 refine Dz F.called_enumerate δ ?_ ?_ ?_ F.entry_enumerate_new (Km l items n u hn) ⟨hL,?_⟩
 ·kernel_rfl
 ·kernel_rfl
 ·intro o;unfold argsOk;rw[signature?_of (n := "__tini__".toList) (o := "tcejbo".toList) (by kernel_rfl) F.owner_object]
  kernel_rfl
 have hz:(s.heap.push { cls:=Value.type "list_iterator",data:=Data.fields #[Value.ref l,Value.int 0 0] }).objs.size=s.heap.objs.size+1:=size_push ..;have b1:((s.heap.push { cls:=Value.type "list_iterator",data:=Data.fields #[Value.ref l,Value.int 0 0] }).push { cls:=Value.type "enumerate",data:=Data.fields #[Value.none,Value.bool false,Value.ref s.heap.objs.size,rawInt n,Value.none,Value.none] }).get? (s.heap.objs.size+1)=some { cls:=Value.type "enumerate",data:=Data.fields #[Value.none,Value.bool false,Value.ref s.heap.objs.size,rawInt n,Value.none,Value.none] }:=by
  rw[<- hz];exact get?_push_size _ rfl
 exact⟨⟨_,b1,rfl⟩,h _ b1 ⟨_,get?_push_of_some _ (get?_push_size _ rfl),rfl,rfl⟩ fun b o z=>get?_push_of_some _ (get?_push_of_some _ z)⟩
end
theorem QV {M:Model}{A:Around}{E:Value->Shared->Prop}{s:Shared}{env:Env}{pos:Pos}{T:String}{e:Expr}{es:List Expr}{kws:List Keyword}{Q:Value->Shared->Prop}
  (h:wpAny M A (spliced (backTo pos (starEach (e::es) env))) (fun vs s1=>wpAny M A (evalAll ((backToKw pos (keywordEach kws env)).map (·.2)))
   (fun ws s2=>wpAny M A (call (.type T) vs (((backToKw pos (keywordEach kws env)).filterMap (·.1)).zip ws)) Q E s2) E s1) E s)
  (he:backTo pos (starEach (e::es) env)=(false,eval e env)::backTo pos (starEach es env)) (hp:(backTo pos (starEach (e::es) env)).any (·.1)=false)
  (ha:(backToKw pos (keywordEach kws env)).all (·.1.isSome)=true) (hk:(backToKw pos (keywordEach kws env)).any (·.1.isNone)=false) :
  wpAny M A (callWith pos (.type T) [] (backTo pos (starEach (e::es) env)) (backToKw pos (keywordEach kws env))) Q E s:=by
 unfold callWith;have h1:wpAny M A (evalArgs (.type T) true (backTo pos (starEach (e::es) env)) (backToKw pos (keywordEach kws env))) (fun a s2=>wpAny M A (call (.type T) a.pos a.kw) Q E s2) E s:=by
  rw[he] at h |-;exact evalArgs_kwB ha h
 refine wpAny_bind (wpAny_holding (wpAny_mono h1 (fun a s1 h2=>wpAny_bind (wpAny_standAt ?_)) fun _ _ x=>x));simp only[hp,hk,Bool.or_false];exact wpAny_bind (wpAny_pure (wpAny_bind (wpAny_mono h2 (fun r s2 hr=>wpAny_bind (wpAny_holding (wpAny_point (wpAny_pure hr)))) fun _ _ x=>x)))
section
variable {prog:Program}{w:World}{A:Around}{E:Value->Shared->Prop}{s:Shared}
theorem Gq {e it:Addr}{fp:List Addr}{m i:Nat}{c:Int}{P:Nat->Value->Prop}{Z:Nat->Heap->Prop}{ol:Value}{Q:Value->Shared->Prop}(D:Draws prog w A it fp m P Z)(he:IsEnum s.heap e it c ol)(hz:Z i s.heap)(hi:i<m)(ne:e≠it)(nf:e∉fp)
  (q:∀x h' tk,P i x->IsEnumOut h' e it (c+1) x s.heap.objs.size->Z (i+1) h'->h'.get? s.heap.objs.size=some { cls:=.type "tuple",data:=.seq #[.int c tk,x] }->h'.objs.size=s.heap.objs.size+1->(∀b o,b≠e->b≠it->s.heap.get? b=some o->h'.get? b=some o)->Q (.ref s.heap.objs.size) { s with heap:=h',toks:=tk+1 }) :
  wpAny (model prog w) A (Builtin.«enumerate.__next__» ⟨[.ref e],[]⟩) (fun fin s'=>∃v,fin=.done (.ret v)/\Q v s') E s:=by
 obtain⟨hp,g,d,tk0,os⟩:=s;show wpAny _ _ (field (.ref e) 2 >>= fun a=>_) _ _ _;refine wpAny_bind (wpAny_field he rfl (x:=.ref it) rfl (wpAny_bind (D.item i _ _ _ hi hz fun x ha tk px za sa=>?_)));have sa:Heap.SameBut it hp ha:=sa;have ea:IsEnum ha e it c ol:=(sa.2 e ne).trans he;show wpAny _ _ (field (.ref e) 3 >>= fun a=>_) _ _ ⟨ha,g,d,tk,os⟩;refine wpAny_bind (wpAny_field ea rfl (x:=rawInt c) rfl ?_);show wpAny _ _ (field (.ref e) 4 >>= fun a=>_) _ _ ⟨ha,g,d,tk,os⟩;refine wpAny_bind (wpAny_field ea rfl (x:=.none) rfl ?_);show wpAny _ _ (mkInt c >>= fun a=>_) _ _ ⟨ha,g,d,tk,os⟩;refine wpAny_bind (wpAny_mkInt ?_);show wpAny _ _ (setField (.ref e) 3 (rawInt (c+1)) >>= fun a=>_) _ _ ⟨ha,g,d,tk+1,os⟩;refine wpAny_bind (wpAny_setField_rec ea (by simp) fun hb eb sb=>?_);have sb:Heap.SameBut e ha hb:=sb;have eb:IsEnum hb e it (c+1) ol:=eb;show wpAny _ _ (setField (.ref e) 4 .none >>= fun a=>_) _ _ ⟨hb,g,d,tk+1,os⟩;refine wpAny_bind (wpAny_setField_rec eb (by simp) fun hc ec sc=>?_);have sc:Heap.SameBut e hb hc:=sc;have ec:IsEnum hc e it (c+1) ol:=ec;show wpAny _ _ (newTuple [.int c tk,x] >>= fun a=>_) _ _ ⟨hc,g,d,tk+1,os⟩;refine wpAny_bind (wpAny_newTuple ?_);have z3:hc.objs.size=hp.objs.size:=(sc.1.trans sb.1).trans sa.1;have lt:e<hp.objs.size:=lt_size he;obtain⟨hd,ehd⟩:∃hd,hd=hc.push { cls:=.type "tuple",data:=.seq #[.int c tk,x] }:=⟨_,rfl⟩;have ed:IsEnum hd e it (c+1) ol:=by rw[ehd];exact get?_push_of_some _ ec
 have td:hd.get? hp.objs.size=some { cls:=.type "tuple",data:=.seq #[.int c tk,x] }:=by rw[ehd,<- z3];exact get?_push_size _ rfl
 have zd:hd.objs.size=hp.objs.size+1:=by rw[ehd,size_push,z3]
 have up:∀b o,b≠e->ha.get? b=some o->hd.get? b=some o:=fun b o n y=>by rw[ehd];exact get?_push_of_some _ (sc.extBut b o n (sb.extBut b o n y))
 have Zd:Z (i+1) hd:=D.frame _ _ _ za fun b mb o y=>up b o (fun z=>nf (z ▸ mb)) y;show wpAny _ _ (Builtin.SmallTypes.ownedTupleIsFree (.ref e) >>= fun a=>_) _ _ ⟨hc.push _,g,d,tk+1,os⟩;rw[z3,<- ehd];refine wpAny_bind ?_;unfold Builtin.SmallTypes.ownedTupleIsFree;refine wpAny_bind (wpAny_field ed rfl (x:=.none) rfl (wpAny_pure ?_));simp only[if_true];refine wpAny_bind (wpAny_rule (wpAny_bind (wpAny_field ed rfl (x:=ol) rfl (wpAny_bind (wpAny_setField_rec ed (by simp) fun he5 e5 s5=>?_)))));have s5:Heap.SameBut e hd he5:=s5;have e5:IsEnum he5 e it (c+1) x:=e5;show wpAny _ _ (Builtin.SmallTypes.ownedTupleHandOut (.ref e) (.ref hp.objs.size) >>= fun a=>_) _ _ ⟨he5,g,d,tk+1,os⟩;refine wpAny_bind ?_;unfold Builtin.SmallTypes.ownedTupleHandOut;refine wpAny_bind (wpAny_setField_rec e5 (by simp) fun h6 e6 s6=>?_);have s6:Heap.SameBut e he5 h6:=s6;have e6:IsEnumOut h6 e it (c+1) x hp.objs.size:=e6;refine wpAny_setField_rec e6 (by simp) fun h7 e7 s7=>?_;have s7:Heap.SameBut e h6 h7:=s7;have e7:IsEnumOut h7 e it (c+1) x hp.objs.size:=e7;have up2:∀b o,b≠e->hd.get? b=some o->h7.get? b=some o:=fun b o n y=>s7.extBut b o n (s6.extBut b o n (s5.extBut b o n y));refine wpAny_bind (wpAny_letGo (wpAny_pure ⟨_,rfl,q x h7 tk px e7 (D.frame _ _ _ Zd fun b mb o y=>up2 b o (fun z=>nf (z ▸ mb)) y) (up2 _ _ (ne_of_gt lt) td) (by rw[s7.1,s6.1,s5.1,zd]) fun b o n1 n2 y=>up2 b o n1 (up b o n1 (sa.extBut b o n2 y))⟩))
theorem Hx {e it:Addr}{fp:List Addr}{m i:Nat}{c:Int}{P:Nat->Value->Prop}{Z:Nat->Heap->Prop}{ol:Value}{Q:Option Value->Shared->Prop}(D:Draws prog w A.in1 it fp m P Z)(he:IsEnum s.heap e it c ol)(hz:Z i s.heap)(hi:i<m)(ne:e≠it)(nf:e∉fp)
  (q:∀x h' tk,P i x->IsEnumOut h' e it (c+1) x s.heap.objs.size->Z (i+1) h'->h'.get? s.heap.objs.size=some { cls:=.type "tuple",data:=.seq #[.int c tk,x] }->h'.objs.size=s.heap.objs.size+1->(∀b o,b≠e->b≠it->s.heap.get? b=some o->h'.get? b=some o)->Q (some (.ref s.heap.objs.size)) { s with heap:=h',toks:=tk+1 }) :
  wpAny (model prog w) A (pyNext (.ref e)) Q E s:=by
 have hT:s.TypeIs (.ref e) "enumerate" := ⟨_,he,rfl⟩;unfold pyNext;exact wpAny_bind (wpAny_attempt (wpAny_callSpecial?_slot (name:=Str.ofString "__next__") hT F.slot_enumerate_next (wpAny_call_entry F.slot_enumerate_next hT F.entry_enumerate_next (Gq D he hz hi ne nf fun x h' tk a b c d k r=>wpAny_pure (q x h' tk a b c d k r)) (F.args_enumerate_next_1 _))))
end
noncomputable def Izl (K:PySem.W.Frag)(k:Int)(a:Addr):It:=
 ⟨fun i H=>∃xs x,SqL K H a xs/\xs[i]?=some x,
  fun i H v H'=>∃p x,v=.ref p/\H p=none/\H'=upd H p (.tup [.int (k+i),x])/\∀xs,SqL K H a xs->xs[i]?=some x,
  fun i H=>∃xs,SqL K H a xs/\xs.length=i⟩
noncomputable def Izt (K:PySem.W.Frag)(k:Int)(a:Addr):It:=
 ⟨fun i H=>∃xs x,SqT K H a xs/\xs[i]?=some x,
  fun i H v H'=>∃p x,v=.ref p/\H p=none/\H'=upd H p (.tup [.int (k+i),x])/\∀xs,SqT K H a xs->xs[i]?=some x,
  fun i H=>∃xs,SqT K H a xs/\xs.length=i⟩
theorem Ei {P:Program}{w:World}{K:PySem.W.Frag}{es:List Expr}{kk:Nat}{k:Int}{tpos:Pos}{e it l:Addr}(hne:e≠it) :
  Turn P w K (.Tuple es kk tpos) (Izl K k l) [e,it] e (fun i h=>(∃old,IsEnum h e it (k+i) old)/\h.IsListIter it l i) where
 mem:=by simp
 obj:=fun i h st b hb=>by
  obtain⟨⟨old,he⟩,⟨o1,e1,c1,d1⟩⟩:=st;simp only[mem_cons,not_mem_nil,or_false] at hb;rcases hb with rfl|rfl
  ·exact⟨_,he,fun v q=>by cases q⟩
  exact⟨o1,e1,fun v q=>by rw[d1] at q;cases q⟩
 keep:=fun i h h' st k=>by
  obtain⟨⟨old,he⟩,h1⟩:=st;exact⟨⟨old,k e (by simp) _ he⟩,h1.at fun o q=>k it (by simp) o q⟩
 item:=by
  intro X hP hw hK hc i pins s σ H E I hf st hg;subst hP hw hK;obtain⟨xs,x,q1,hx⟩:=hg;obtain⟨its1,rv1,p1,hz1⟩:=I.list q1;obtain⟨u1,hu1,ru1⟩:=rv1.get hx;obtain⟨⟨old,he⟩,h1⟩:=st;have hL:=p1.isList;have hel:e≠l:=fun z=>by
   obtain⟨ol,g1,g2,_⟩:=hL;rw[<- z,he] at g1;cases g1;injection g2 with g2;exact absurd g2 δ
  have hil:l≠it:=fun z=>by
   obtain⟨ol,g1,g2,_⟩:=hL;obtain⟨oi,g3,g4,_⟩:=h1;rw[z,g3] at g1;cases g1;rw[g4] at g2;injection g2 with g2;exact absurd g2 δ
  have hsz1:i<its1.toArray.size:=by
   obtain⟨z,_⟩:=List.getElem?_eq_some_iff.mp hu1;simpa using z
  refine Hx (Draws.list (A:=X.A.in1) (I.ok.hd hc) it l hil its1.toArray) he ⟨h1,hL⟩ hsz1 hne (by simp [hne,hel]) fun x1 h' tk hP a1 a2 a3 a4 hk=>?_;have ex:x1=u1:=by
   have hP':its1[i]?=some x1:=by simpa using hP
   rw[hu1] at hP';exact(Option.some.inj hP').symm
  subst ex;obtain⟨a2,_⟩:=a2;have new:bN X.prog X.w (upd H s.heap.objs.size (.tup [.int (k+i),x])) h' s.heap.objs.size (.tup [.int (k+i),x]):=⟨by show 2<=sizeLine;decide,[.int (k+i) tk,x1],.cons ⟨_,rfl⟩ (.cons ru1 .nil),_,a3,rfl,_,rfl⟩;have I1:Inv X pins σ (upd H s.heap.objs.size (.tup [.int (k+i),x])) { s with heap:=h',toks:=tk+1 }:=I.xr (ch:=[e,it]) hf
   (fun b o hb q=>hk b o (fun z=>hb (by simp [z])) (fun z=>hb (by simp [z])) q) (le_refl _) new
  have hsz:∀b,b∈[e,it]->b≠s.heap.objs.size:=fun b hb=>by
   have lt:∃o,s.heap.get? b=some o:=by
    simp only[mem_cons,not_mem_nil,or_false] at hb;rcases hb with rfl|rfl
    ·exact⟨_,he⟩
    obtain⟨o,q,_⟩:=h1;exact⟨o,q⟩
   obtain⟨o,q⟩:=lt;exact ne_of_lt (lt_size q)
  refine⟨_,rfl,wpAny_letOwnedTupleGo_enum (s:={ s with heap:=h',toks:=tk+1 }) a1 fun h'' z2 sb=>?_⟩;have fz:=hf e (by simp);have I2:Inv X pins σ (upd H s.heap.objs.size (.tup [.int (k+i),x])) { s with heap:=h'',toks:=tk+1 }:=Inv.turned (s:={ s with heap:=h',toks:=tk+1 }) (it:=e) I1 (fun b o hb q=>(sb.2 b hb).trans q) (by rw[aH (hsz e (by simp))];exact fz.1) fz.2.1 fz.2.2.2.1 fz.2.2.2.2.1 fz.2.2.2.2.2;have e3:k+(i:Int)+1=k+((i+1:Nat):Int):=ω;refine⟨.ref s.heap.objs.size,_,I2,rfl,⟨_,x,rfl,I.fresh,rfl,fun xs' q=>by rw[I.mU q q1];exact hx⟩,
   ⟨⟨_,e3 ▸ z2⟩,a2.extBut sb.extBut hne.symm⟩,fun b hb=>by rw[aH (hsz b hb)];exact(hf b hb).1⟩
 done:=by
  intro X hP hw hK hc i pins s σ H E I hf st hg;subst hP hw hK;obtain⟨xs,q1,hx⟩:=hg;obtain⟨its1,rv1,p1,hz1⟩:=I.list q1;obtain⟨⟨old,he⟩,h1⟩:=st;have hL:=p1.isList;have hil:l≠it:=fun z=>by
   obtain⟨ol,g1,g2,_⟩:=hL;obtain⟨oi,g3,g4,_⟩:=h1;rw[z,g3] at g1;cases g1;rw[g4] at g2;injection g2 with g2;exact absurd g2 δ
  have hl1:=rv1.length;have hsi:its1.toArray.size=i:=by rw[size_toArray];omega
  exact wpAny_pyNext_enum_endD (Draws.list (A:=X.A.in1) (I.ok.hd hc) it l hil its1.toArray) he (by rw[hsi];exact⟨h1,hL⟩) fun h' hk=>⟨rfl,I.xu (t':=s.toks) (ch:=[e,it]) hf (fun b o hb q=>hk b o (fun z=>hb (by simp [z])) q)⟩
 self:=fun _ _ _ _ _ st h=>by
  obtain⟨⟨old,he⟩,_⟩:=st;exact wpAny_pyIter_enum he h
theorem Ej {P:Program}{w:World}{K:PySem.W.Frag}{es:List Expr}{kk:Nat}{k:Int}{tpos:Pos}{e it l:Addr}(hne:e≠it) :
  Turn P w K (.Tuple es kk tpos) (Izt K k l) [e,it] e (fun i h=>(∃old,IsEnum h e it (k+i) old)/\h.IsTupleIter it l i) where
 mem:=by simp
 obj:=fun i h st b hb=>by
  obtain⟨⟨old,he⟩,⟨o1,e1,c1,d1⟩⟩:=st;simp only[mem_cons,not_mem_nil,or_false] at hb;rcases hb with rfl|rfl
  ·exact⟨_,he,fun v q=>by cases q⟩
  exact⟨o1,e1,fun v q=>by rw[d1] at q;cases q⟩
 keep:=fun i h h' st k=>by
  obtain⟨⟨old,he⟩,h1⟩:=st;exact⟨⟨old,k e (by simp) _ he⟩,h1.at fun o q=>k it (by simp) o q⟩
 item:=by
  intro X hP hw hK hc i pins s σ H E I hf st hg;subst hP hw hK;obtain⟨xs,x,q1,hx⟩:=hg;obtain⟨its1,rv1,p1,hz1⟩:=I.tuple q1;obtain⟨u1,hu1,ru1⟩:=rv1.get hx;obtain⟨⟨old,he⟩,h1⟩:=st;have hel:e≠l:=fun z=>by
   obtain⟨ol,g1,g2,_⟩:=p1;rw[<- z,he] at g1;cases g1;injection g2 with g2;exact absurd g2 δ
  have hil:l≠it:=fun z=>by
   obtain⟨ol,g1,g2,_⟩:=p1;obtain⟨oi,g3,g4,_⟩:=h1;rw[z,g3] at g1;cases g1;rw[g4] at g2;injection g2 with g2;exact absurd g2 δ
  have hsz1:i<its1.toArray.size:=by
   obtain⟨z,_⟩:=List.getElem?_eq_some_iff.mp hu1;simpa using z
  refine Hx (jD (A:=X.A.in1) (I.ok.hd hc) it l hil its1.toArray) he ⟨h1,p1⟩ hsz1 hne (by simp [hne,hel]) fun x1 h' tk hP a1 a2 a3 a4 hk=>?_;have ex:x1=u1:=by
   have hP':its1[i]?=some x1:=by simpa using hP
   rw[hu1] at hP';exact(Option.some.inj hP').symm
  subst ex;obtain⟨a2,_⟩:=a2;have new:bN X.prog X.w (upd H s.heap.objs.size (.tup [.int (k+i),x])) h' s.heap.objs.size (.tup [.int (k+i),x]):=⟨by show 2<=sizeLine;decide,[.int (k+i) tk,x1],.cons ⟨_,rfl⟩ (.cons ru1 .nil),_,a3,rfl,_,rfl⟩;have I1:Inv X pins σ (upd H s.heap.objs.size (.tup [.int (k+i),x])) { s with heap:=h',toks:=tk+1 }:=I.xr (ch:=[e,it]) hf
   (fun b o hb q=>hk b o (fun z=>hb (by simp [z])) (fun z=>hb (by simp [z])) q) (le_refl _) new
  have hsz:∀b,b∈[e,it]->b≠s.heap.objs.size:=fun b hb=>by
   have lt:∃o,s.heap.get? b=some o:=by
    simp only[mem_cons,not_mem_nil,or_false] at hb;rcases hb with rfl|rfl
    ·exact⟨_,he⟩
    obtain⟨o,q,_⟩:=h1;exact⟨o,q⟩
   obtain⟨o,q⟩:=lt;exact ne_of_lt (lt_size q)
  refine⟨_,rfl,wpAny_letOwnedTupleGo_enum (s:={ s with heap:=h',toks:=tk+1 }) a1 fun h'' z2 sb=>?_⟩;have fz:=hf e (by simp);have I2:Inv X pins σ (upd H s.heap.objs.size (.tup [.int (k+i),x])) { s with heap:=h'',toks:=tk+1 }:=Inv.turned (s:={ s with heap:=h',toks:=tk+1 }) (it:=e) I1 (fun b o hb q=>(sb.2 b hb).trans q) (by rw[aH (hsz e (by simp))];exact fz.1) fz.2.1 fz.2.2.2.1 fz.2.2.2.2.1 fz.2.2.2.2.2;have e3:k+(i:Int)+1=k+((i+1:Nat):Int):=ω;refine⟨.ref s.heap.objs.size,_,I2,rfl,⟨_,x,rfl,I.fresh,rfl,fun xs' q=>by rw[I.jN q q1];exact hx⟩,
   ⟨⟨_,e3 ▸ z2⟩,a2.extBut sb.extBut hne.symm⟩,fun b hb=>by rw[aH (hsz b hb)];exact(hf b hb).1⟩
 done:=by
  intro X hP hw hK hc i pins s σ H E I hf st hg;subst hP hw hK;obtain⟨xs,q1,hx⟩:=hg;obtain⟨its1,rv1,p1,hz1⟩:=I.tuple q1;obtain⟨⟨old,he⟩,h1⟩:=st;have hil:l≠it:=fun z=>by
   obtain⟨ol,g1,g2,_⟩:=p1;obtain⟨oi,g3,g4,_⟩:=h1;rw[z,g3] at g1;cases g1;rw[g4] at g2;injection g2 with g2;exact absurd g2 δ
  have hl1:=rv1.length;have hsi:its1.toArray.size=i:=by rw[size_toArray];omega
  exact wpAny_pyNext_enum_endD (jD (A:=X.A.in1) (I.ok.hd hc) it l hil its1.toArray) he (by rw[hsi];exact⟨h1,p1⟩) fun h' hk=>⟨rfl,I.xu (t':=s.toks) (ch:=[e,it]) hf (fun b o hb q=>hk b o (fun z=>hb (by simp [z])) q)⟩
 self:=fun _ _ _ _ _ st h=>by
  obtain⟨⟨old,he⟩,_⟩:=st;exact wpAny_pyIter_enum he h
theorem Kh (t:Addr) (items:Array Value) (n:Int) (u:Tok) (hn:Builtin.SmallTypes.fitsIndex n=true):Meets (Builtin.«enumerate.__new__» { pos:=[Value.type "enumerate",Value.ref t],kw:=kw1 n u }) fun _ R s=>
  s.heap.IsTuple t items/\R (.ok (.ret (.ref (s.heap.objs.size+1)))) { s with heap:=(s.heap.push { cls:=.type "tuple_iterator",data:=.fields #[.ref t,.int 0 0] }).push { cls:=.type "enumerate",data:=.fields #[.none,.bool false,.ref s.heap.objs.size,rawInt n,.none,.none] } }:=by
 refine Meets.of_wp fun prog w A R s h=>?_;obtain⟨ht,hR⟩:=h;unfold Builtin.«enumerate.__new__» Builtin.SmallTypes.newClass kw1;refine wpAny_bind (wpAny_bind (wpAny_pure (wpAny_ite_false rfl (wpAny_bind (wpAny_of_eq sub_enumerate (wpAny_ite_false rfl (wpAny_pure (wpAny_ite_true rfl (wpAny_bind ?_)))))))));unfold Builtin.SmallTypes.calledThroughType;refine wpAny_bind (wpAny_stack_any fun st=>wpAny_pure ?_);have fin:wpAny (model prog w) A.in1 (do
   let it <- pyIter (Value.ref t)
   let r <- Builtin.SmallTypes.newRecord (Value.type "enumerate") (Builtin.SmallTypes.ownedTupleFields++[it,rawInt n,Value.none,Value.none])
   ret r) (fun fin s'=>∃v,fin=Fin.done (Flow.ret v)/\R (Except.ok (Flow.ret v)) s') (fun e s'=>R (Except.error e) s') s:=by
  refine wpAny_bind (wpAny_pyIter_tuple ht ?_);show wpAny _ _ (newObj (.type "enumerate") (.fields #[.none,.bool false,.ref s.heap.objs.size,rawInt n,.none,.none]) >>= fun r=>ret r) _ _ _;refine wpAny_bind (wpAny_newObj_type ?_);refine wpAny_pure ⟨_,rfl,?_⟩;have e:(s.heap.push { cls:=Value.type "tuple_iterator",data:=Data.fields #[Value.ref t,Value.int 0 0] }).objs.size=s.heap.objs.size+1:=size_push ..;rw[e];exact hR
 have hf:decide ((!Builtin.SmallTypes.fitsIndex n)=true)=false:=by rw[hn];rfl
 dsimp only;split
 ·split
  ·exact wpAny_bind (wpAny_pure (wpAny_bind (wpAny_of_eq (a:=Value.int n u) rfl (wpAny_bind (wpAny_of_eq (a:=some n) rfl (wpAny_ite_false hf fin))))))
  exact wpAny_bind (wpAny_pure (wpAny_bind (wpAny_of_eq (a:=Value.int n u) rfl (wpAny_bind (wpAny_of_eq (a:=some n) rfl (wpAny_ite_false hf fin))))))
 split
 ·exact wpAny_bind (wpAny_pure (wpAny_bind (wpAny_of_eq (a:=Value.int n u) rfl (wpAny_bind (wpAny_of_eq (a:=some n) rfl (wpAny_ite_false hf fin))))))
 exact wpAny_bind (wpAny_pure (wpAny_bind (wpAny_of_eq (a:=Value.int n u) rfl (wpAny_bind (wpAny_of_eq (a:=some n) rfl (wpAny_ite_false hf fin))))))
section
variable {prog:Program}{w:World}{A:Around}{E:Value->Shared->Prop}{s:Shared}
theorem Q6 {l:Addr}{items:Array Value}{n:Int}{u:Tok}(hn:Builtin.SmallTypes.fitsIndex n=true){Q:Value->Shared->Prop}(hL:s.heap.IsTuple l items)
  (h:∀h',IsEnum h' (s.heap.objs.size+1) s.heap.objs.size n .none->h'.IsTupleIter s.heap.objs.size l 0->(∀b o,s.heap.get? b=some o->h'.get? b=some o)->Q (.ref (s.heap.objs.size+1)) { s with heap:=h' }) :
  wpAny (model prog w) A (call (.type "enumerate") [.ref l] (kw1 n u)) Q E s:=by
 refine Dz F.called_enumerate δ ?_ ?_ ?_ F.entry_enumerate_new (Kh l items n u hn) ⟨hL,?_⟩
 ·kernel_rfl
 ·kernel_rfl
 ·intro o;unfold argsOk;rw[signature?_of (n := "__tini__".toList) (o := "tcejbo".toList) (by kernel_rfl) F.owner_object]
  kernel_rfl
 have hz:(s.heap.push { cls:=Value.type "tuple_iterator",data:=Data.fields #[Value.ref l,Value.int 0 0] }).objs.size=s.heap.objs.size+1:=size_push ..;have b1:((s.heap.push { cls:=Value.type "tuple_iterator",data:=Data.fields #[Value.ref l,Value.int 0 0] }).push { cls:=Value.type "enumerate",data:=Data.fields #[Value.none,Value.bool false,Value.ref s.heap.objs.size,rawInt n,Value.none,Value.none] }).get? (s.heap.objs.size+1)=some { cls:=Value.type "enumerate",data:=Data.fields #[Value.none,Value.bool false,Value.ref s.heap.objs.size,rawInt n,Value.none,Value.none] }:=by
  rw[<- hz];exact get?_push_size _ rfl
 exact⟨⟨_,b1,rfl⟩,h _ b1 ⟨_,get?_push_of_some _ (get?_push_size _ rfl),rfl,rfl⟩ fun b o z=>get?_push_of_some _ (get?_push_of_some _ z)⟩
end
noncomputable def ezq (K:PySem.W.Frag)(ob:Option HO)(k:Int)(a:Addr)(H:Hp)(R:It->Hp->Prop):Prop:=match ob with
 | some (.lst _)=>R (Izl K k a) H
 | some (.tup _)=>R (Izt K k a) H
 | _=>False
noncomputable def ezK (K:PySem.W.Frag)(vs zs:List V)(H:Hp)(R:It->Hp->Prop):Prop:=match vs,zs with
 | [.ref a],[.int n]=>-(2^63)<=n/\n<2^63/\ezq K (H a) n a H R
 | _,_=>False
noncomputable def Gd (K:PySem.W.Frag)(ta tk:TA):TI:=fun σ H R=>ta σ H fun vs H1=>tk σ H1 fun zs H2=>ezK K vs zs H2 R
theorem J7 (K:PySem.W.Frag)(ta tk:TA)(σ:St)(H:Hp)(R:It->Hp->Prop):Gd K ta tk σ H R=ta σ H fun vs H1=>tk σ H1 fun zs H2=>ezK K vs zs H2 R:=rfl
theorem Vr (K:PySem.W.Frag)(a:Addr)(n:Int)(H:Hp)(R:It->Hp->Prop):ezK K [.ref a] [.int n] H R=(-(2^63)<=n/\n<2^63/\ezq K (H a) n a H R):=rfl
theorem Vq (K:PySem.W.Frag)(xs:List V)(k:Int)(a:Addr)(H:Hp)(R:It->Hp->Prop):ezq K (some (.lst xs)) k a H R=R (Izl K k a) H:=rfl
theorem Vp (K:PySem.W.Frag)(xs:List V)(k:Int)(a:Addr)(H:Hp)(R:It->Hp->Prop):ezq K (some (.tup xs)) k a H R=R (Izt K k a) H:=rfl
noncomputable def rdZ:=And.intro @J7 (And.intro @Vr (And.intro @Vq @Vp))
section
variable {X:Cx}
theorem N7 {es:List Expr}{kk:Nat}{tpos:Pos}{a e:Expr}{ta tk:TA}{p pos kp:Pos}(hg:Gl X "enumerate") (hm:X.mg "enumerate" = none) (ha:PA X [a] ta) (hk:PK X [⟨some "start",e,kp⟩] tk) (hs:starEach [a] X.env=[(false,eval a X.env)]:=by rfl) :
  PI X (.Tuple es kk tpos) (.Call (.Name "enumerate" p) [a] [⟨some "start",e,kp⟩] pos) (Gd X.K ta tk):=by
 intro pins s σ H R I h;refine wpAny_Call_Name_kw (iH I hg hm PyProof.Rows.Boot.«enumerate» (QV (thA (ha pos pins s σ H _ I h) fun us s1 vs H1 I1 r1 q1=>thn (hk pos pins s1 σ H1 _ I1 q1) fun ws s2 ⟨zs,H2,I2,r2,q2⟩=>?_) (by rw[hs];rfl) (by rw[hs];rfl) rfl rfl));show wpAny _ _ (call (.type "enumerate") us ((["start"]:List Str).zip ws)) _ _ _;replace q2:ezK X.K vs zs H2 R:=q2;unfold ezK at q2;split at q2
 ·rename_i l1 n zz;obtain⟨h0,hn,q2⟩:=q2;cases r1 with
  | cons r rr=>
   cases rr;cases r;cases r2 with
   | cons r rr=>
    cases rr;obtain⟨u,rfl⟩:=r;unfold ezq at q2;split at q2
    ·rename_i xs e;obtain⟨its1,rv1,p1,hz1⟩:=I2.list (SqL.of e);have hfi:Builtin.SmallTypes.fitsIndex n=true:=by
      unfold Builtin.SmallTypes.fitsIndex;simp only[and_eq_true,decide_eq_true_eq];omega
     refine Q7 (u:=u) hfi p1.isList fun h' b1 b2 hk=>?_;refine wpAny_pyIter_enum (s:={ s2 with heap:=h' }) b1 ?_;have I3:Inv X pins σ H2 { s2 with heap:=h' }:=I2.kept (t':=s2.toks) hk;have en:n=n+((0:Nat):Int):=ω;refine⟨_,_,_,_,H2,rfl,I3,Ei (ne_of_gt (lt_succ_self _)),⟨⟨_,en ▸ b1⟩,b2⟩,fun b hb=>?_,q2⟩;have hle:s2.heap.objs.size<=b:=by
      simp only[mem_cons,not_mem_nil,or_false] at hb;rcases hb with rfl|rfl <;> simp
     exact I2.Dq hle (I2.hok.fresh hle)
    ·rename_i xs e;obtain⟨its1,rv1,p1,hz1⟩:=I2.tuple (SqT.of e);have hfi:Builtin.SmallTypes.fitsIndex n=true:=by
      unfold Builtin.SmallTypes.fitsIndex;simp only[and_eq_true,decide_eq_true_eq];omega
     refine Q6 (u:=u) hfi p1 fun h' b1 b2 hk=>?_;refine wpAny_pyIter_enum (s:={ s2 with heap:=h' }) b1 ?_;have I3:Inv X pins σ H2 { s2 with heap:=h' }:=I2.kept (t':=s2.toks) hk;have en:n=n+((0:Nat):Int):=ω;refine⟨_,_,_,_,H2,rfl,I3,Ej (ne_of_gt (lt_succ_self _)),⟨⟨_,en ▸ b1⟩,b2⟩,fun b hb=>?_,q2⟩;have hle:s2.heap.objs.size<=b:=by
      simp only[mem_cons,not_mem_nil,or_false] at hb;rcases hb with rfl|rfl <;> simp
     exact I2.Dq hle (I2.hok.fresh hle)
    exact q2.elim
 exact q2.elim
theorem Nx {es:List Expr}{kk:Nat}{tpos:Pos}{a e:Expr}{ta tk:TA}{p pos kp:Pos}(hg:Gl X "enumerate") (hm:X.mg "enumerate" = none) (ha:QA X [a] ta) (hk:PK X [⟨some "start",e,kp⟩] tk) (hs:starEach [a] X.env=[(false,eval a X.env)]:=by rfl) :
  QI X (.Tuple es kk tpos) (.Call (.Name "enumerate" p) [a] [⟨some "start",e,kp⟩] pos) (Gd X.K ta tk):=⟨N7 hg hm ha.h hk hs⟩
end
noncomputable def cov (xs:List (Int×Int))(n:Int):Prop:=∃s,s∈xs/\s.1<=n/\n<=s.2
theorem qF {n:Int}:¬cov [] n:=fun⟨s,m,_⟩=>by cases m
theorem gF {xs ys:List (Int×Int)}{n:Int}:cov (xs++ys) n↔cov xs n\/cov ys n:=by
 constructor
 ·rintro⟨s,m,h⟩;rcases mem_append.mp m with m|m
  ·exact .inl ⟨s,m,h⟩
  exact .inr ⟨s,m,h⟩
 rintro(⟨s,m,h⟩|⟨s,m,h⟩)
 ·exact⟨s,mem_append_left _ m,h⟩
 exact⟨s,mem_append_right _ m,h⟩
theorem iT {s:Int×Int}{n:Int}:cov [s] n↔s.1<=n/\n<=s.2:=by
 constructor
 ·rintro⟨t,m,h⟩;rw[mem_singleton.mp m] at h;exact h
 exact fun h=>⟨s,mem_singleton.mpr rfl,h⟩
theorem fu {s:Int×Int}{xs:List (Int×Int)}{n:Int}:cov (s::xs) n↔(s.1<=n/\n<=s.2)\/cov xs n:=by
 rw[<- List.singleton_append,gF,iT]
theorem QX {xs ys:List (Int×Int)}(h:xs.Perm ys){n:Int}:cov xs n↔cov ys n:=
 ⟨fun⟨s,m,q⟩=>⟨s,h.mem_iff.mp m,q⟩,fun⟨s,m,q⟩=>⟨s,h.mem_iff.mpr m,q⟩⟩
structure Gap (xs:List (Int×Int)):Prop where
 ne:∀s,s∈xs->s.1<=s.2
 up:xs.Pairwise fun a b=>a.2+1<b.1
structure Dis (xs:List (Int×Int)):Prop where
 ne:∀s,s∈xs->s.1<=s.2
 df:xs.Pairwise fun a b=>a.2<b.1\/b.2<a.1
theorem Gap.nil:Gap []:=⟨fun s m=>(by cases m),.nil⟩
theorem Dis.nil:Dis []:=⟨fun s m=>(by cases m),.nil⟩
theorem Dis.one {a b:Int}(h:a<=b):Dis [(a,b)]:=⟨fun s m=>by rw[mem_singleton.mp m];exact h,pairwise_singleton _ _⟩
theorem Dis.app {xs ys:List (Int×Int)}(h:Dis xs)(k:Dis ys)(hd:∀n,cov xs n->cov ys n->False):Dis (xs++ys):=by
 refine⟨fun s m=>?_,pairwise_append.mpr ⟨h.df,k.df,fun a ma b mb=>?_⟩⟩
 ·rcases mem_append.mp m with m|m
  ·exact h.ne s m
  exact k.ne s m
 have ha:=h.ne a ma;have hb:=k.ne b mb;by_cases c1:a.2<b.1
 ·exact .inl c1
 by_cases c2:b.2<a.1
 ·exact .inr c2
 exfalso;by_cases c3:a.1<=b.1
 ·exact hd b.1 ⟨a,ma,c3,ω⟩ ⟨b,mb,Int.le_refl _,hb⟩
 exact hd a.1 ⟨a,ma,Int.le_refl _,ha⟩ ⟨b,mb,ω,ω⟩
theorem Dis.firsts {xs:List (Int×Int)}(h:Dis xs):(xs.map (·.1)).Nodup:=by
 refine pairwise_map.mpr (h.df.imp_of_mem fun {a b} ma mb q=>?_);have ha:=h.ne a ma;have hb:=h.ne b mb;intro e;have e:a.1=b.1:=e;omega
theorem xX {α:Type}[DecidableEq α]:∀{xs ps:List α},xs.Nodup->(∀x,x∈xs->x∈ps)->xs.length<=ps.length
 | [],_,_,_=>zero_le _
 | x::xs,ps,hn,hs=>by
  have hx:x∈ps:=hs x (mem_cons_self ..);have h2:=nodup_cons.mp hn;have:=xX (xs:=xs) (ps:=ps.erase x) h2.2 fun y hy=>by
   refine(List.mem_erase_of_ne ?_).mpr (hs y (mem_cons_of_mem _ hy));rintro rfl;exact h2.1 hy
  rw[List.length_erase_of_mem hx] at this;have l1:0<ps.length:=List.length_pos_of_mem hx;rw[length_cons];omega
theorem Dis.count {xs:List (Int×Int)}(h:Dis xs){ps:List Int}(hp:∀s,s∈xs->s.1∈ps):xs.length<=ps.length:=by
 have:=xX h.firsts (ps:=ps) fun x hx=>by
  obtain⟨s,m,rfl⟩:=mem_map.mp hx;exact hp s m
 rwa [length_map] at this
structure JI (zs told:List (Int×Int))(i:Nat):Prop where
 gap:Gap told
 cv:∀n,cov told n↔cov (zs.take i) n
 be:∀t,t∈told->∀z,z∈zs.drop i->t.2<z.1
 fs:∀t,t∈told->∃z,z∈zs/\z.1=t.1
 ln:told.length<=i
theorem gZ {α:Type}{zs:List α}{i:Nat}{z:α}(h:zs[i]?=some z):zs.take (i+1)=zs.take i++[z]:=by
 rw[List.take_add_one,h];rfl
theorem qz {α:Type}{zs:List α}{i:Nat}{z:α}(h:zs[i]?=some z):zs.drop i=z::zs.drop (i+1):=by
 obtain⟨hi,e⟩:=List.getElem?_eq_some_iff.mp h;rw[drop_eq_getElem_cons hi,e]
noncomputable def fW:Nat->List (Int×Int)->List (Int×Int×Int)->List (Int×(Int×Int))
 | k+1,s::ss,w::ws=>(if max w.1 s.1<=min w.2.1 s.2 then [(w.2.2,(max w.1 s.1,min w.2.1 s.2))] else [])++(if s.2<w.2.1 then fW k ss (w::ws) else fW k (s::ss) ws)
 | _,_,_=>[]
noncomputable def newOf (out:List (Int×(Int×Int)))(g:Int):List (Int×Int):=(out.filter fun x=>x.1 == g).map (·.2)
theorem xZ (a b:List (Int×(Int×Int)))(g:Int):newOf (a++b) g=newOf a g++newOf b g:=by
 unfold newOf;rw[filter_append,map_append]
theorem iW {out:List (Int×(Int×Int))}{g:Int}{s:Int×Int}:s∈newOf out g↔(g,s)∈out:=by
 unfold newOf;rw[mem_map];constructor
 ·rintro⟨x,m,rfl⟩;have:=mem_filter.mp m;have e:x.1=g:=by simpa using this.2
  rw[<- e];exact this.1
 intro m;exact⟨(g,s),mem_filter.mpr ⟨m,by simp⟩,rfl⟩
structure Ea (ss:List (Int×Int))(ws:List (Int×Int×Int))(out:List (Int×(Int×Int))):Prop where
 fr:∀x,x∈out->x.2.1<=x.2.2/\∃s w,s∈ss/\w∈ws/\w.2.2=x.1/\w.1<=x.2.1/\x.2.2<=w.2.1/\s.1<=x.2.1/\x.2.2<=s.2/\(x.2.1=w.1\/x.2.1=s.1)
 up:out.Pairwise fun x y=>x.2.2<y.2.1
 al:∀s w n,s∈ss->w∈ws->s.1<=n->n<=s.2->w.1<=n->n<=w.2.1->cov (newOf out w.2.2) n
theorem Mv:∀(k:Nat){ss:List (Int×Int)}{ws:List (Int×Int×Int)},ss.length+ws.length<=k->(ss.Pairwise fun a b=>a.2<b.1)->(ws.Pairwise fun a b=>a.2.1<b.1)->Ea ss ws (fW k ss ws):=by
 intro k
 induction k with
 | zero=>
  intro ss ws hk _ _;have:ss=[]:=length_eq_zero_iff.mp ω;subst this;exact⟨fun x m=>(by cases m),.nil,fun s w n m=>(by cases m)⟩
 | succ k ih=>
  intro ss ws hk hs hw
  match ss,ws,hk,hs,hw with
  | [],ws,_,_,_=>exact⟨fun x m=>(by cases m),.nil,fun s w n m=>(by cases m)⟩
  | s::ss,[],_,_,_=>exact⟨fun x m=>(by cases m),.nil,fun s w n _ m=>(by cases m)⟩
  | s::ss,w::ws,hk,hs,hw=>
   have hs2:=pairwise_cons.mp hs;have hw2:=pairwise_cons.mp hw;have hk2:ss.length+ws.length+1<=k:=by simp only[length_cons] at hk;omega
   have rest:Ea (if s.2<w.2.1 then ss else s::ss) (if s.2<w.2.1 then w::ws else ws) (if s.2<w.2.1 then fW k ss (w::ws) else fW k (s::ss) ws):=by
    by_cases c:s.2<w.2.1
    ·rw[if_pos c,if_pos c,if_pos c];exact ih (by simp only[length_cons];omega) hs2.2 hw
    rw[if_neg c,if_neg c,if_neg c];exact ih (by simp only[length_cons];omega) hs hw2.2
   show Ea (s::ss) (w::ws) ((if max w.1 s.1<=min w.2.1 s.2 then [(w.2.2,(max w.1 s.1,min w.2.1 s.2))] else [])++(if s.2<w.2.1 then fW k ss (w::ws) else fW k (s::ss) ws));generalize hr:(if s.2<w.2.1 then fW k ss (w::ws) else fW k (s::ss) ws)=r at rest |-;have sub1:∀z,z∈(if s.2<w.2.1 then ss else s::ss)->z∈s::ss:=fun z m=>by
    split at m
    ·exact mem_cons_of_mem _ m
    exact m
   have sub2:∀z,z∈(if s.2<w.2.1 then w::ws else ws)->z∈w::ws:=fun z m=>by
    split at m
    ·exact m
    exact mem_cons_of_mem _ m
   have hd:∀x,x∈(if max w.1 s.1<=min w.2.1 s.2 then [(w.2.2,(max w.1 s.1,min w.2.1 s.2))] else [])->x=(w.2.2,(max w.1 s.1,min w.2.1 s.2))/\max w.1 s.1<=min w.2.1 s.2:=fun x m=>by
    split at m
    ·exact⟨mem_singleton.mp m,by assumption⟩
    cases m
   refine⟨fun x m=>?_,pairwise_append.mpr ⟨?_,rest.up,fun a ma b mb=>?_⟩,fun s' w' n ms mw h1 h2 h3 h4=>?_⟩
   ·rcases mem_append.mp m with m|m
    ·obtain⟨rfl,hle⟩:=hd x m;refine⟨hle,s,w,mem_cons_self ..,mem_cons_self ..,rfl,?_,?_,?_,?_,?_⟩
     ·show w.1<=max w.1 s.1;omega
     ·show min w.2.1 s.2<=w.2.1;omega
     ·show s.1<=max w.1 s.1;omega
     ·show min w.2.1 s.2<=s.2;omega
     show max w.1 s.1=w.1\/max w.1 s.1=s.1;omega
    obtain⟨q1,s',w',q2,q3,q4⟩:=rest.fr x m;exact⟨q1,s',w',sub1 _ q2,sub2 _ q3,q4⟩
   ·split
    ·exact pairwise_singleton _ _
    exact .nil
   ·obtain⟨rfl,hle⟩:=hd a ma;obtain⟨q1,s',w',q2,q3,q4,q5,q6,q7,q8,q9⟩:=rest.fr b mb;show min w.2.1 s.2<b.2.1;by_cases c:s.2<w.2.1
    ·rw[if_pos c] at q2;have:=hs2.1 s' q2;omega
    rw[if_neg c] at q3;have:=hw2.1 w' q3;omega
   rw[xZ,gF];have old:s'∈(if s.2<w.2.1 then ss else s::ss)->w'∈(if s.2<w.2.1 then w::ws else ws)->cov (newOf r w'.2.2) n:=fun a b=>rest.al s' w' n a b h1 h2 h3 h4;by_cases c:s.2<w.2.1
   ·rw[if_pos c,if_pos c] at old;rcases mem_cons.mp ms with rfl|ms
    ·rcases mem_cons.mp mw with rfl|mw
     ·left;have hle:max w'.1 s'.1<=min w'.2.1 s'.2:=ω;rw[if_pos hle];exact⟨_,iW.mpr (mem_singleton.mpr rfl),by show max w'.1 s'.1<=n;omega,by show n<=min w'.2.1 s'.2;omega⟩
     have:=hw2.1 w' mw;omega
    exact .inr (old ms mw)
   rw[if_neg c,if_neg c] at old;rcases mem_cons.mp mw with rfl|mw
   ·rcases mem_cons.mp ms with rfl|ms
    ·left;have hle:max w'.1 s'.1<=min w'.2.1 s'.2:=ω;rw[if_pos hle];exact⟨_,iW.mpr (mem_singleton.mpr rfl),by show max w'.1 s'.1<=n;omega,by show n<=min w'.2.1 s'.2;omega⟩
    have:=hs2.1 s' ms;omega
   exact .inr (old ms mw)
theorem Ea.dis {ss:List (Int×Int)}{ws:List (Int×Int×Int)}{out:List (Int×(Int×Int))}(h:Ea ss ws out)(g:Int):Dis (newOf out g):=by
 refine⟨fun s m=>(h.fr _ (iW.mp m)).1,pairwise_map.mpr ((h.up.sublist List.filter_sublist).imp fun q=>.inl q)⟩
theorem Ea.cov {ss:List (Int×Int)}{ws:List (Int×Int×Int)}{out:List (Int×(Int×Int))}(h:Ea ss ws out)(g n:Int):L2.cov (newOf out g) n↔L2.cov ss n/\∃w,w∈ws/\w.2.2=g/\w.1<=n/\n<=w.2.1:=by
 constructor
 ·rintro⟨s,m,h1,h2⟩;obtain⟨q1,s',w',q2,q3,q4,q5,q6,q7,q8,q9⟩:=h.fr _ (iW.mp m);have q5:w'.1<=s.1:=q5;have q6:s.2<=w'.2.1:=q6;have q7:s'.1<=s.1:=q7;have q8:s.2<=s'.2:=q8;exact⟨⟨s',q2,ω,ω⟩,w',q3,q4,ω,ω⟩
 rintro⟨⟨s,m,h1,h2⟩,w,mw,rfl,h3,h4⟩;exact h.al s w n m mw h1 h2 h3 h4
noncomputable def Goes (cs:List RowC)(n:Int)(y:Nat)(x:Int):Prop:=∃c,cs[y]?=some c/\gC c=false/\dN c (y:Int) n=some x
theorem Goes.lt {cs:List RowC}{n:Int}{y:Nat}{x:Int}(hr:cI cs)(h:Goes cs n y x):(y:Int)<x/\x<cs.length:=by
 obtain⟨c,hc,_,hs⟩:=h;exact jO hr hc hs
theorem Goes.inj {cs:List RowC}{n:Int}{y:Nat}{x z:Int}(h:Goes cs n y x)(k:Goes cs n y z):x=z:=by
 obtain⟨c,hc,_,hs⟩:=h;obtain⟨d,hd,_,ht⟩:=k;rw[hc] at hd;cases hd;rw[hs] at ht;cases ht;rfl
structure Wf (cs:List RowC)(n:Int)(j:Nat)(o:Option Int)(L:List Int):Prop where
 rg:∀x,x∈L->(j:Int)<=x/\x<cs.length
 hd:(j:Int)∈L
 pr:∀x,x∈L->x=j\/∃y:Nat,(y:Int)∈L/\Goes cs n y x
 nx:∀(y:Nat) x,(y:Int)∈L->Goes cs n y x->x∈L
 bt:∀(y z:Nat) x,(y:Int)∈L->(z:Int)∈L->y<z->Goes cs n y x->x<=z
 pk:∀(y:Nat) l,(y:Int)∈L->cs[y]?=some (.pik l)->o=some l
 bd:∀(y:Nat) c,(y:Int)∈L->cs[y]?=some c->gC c=false->dN c y n=none->o=none
 en:(∃(y:Nat)(l:Int),(y:Int)∈L/\cs[y]?=some (.pik l)/\o=some l)\/∃(y:Nat)(c:RowC),(y:Int)∈L/\cs[y]?=some c/\gC c=false/\dN c y n=none/\o=none
theorem HD {cs:List RowC}{n:Int}(hr:cI cs):∀(k j:Nat),j<cs.length->cs.length<=j+k->Wf cs n j (runC cs n k j).1 (runC cs n k j).2:=by
 intro k
 induction k with
 | zero=>intro j h1 h2;omega
 | succ k ih=>
  intro j h1 h2;have hc:cs[j]?=some cs[j]:=getElem?_eq_getElem h1;have hc':cs[((j:Nat):Int).toNat]?=some cs[j]:=by rw[toNat_natCast];exact hc
  cases hp:gC cs[j] with
  | true=>
   cases e:cs[j] with
   | pik l=>
    rw[e] at hc hc';rw[uG hc'];have only:∀{y:Nat},(y:Int)∈[(j:Int)]->y=j:=fun m=>by have:=mem_singleton.mp m;omega
    have ng:∀{x:Int},¬Goes cs n j x:=fun⟨c,q,q2,_⟩=>by rw[hc] at q;cases q;cases q2
    refine⟨fun x m=>?_,mem_singleton.mpr rfl,fun x m=>.inl (mem_singleton.mp m),fun y x m g=>?_,fun y z x m1 m2 lt _=>?_,fun y l' m q=>?_,fun y c m q q2 _=>?_,.inl ⟨j,l,mem_singleton.mpr rfl,hc,rfl⟩⟩
    ·rw[mem_singleton.mp m];omega
    ·rw[only m] at g;exact absurd g ng
    ·have:=only m1;have:=only m2;omega
    ·rw[only m,hc] at q;cases q;rfl
    rw[only m,hc] at q;cases q;cases q2
   | _=>rw[e] at hp;cases hp
  | false=>
   cases hs:dN cs[j] (j:Int) n with
   | none=>
    rw[zE hc' hp hs];have only:∀{y:Nat},(y:Int)∈[(j:Int)]->y=j:=fun m=>by have:=mem_singleton.mp m;omega
    have ng:∀{x:Int},¬Goes cs n j x:=fun⟨c,q,q2,q3⟩=>by rw[hc] at q;cases q;rw[hs] at q3;cases q3
    refine⟨fun x m=>?_,mem_singleton.mpr rfl,fun x m=>.inl (mem_singleton.mp m),fun y x m g=>?_,fun y z x m1 m2 lt _=>?_,fun y l' m q=>?_,fun y c m q q2 _=>rfl,.inr ⟨j,_,mem_singleton.mpr rfl,hc,hp,hs,rfl⟩⟩
    ·rw[mem_singleton.mp m];omega
    ·rw[only m] at g;exact absurd g ng
    ·have:=only m1;have:=only m2;omega
    rw[only m,hc] at q;rw[Option.some.inj q] at hp;cases hp
   | some t=>
    have hb:=jO hr hc hs;obtain⟨tn,rfl⟩:=Int.eq_ofNat_of_zero_le (show 0<=t by omega);rw[zF hc' hp hs];have I:=ih tn ω ω;have gj:Goes cs n j (tn:Int):=⟨_,hc,hp,hs⟩;generalize (runC cs n k (tn:Int)).1=o at I;generalize (runC cs n k (tn:Int)).2=L at I;have sp:∀{y:Nat},(y:Int)∈(j:Int)::L->y=j\/(y:Int)∈L:=fun m=>by
     rcases mem_cons.mp m with m|m
     ·left;omega
     exact .inr m
    refine⟨fun x m=>?_,mem_cons_self ..,fun x m=>?_,fun y x m g=>?_,fun y z x m1 m2 lt g=>?_,fun y l m q=>?_,fun y c m q q2 q3=>?_,?_⟩
    ·rcases mem_cons.mp m with rfl|m
     ·omega
     have:=I.rg x m;omega
    ·rcases mem_cons.mp m with e|m
     ·exact .inl e
     rcases I.pr x m with e|⟨y,m2,g⟩
     ·rw[e];exact .inr ⟨j,mem_cons_self ..,gj⟩
     exact .inr ⟨y,mem_cons_of_mem _ m2,g⟩
    ·rcases sp m with rfl|m
     ·rw[g.inj gj];exact mem_cons_of_mem _ I.hd
     exact mem_cons_of_mem _ (I.nx y x m g)
    ·rcases sp m2 with e2|m4
     ·rcases sp m1 with e1|m3
      ·omega
      have:=(I.rg _ m3).1;omega
     rcases sp m1 with e1|m3
     ·subst e1;rw[g.inj gj];exact(I.rg _ m4).1
     exact I.bt y z x m3 m4 lt g
    ·rcases sp m with rfl|m
     ·rw[hc] at q;rw[Option.some.inj q] at hp;cases hp
     exact I.pk y l m q
    ·rcases sp m with rfl|m
     ·rw[hc] at q;cases q;rw[hs] at q3;cases q3
     exact I.bd y c m q q2 q3
    rcases I.en with⟨y,l,m,q⟩|⟨y,c,m,q⟩
    ·exact .inl ⟨y,l,mem_cons_of_mem _ m,q⟩
    exact .inr ⟨y,c,mem_cons_of_mem _ m,q⟩
noncomputable def Cm (cs:List RowC)(n:Int)(j:Nat):Prop:=(j:Int)∈(runOf cs n).2
theorem p7 {cs:List RowC}{n:Int}(hr:cI cs):Wf cs n 0 (runOf cs n).1 (runOf cs n).2:=HD hr cs.length 0 hr.1 ω
theorem Cm.iff {cs:List RowC}{n:Int}(hr:cI cs)(j:Nat):Cm cs n j↔j=0\/∃y:Nat,y<j/\Cm cs n y/\Goes cs n y (j:Int):=by
 have I:=p7 (n:=n) hr;constructor
 ·intro h;rcases I.pr _ h with e|⟨y,m,g⟩
  ·left;omega
  exact .inr ⟨y,by have:=g.lt hr;omega,m,g⟩
 rintro(rfl|⟨y,_,m,g⟩)
 ·exact I.hd
 exact I.nx y _ m g
noncomputable def stC:RowC->Int->Prop
 | .one a _,n=>n=a\/n=a+1
 | .rng a b _,n=>n=a\/n=b+1
 | .low a _,n=>n=a
 | .msk lo wd _ _,n=>lo<=n/\n<lo+wd
 | .tab lo gs,n=>lo<=n/\n<lo+gs.length
 | .pik _,_=>False
structure Bp (m:Nat)(c:RowC)(j:Nat)(lo hi:Int)(ws:List (Int×Int×Int)):Prop where
 up:ws.Pairwise fun a b=>a.2.1<b.1
 cv:∀n g,lo<=n->n<=hi->((∃w,w∈ws/\w.2.2=g/\w.1<=n/\n<=w.2.1)↔gC c=false/\dN c j n=some g)
 gl:∀w,w∈ws->(j:Int)<w.2.2/\w.2.2<m
 st:∀w,w∈ws->w.1=lo\/stC c w.1
noncomputable def YD (cs:List RowC)(low n:Int):Prop:=n=low\/∃(i:Nat)(c:RowC),cs[i]?=some c/\stC c n
structure CI (cs:List RowC)(low high:Int)(X:Nat->List (Int×Int))(k:Nat):Prop where
 dn:∀j,j<k->Gap (X j)
 dc:∀j n,j<k->(cov (X j) n↔low<=n/\n<=high/\Cm cs n j)
 ra:∀j,k<=j->Dis (X j)
 rc:∀j n,k<=j->(cov (X j) n↔low<=n/\n<=high/\(j=0\/∃y:Nat,y<k/\Cm cs n y/\Goes cs n y (j:Int)))
 fs:∀j s,s∈X j->YD cs low s.1
theorem CI.start {cs:List RowC}{low high:Int}(h:low<=high):CI cs low high (fun j=>if j=0 then [(low,high)] else []) 0:=by
 refine⟨fun j z=>absurd z (not_lt_zero _),fun j n z=>absurd z (not_lt_zero _),fun j _=>?_,fun j n _=>?_,fun j s m=>?_⟩
 ·split
  ·exact Dis.one h
  exact Dis.nil
 ·by_cases c:j=0
  ·rw[if_pos c,iT];exact⟨fun q=>⟨q.1,q.2,.inl c⟩,fun q=>⟨q.1,q.2.1⟩⟩
  rw[if_neg c];exact⟨fun q=>absurd q qF,fun⟨_,_,q⟩=>by rcases q with q|⟨y,q,_⟩ <;> omega⟩
 split at m
 ·rw[mem_singleton.mp m];exact .inl rfl
 cases m
theorem CI.at {cs:List RowC}{low high:Int}{X:Nat->List (Int×Int)}{k:Nat}(hr:cI cs)(h:CI cs low high X k)(n:Int):cov (X k) n↔low<=n/\n<=high/\Cm cs n k:=by
 rw[h.rc k n (le_refl _),Cm.iff hr]
theorem CI.step {cs:List RowC}{low high:Int}{X:Nat->List (Int×Int)}{k:Nat}{c:RowC}{ys:List (Int×Int)}{ws:List (Int×Int×Int)}{out:List (Int×(Int×Int))}(hr:cI cs)(hc:cs[k]?=some c)(h:CI cs low high X k)
  (gy:Gap ys) (cy:∀n,cov ys n↔cov (X k) n) (fy:∀s,s∈ys->∃z,z∈X k/\z.1=s.1) (hw:Bp cs.length c k low high ws) (hs:Ea ys ws out):CI cs low high (fun j=>(if j=k then ys else X j)++newOf out (j:Int)) (k+1):=by
 have em:∀j:Nat,j<=k->newOf out (j:Int)=[]:=fun j hj=>by
  refine List.eq_nil_iff_forall_not_mem.mpr fun s m=>?_;obtain⟨_,s',w,_,mw,e,_⟩:=hs.fr _ (iW.mp m);have:=(hw.gl w mw).1;have e:w.2.2=(j:Int):=e;omega
 have nw:∀(j:Nat) n,cov (newOf out (j:Int)) n↔low<=n/\n<=high/\Cm cs n k/\Goes cs n k (j:Int):=fun j n=>by
  rw[hs.cov,cy,h.at hr];constructor
  ·rintro⟨⟨a,b,cm⟩,w⟩;obtain⟨p,st⟩:=(hw.cv n _ a b).mp w;exact⟨a,b,cm,c,hc,p,st⟩
  rintro⟨a,b,cm,c',hc',p,st⟩;rw[hc] at hc';cases hc';exact⟨⟨a,b,cm⟩,(hw.cv n _ a b).mpr ⟨p,st⟩⟩
 refine⟨fun j hj=>?_,fun j n hj=>?_,fun j hj=>?_,fun j n hj=>?_,fun j s m=>?_⟩
 ·rw[em j ω,append_nil];by_cases e:j=k
  ·rw[if_pos e];exact gy
  rw[if_neg e];exact h.dn j ω
 ·rw[em j ω,append_nil];by_cases e:j=k
  ·rw[if_pos e,cy,e];exact h.at hr n
  rw[if_neg e];exact h.dc j n ω
 ·rw[if_neg ω];refine(h.ra j ω).app (hs.dis _) fun n a b=>?_;obtain⟨_,_,cm,g⟩:=(nw j n).mp b;obtain⟨_,_,q⟩:=(h.rc j n ω).mp a;rcases q with q|⟨y,hy,cy',gy'⟩
  ·omega
  have:=(p7 (n:=n) hr).bt y k _ cy' cm hy gy';omega
 ·rw[if_neg ω,gF,h.rc j n ω,nw];constructor
  ·rintro(⟨a,b,q⟩|⟨a,b,cm,g⟩)
   ·refine⟨a,b,?_⟩;rcases q with q|⟨y,hy,q⟩
    ·exact .inl q
    exact .inr ⟨y,ω,q⟩
   exact⟨a,b,.inr ⟨k,ω,cm,g⟩⟩
  rintro⟨a,b,q⟩;rcases q with q|⟨y,hy,cm,g⟩
  ·exact .inl ⟨a,b,.inl q⟩
  by_cases e:y=k
  ·subst e;exact .inr ⟨a,b,cm,g⟩
  exact .inl ⟨a,b,.inr ⟨y,ω,cm,g⟩⟩
 have old:∀s,s∈ys->YD cs low s.1:=fun s m=>by
  obtain⟨z,mz,e⟩:=fy s m;rw[<- e];exact h.fs k z mz
 rcases mem_append.mp m with m|m
 ·split at m
  ·exact old s m
  exact h.fs j s m
 obtain⟨_,s',w,ms,mw,_,_,_,_,_,e⟩:=hs.fr _ (iW.mp m);have e:s.1=w.1\/s.1=s'.1:=e;rcases e with e|e
 ·rw[e];rcases hw.st w mw with q|q
  ·exact .inl q
  exact .inr ⟨k,c,hc,q⟩
 rw[e];exact old s' ms
theorem CI.inside {cs:List RowC}{low high:Int}{X:Nat->List (Int×Int)}{k:Nat}(h:CI cs low high X k)(j:Nat)(s:Int×Int)(m:s∈X j):s.1<=s.2/\low<=s.1/\s.2<=high:=by
 have ne:s.1<=s.2:=by
  by_cases c:j<k
  ·exact(h.dn j c).ne s m
  exact(h.ra j ω).ne s m
 have cv:∀n,cov (X j) n->low<=n/\n<=high:=fun n q=>by
  by_cases c:j<k
  ·have:=(h.dc j n c).mp q;exact⟨this.1,this.2.1⟩
  have:=(h.rc j n ω).mp q;exact⟨this.1,this.2.1⟩
 exact⟨ne,(cv s.1 ⟨s,m,Int.le_refl _,ne⟩).1,(cv s.2 ⟨s,m,ne,Int.le_refl _⟩).2⟩
theorem Gap.dis {xs:List (Int×Int)}(h:Gap xs):Dis xs:=⟨h.ne,h.up.imp fun {a b} q=>.inl ω⟩
noncomputable def iJ:RowC->Prop
 | .rng a b _=>a<=b
 | _=>True
theorem vV {o m t:Int}(h:btw o m t=true):o<t/\t<m:=by
 unfold btw at h;rwa [and_eq_true,decide_eq_true_eq,decide_eq_true_eq] at h
theorem K7 {m j:Nat}{l lo hi:Int}:Bp m (.pik l) j lo hi []:=⟨.nil,fun n g _ _=>⟨fun⟨w,q,_⟩=>(by cases q),fun⟨q,_⟩=>(by cases q)⟩,fun w q=>(by cases q),fun w q=>(by cases q)⟩
theorem La {m j:Nat}{a t lo hi:Int}(h:gU m j (.low a t)):Bp m (.low a t) j lo hi [(lo,a-1,t),(a,hi,(j:Int)+1)]:=by
 have hb:=vV (o:=(j:Int)) (m:=m) (t:=t) h;refine⟨pairwise_cons.mpr ⟨fun b mb=>?_,pairwise_singleton _ _⟩,fun n g h1 h2=>?_,fun w mw=>?_,fun w mw=>?_⟩
 ·rw[mem_singleton.mp mb];show a-1<a;omega
 ·show _↔_/\some (if n<a then t else (j:Int)+1)=some g;constructor
  ·rintro⟨w,mw,e,q1,q2⟩;refine⟨rfl,?_⟩;rcases mem_cons.mp mw with rfl|mw
   ·rw[if_pos (show n<a by have q2:n<=a-1:=q2;omega)];exact congrArg _ e
   rw[mem_singleton.mp mw] at e q1;rw[if_neg (show ¬n<a by have q1:a<=n:=q1;omega)];exact congrArg _ e
  rintro⟨_,e⟩;by_cases c:n<a
  ·rw[if_pos c] at e;exact⟨_,mem_cons_self ..,Option.some.inj e,h1,by show n<=a-1;omega⟩
  rw[if_neg c] at e;exact⟨_,mem_cons_of_mem _ (mem_singleton.mpr rfl),Option.some.inj e,by show a<=n;omega,h2⟩
 ·rcases mem_cons.mp mw with rfl|mw
  ·exact hb
  rw[mem_singleton.mp mw];exact⟨by show(j:Int)<j+1;omega,by show(j:Int)+1<m;omega⟩
 rcases mem_cons.mp mw with rfl|mw
 ·exact .inl rfl
 rw[mem_singleton.mp mw];exact .inr rfl
theorem Bv {m j:Nat}{c:RowC}{a b t lo hi:Int}(hp:gC c=false)(hs:∀n,dN c (j:Int) n=some (if a<=n/\n<=b then t else (j:Int)+1))(hst:∀n,n=a\/n=b+1->stC c n)(hb:btw (j:Int) m t=true)(hab:a<=b) :
  Bp m c j lo hi [(lo,a-1,(j:Int)+1),(a,b,t),(b+1,hi,(j:Int)+1)]:=by
 have hb:=vV hb;refine⟨pairwise_cons.mpr ⟨fun x mx=>?_,pairwise_cons.mpr ⟨fun x mx=>?_,pairwise_singleton _ _⟩⟩,fun n g h1 h2=>?_,fun w mw=>?_,fun w mw=>?_⟩
 ·show a-1<x.1;rcases mem_cons.mp mx with rfl|mx
  ·show a-1<a;omega
  rw[mem_singleton.mp mx];show a-1<b+1;omega
 ·rw[mem_singleton.mp mx];show b<b+1;omega
 ·rw[hs n];constructor
  ·rintro⟨w,mw,e,q1,q2⟩;refine⟨hp,?_⟩;rcases mem_cons.mp mw with rfl|mw
   ·rw[if_neg (show ¬(a<=n/\n<=b) by have q2:n<=a-1:=q2;omega)];exact congrArg _ e
   rcases mem_cons.mp mw with rfl|mw
   ·rw[if_pos (show a<=n/\n<=b from⟨q1,q2⟩)];exact congrArg _ e
   rw[mem_singleton.mp mw] at e q1;rw[if_neg (show ¬(a<=n/\n<=b) by have q1:b+1<=n:=q1;omega)];exact congrArg _ e
  rintro⟨_,e⟩;by_cases c1:a<=n/\n<=b
  ·rw[if_pos c1] at e;exact⟨_,mem_cons_of_mem _ (mem_cons_self ..),Option.some.inj e,c1.1,c1.2⟩
  rw[if_neg c1] at e;by_cases c2:n<a
  ·exact⟨_,mem_cons_self ..,Option.some.inj e,h1,by show n<=a-1;omega⟩
  exact⟨_,mem_cons_of_mem _ (mem_cons_of_mem _ (mem_singleton.mpr rfl)),Option.some.inj e,by show b+1<=n;omega,h2⟩
 ·rcases mem_cons.mp mw with rfl|mw
  ·exact⟨by show(j:Int)<j+1;omega,by show(j:Int)+1<m;omega⟩
  rcases mem_cons.mp mw with rfl|mw
  ·exact hb
  rw[mem_singleton.mp mw];exact⟨by show(j:Int)<j+1;omega,by show(j:Int)+1<m;omega⟩
 rcases mem_cons.mp mw with rfl|mw
 ·exact .inl rfl
 rcases mem_cons.mp mw with rfl|mw
 ·exact .inr (hst _ (.inl rfl))
 rw[mem_singleton.mp mw];exact .inr (hst _ (.inr rfl))
theorem K8 {m j:Nat}{a t lo hi:Int}(h:gU m j (.one a t)):Bp m (.one a t) j lo hi [(lo,a-1,(j:Int)+1),(a,a,t),(a+1,hi,(j:Int)+1)]:=by
 refine Bv rfl (fun n=>?_) (fun n h=>h) h (Int.le_refl _);show some (if n=a then t else (j:Int)+1)=_;by_cases c:n=a
 ·rw[if_pos c,if_pos ω]
 rw[if_neg c,if_neg ω]
theorem K6 {m j:Nat}{a b t lo hi:Int}(h:gU m j (.rng a b t))(hab:a<=b):Bp m (.rng a b t) j lo hi [(lo,a-1,(j:Int)+1),(a,b,t),(b+1,hi,(j:Int)+1)]:=
 Bv rfl (fun n=>rfl) (fun n h=>h) h hab
structure lH (first:Int)(goals:List Int)(ws:List (Int×Int×Int))(i:Nat):Prop where
 up:ws.Pairwise fun a b=>a.2.1<b.1
 cv:∀n g,(∃w,w∈ws/\w.2.2=g/\w.1<=n/\n<=w.2.1)↔first<=n/\n<first+i/\goals[(n-first).toNat]?=some g
 rg:∀w,w∈ws->first<=w.1/\w.1<=w.2.1/\w.2.1<first+i/\w.2.2∈goals
 ls:∀w,ws.getLast?=some w->w.2.1=first+i-1
 ln:ws.length<=i
theorem lH.start (first:Int)(goals:List Int):lH first goals [] 0:=
 ⟨.nil,fun n g=>⟨fun⟨w,q,_⟩=>(by cases q),fun⟨a,b,_⟩=>ω⟩,fun w q=>(by cases q),fun w q=>(by cases q),le_refl _⟩
theorem lH.fresh {first:Int}{goals:List Int}{ws:List (Int×Int×Int)}{i:Nat}{g:Int}(h:lH first goals ws i)(hg:goals[i]?=some g):lH first goals (ws++[(first+i,first+i,g)]) (i+1):=by
 refine⟨pairwise_append.mpr ⟨h.up,pairwise_singleton _ _,fun a ma b mb=>?_⟩,fun n g'=>?_,fun w mw=>?_,fun w q=>?_,by rw[length_append,length_singleton];have:=h.ln;omega⟩
 ·rw[mem_singleton.mp mb];exact(h.rg a ma).2.2.1
 ·constructor
  ·rintro⟨w,mw,e,q1,q2⟩;rcases mem_append.mp mw with mw|mw
   ·have:=(h.cv n g').mp ⟨w,mw,e,q1,q2⟩;exact⟨this.1,ω,this.2.2⟩
   rw[mem_singleton.mp mw] at e q1 q2;have q1:first+i<=n:=q1
   have q2:n<=first+i:=q2
   have e:g=g':=e;exact⟨ω,ω,by rw[show(n-first).toNat=i by omega,hg,e]⟩
  rintro⟨a,b,e⟩;by_cases c:n<first+i
  ·obtain⟨w,mw,q⟩:=(h.cv n g').mpr ⟨a,c,e⟩;exact⟨w,mem_append_left _ mw,q⟩
  rw[show(n-first).toNat=i by omega,hg] at e
  exact⟨_,mem_append_right _ (mem_singleton.mpr rfl),Option.some.inj e,by show first+i<=n;omega,by show n<=first+i;omega⟩
 ·rcases mem_append.mp mw with mw|mw
  ·have:=h.rg w mw;exact⟨this.1,this.2.1,ω,this.2.2.2⟩
  rw[mem_singleton.mp mw];exact⟨by show first<=first+i;omega,Int.le_refl _,by show first+(i:Int)<first+((i+1:Nat):Int);omega,mem_of_getElem? hg⟩
 have:w=(first+i,first+i,g):=by simpa using q.symm
 rw[this];show first+(i:Int)=first+((i+1:Nat):Int)-1
 omega
theorem lH.grown {first:Int}{goals:List Int}{pre:List (Int×Int×Int)}{t:Int×Int×Int}{i:Nat}{g:Int}(h:lH first goals (pre++[t]) i)(hg:goals[i]?=some g)(hl:t.2.2=g):lH first goals (pre++[(t.1,first+i,g)]) (i+1):=by
 have hu:=pairwise_append.mp h.up;have ht:=h.rg t (by simp);have hlast:=h.ls t (by simp);refine⟨pairwise_append.mpr ⟨hu.1,pairwise_singleton _ _,fun a ma b mb=>?_⟩,fun n g'=>?_,fun w mw=>?_,fun w q=>?_,by have:=h.ln;simp only[length_append,length_singleton] at this |-;omega⟩
 ·rw[mem_singleton.mp mb];exact hu.2.2 a ma t (by simp)
 ·constructor
  ·rintro⟨w,mw,e,q1,q2⟩;rcases mem_append.mp mw with mw|mw
   ·have:=(h.cv n g').mp ⟨w,mem_append_left _ mw,e,q1,q2⟩;exact⟨this.1,ω,this.2.2⟩
   rw[mem_singleton.mp mw] at e q1 q2;have q1:t.1<=n:=q1;have q2:n<=first+i:=q2
   have e:g=g':=e;by_cases c:n<=t.2.1
   ·have:=(h.cv n g').mp ⟨t,by simp,by rw[hl,e],q1,c⟩;exact⟨this.1,ω,this.2.2⟩
   exact⟨ω,ω,by rw[show(n-first).toNat=i by omega,hg,e]⟩
  rintro⟨a,b,e⟩;by_cases c:n<first+i
  ·obtain⟨w,mw,e1,q1,q2⟩:=(h.cv n g').mpr ⟨a,c,e⟩;rcases mem_append.mp mw with mw|mw
   ·exact⟨w,mem_append_left _ mw,e1,q1,q2⟩
   rw[mem_singleton.mp mw] at e1 q1 q2;exact⟨_,mem_append_right _ (mem_singleton.mpr rfl),by show g=g';rw[<- hl];exact e1,q1,by show n<=first+i;omega⟩
  rw[show(n-first).toNat=i by omega,hg] at e
  exact⟨_,mem_append_right _ (mem_singleton.mpr rfl),Option.some.inj e,by show t.1<=n;omega,by show n<=first+i;omega⟩
 ·rcases mem_append.mp mw with mw|mw
  ·have:=h.rg w (mem_append_left _ mw);exact⟨this.1,this.2.1,ω,this.2.2.2⟩
  rw[mem_singleton.mp mw];exact⟨ht.1,by show t.1<=first+i;omega,by show first+(i:Int)<first+((i+1:Nat):Int);omega,mem_of_getElem? hg⟩
 have:w=(t.1,first+i,g):=by simpa using q.symm
 rw[this];show first+(i:Int)=first+((i+1:Nat):Int)-1
 omega
theorem K5 {m j:Nat}{first lo hi:Int}{gs:List Int}{ws:List (Int×Int×Int)}(h:gU m j (.tab first gs))(hw:lH first gs ws gs.length):Bp m (.tab first gs) j lo hi ws:=by
 refine⟨hw.up,fun n g h1 h2=>?_,fun w mw=>?_,fun w mw=>?_⟩
 ·rw[hw.cv];show _↔_/\(if 0<=n-first/\n-first<gs.length then gs[(n-first).toNat]? else none)=some g
  constructor
  ·rintro⟨a,b,e⟩;exact⟨rfl,by rw[if_pos ω];exact e⟩
  rintro⟨_,e⟩;split at e
  ·exact⟨ω,ω,e⟩
  cases e
 ·exact vV (all_eq_true.mp h _ (hw.rg w mw).2.2.2)
 have:=hw.rg w mw;exact .inr ⟨this.1,ω⟩
noncomputable def vm (j:Int)(wd bits t:Int):List Int:=(List.range wd.toNat).map fun(p:Nat)=>if bitAt bits (p:Int)=true then t else j+1
theorem JV (j wd bits t:Int):(vm j wd bits t).length=wd.toNat:=by unfold vm;simp
theorem Dd {j wd bits t:Int}{p:Nat}(h:p<wd.toNat):(vm j wd bits t)[p]?=some (if bitAt bits (p:Int)=true then t else j+1):=by
 unfold vm;rw[getElem?_map,List.getElem?_range h];rfl
theorem K9 {m j:Nat}{first wd bits t lo hi:Int}{ws:List (Int×Int×Int)}(h:gU m j (.msk first wd bits t))(hw:lH first (vm j wd bits t) ws wd.toNat):Bp m (.msk first wd bits t) j lo hi ws:=by
 obtain⟨hb,h1,h2,h3⟩:=h;have hb:=vV hb;refine⟨hw.up,fun n g l1 l2=>?_,fun w mw=>?_,fun w mw=>?_⟩
 ·rw[hw.cv];show _↔_/\(if 0<=n-first/\n-first<wd then some (if bitAt bits (n-first)=true then t else (j:Int)+1) else none)=some g
  constructor
  ·rintro⟨a,b,e⟩;rw[Dd ω,show(((n-first).toNat:Nat):Int)=n-first by omega] at e
   exact⟨rfl,by rw[if_pos ω];exact e⟩
  rintro⟨_,e⟩;split at e
  ·refine⟨ω,ω,?_⟩;rw[Dd ω,show(((n-first).toNat:Nat):Int)=n-first by omega]
   exact e
  cases e
 ·have:=(hw.rg w mw).2.2.2;unfold vm at this;obtain⟨p,_,e⟩:=mem_map.mp this;rw[<- e];split
  ·exact hb
  exact⟨ω,ω⟩
 have:=hw.rg w mw;exact .inr ⟨this.1,ω⟩
noncomputable def lbL (lo hi:Int):List (Int×Int)->Option Int
 | []=>none
 | s::ss=>if s.1<lo then some s.1 else if s.2>hi then some (max s.1 (hi+1)) else lbL lo hi ss
noncomputable def lbC (c:RowC)(ss:List (Int×Int)):Option Int:=match yM c with
 | none=>none
 | some e=>lbL e.1 e.2 ss
theorem Di {lo hi:Int}:∀{ss:List (Int×Int)},(∀s,s∈ss->s.1<=s.2)->(lbL lo hi ss=none ↔ ∀n,cov ss n->lo<=n/\n<=hi)
 | [],_=>⟨fun _ n q=>absurd q qF,fun _=>rfl⟩
 | s::ss,hn=>by
  have h1:=hn s (mem_cons_self ..);unfold lbL;by_cases c1:s.1<lo
  ·rw[if_pos c1];exact⟨fun q=>(by cases q),fun q=>by have:=(q s.1 (fu.mpr (.inl ⟨Int.le_refl _,h1⟩))).1;omega⟩
  rw[if_neg c1];by_cases c2:s.2>hi
  ·rw[if_pos c2];exact⟨fun q=>(by cases q),fun q=>by have:=(q s.2 (fu.mpr (.inl ⟨h1,Int.le_refl _⟩))).2;omega⟩
  rw[if_neg c2,Di fun t m=>hn t (mem_cons_of_mem _ m)];constructor
  ·intro q n hc;rcases fu.mp hc with hc|hc
   ·omega
   exact q n hc
  exact fun q n hc=>q n (fu.mpr (.inr hc))
theorem Dh {lo hi m:Int}:∀{ss:List (Int×Int)},Gap ss->lbL lo hi ss=some m->cov ss m/\¬(lo<=m/\m<=hi)/\∀n,cov ss n->¬(lo<=n/\n<=hi)->m<=n
 | [],_,h=>(by cases h)
 | s::ss,hg,h=>by
  have h1:=hg.ne s (mem_cons_self ..);have hu:=pairwise_cons.mp hg.up;have lat:∀n,cov ss n->s.2<n:=fun n ⟨t,mt,q,_⟩=>by have:=hu.1 t mt;omega
  unfold lbL at h;by_cases c1:s.1<lo
  ·rw[if_pos c1] at h;cases h;refine⟨fu.mpr (.inl ⟨Int.le_refl _,h1⟩),ω,fun n hc _=>?_⟩;rcases fu.mp hc with hc|hc
   ·exact hc.1
   have:=lat n hc;omega
  rw[if_neg c1] at h;by_cases c2:s.2>hi
  ·rw[if_pos c2] at h;cases h;refine⟨fu.mpr (.inl ⟨ω,ω⟩),ω,fun n hc hn=>?_⟩;rcases fu.mp hc with hc|hc
   ·omega
   have:=lat n hc;omega
  rw[if_neg c2] at h;obtain⟨q1,q2,q3⟩:=Dh ⟨fun t mt=>hg.ne t (mem_cons_of_mem _ mt),hu.2⟩ h;refine⟨fu.mpr (.inr q1),q2,fun n hc hn=>?_⟩;rcases fu.mp hc with hc|hc
  ·omega
  exact q3 n hc hn
theorem j7 {c:RowC}{o:Int}(hp:gC c=false):∀n,(∀e,yM c=some e->e.1<=n/\n<=e.2)↔dN c o n≠none:=by
 intro n;cases c with
 | pik l=>cases hp
 | msk lo wd bits t=>
  show(∀e,some (lo,lo+wd-1)=some e->_)↔(if 0<=n-lo/\n-lo<wd then some (if bitAt bits (n-lo)=true then t else o+1) else none)≠none;constructor
  ·intro h;have:=h _ rfl;have h1:lo<=n:=this.1;have h2:n<=lo+wd-1:=this.2;rw[if_pos ω];simp
  intro h e he;cases he;split at h
  ·exact⟨by show lo<=n;omega,by show n<=lo+wd-1;omega⟩
  exact absurd rfl h
 | tab lo gs=>
  show(∀e,some (lo,lo+(gs.length:Int)-1)=some e->_)↔(if 0<=n-lo/\n-lo<gs.length then gs[(n-lo).toNat]? else none)≠none;constructor
  ·intro h;have:=h _ rfl;have h1:lo<=n:=this.1;have h2:n<=lo+(gs.length:Int)-1:=this.2;rw[if_pos ω,getElem?_eq_getElem ω];simp
  intro h e he;cases he;split at h
  ·exact⟨by show lo<=n;omega,by show n<=lo+(gs.length:Int)-1;omega⟩
  exact absurd rfl h
 | _=>exact⟨fun _=>by simp [dN],fun _ e he=>by cases he⟩
theorem PJ {c:RowC}{ss:List (Int×Int)}{o:Int}(hp:gC c=false)(hn:∀s,s∈ss->s.1<=s.2):lbC c ss=none ↔ ∀n,cov ss n->dN c o n≠none:=by
 unfold lbC;cases he:yM c with
 | none=>exact⟨fun _ n _=>(j7 (o:=o) hp n).mp fun e q=>(by rw[he] at q;cases q),fun _=>rfl⟩
 | some e=>
  show lbL e.1 e.2 ss=none↔_;rw[Di hn];constructor
  ·intro q n hc;exact(j7 (o:=o) hp n).mp fun e' q'=>by rw[he] at q';cases q';exact q n hc
  intro q n hc;exact(j7 (o:=o) hp n).mpr (q n hc) e he
structure WI (ss os:List (Int×Int))(i k:Nat):Prop where
 ins:∀n,cov (ss.take i) n->cov os n
 pre:∀o,o∈os.take k->∀s,s∈ss.drop i->o.2<s.2
 le:k<=os.length
noncomputable def v8 (xs:List (Int×Int))(a b:Int):List (Int×Int):=match xs.getLast? with
 | some t=>if t.2=a-1 then xs.dropLast++[(t.1,b)] else xs++[(a,b)]
 | none=>[(a,b)]
theorem Rr {a b:Int}:v8 [] a b=[(a,b)]:=rfl
theorem v7 {pre:List (Int×Int)}{t:Int×Int}{a b:Int}(h:t.2=a-1):v8 (pre++[t]) a b=pre++[(t.1,b)]:=by
 unfold v8;rw[List.getLast?_concat];simp only[List.dropLast_concat];rw[if_pos h]
theorem vZ {pre:List (Int×Int)}{t:Int×Int}{a b:Int}(h:t.2≠a-1):v8 (pre++[t]) a b=pre++[t]++[(a,b)]:=by
 unfold v8;rw[List.getLast?_concat];simp only;rw[if_neg h]
theorem VP {xs:List (Int×Int)}{a b:Int}(h:Gap xs)(hl:∀n,cov xs n->n<a)(hab:a<=b):Gap (v8 xs a b)/\∀n,cov (v8 xs a b) n↔cov xs n\/(a<=n/\n<=b):=by
 rcases eq_nil_or_concat xs with rfl|⟨pre,t,rfl⟩
 ·rw[Rr];refine⟨⟨fun s m=>by rw[mem_singleton.mp m];exact hab,pairwise_singleton _ _⟩,fun n=>?_⟩;rw[iT];exact⟨.inr,fun q=>q.elim (fun z=>absurd z qF) id⟩
 rw[concat_eq_append] at h hl |-;have tn:t.1<=t.2:=h.ne t (mem_append_right _ (.head _));have ta:t.2<a:=hl t.2 ⟨t,mem_append_right _ (.head _),tn,Int.le_refl _⟩;have hu:=pairwise_append.mp h.up;by_cases e:t.2=a-1
 ·rw[v7 e];refine⟨⟨fun s m=>?_,pairwise_append.mpr ⟨hu.1,pairwise_singleton _ _,fun s m u mu=>?_⟩⟩,fun n=>?_⟩
  ·rcases mem_append.mp m with m|m
   ·exact h.ne s (mem_append_left _ m)
   rw[mem_singleton.mp m];show t.1<=b;omega
  ·rw[mem_singleton.mp mu];exact hu.2.2 s m t (.head _)
  rw[gF,gF,iT,iT];constructor
  ·rintro(q|q)
   ·exact .inl (.inl q)
   rcases lt_or_le n a with z|z
   ·exact .inl (.inr ⟨q.1,ω⟩)
   exact .inr ⟨z,q.2⟩
  rintro((q|q)|q)
  ·exact .inl q
  ·exact .inr ⟨q.1,by show n<=b;omega⟩
  exact .inr ⟨by show t.1<=n;omega,q.2⟩
 rw[vZ e];refine⟨⟨fun s m=>?_,pairwise_append.mpr ⟨h.up,pairwise_singleton _ _,fun s m u mu=>?_⟩⟩,fun n=>?_⟩
 ·rcases mem_append.mp m with m|m
  ·exact h.ne s m
  rw[mem_singleton.mp m];exact hab
 ·rw[mem_singleton.mp mu];show s.2+1<a;rcases mem_append.mp m with m|m
  ·have:=hu.2.2 s m t (.head _);omega
  rw[mem_singleton.mp m];omega
 rw[gF,iT]
noncomputable def ctC:RowC->Int->Prop
 | .one a _,n=>n=a\/n=a+1
 | .rng a b _,n=>n=a\/n=b+1
 | .low a _,n=>n=a
 | .msk lo wd _ _,n=>lo<=n/\n<=lo+wd
 | .tab lo gs,n=>lo<=n/\n<=lo+gs.length
 | .pik _,_=>False
theorem Jo {c:RowC}{o n m:Int}(h:n<=m)(hc:∀k,n<k->k<=m->¬ctC c k):dN c o n=dN c o m:=by
 rcases lt_or_le n m with z|z
 case inr=>rw[show n=m by omega]
 cases c with
 | one a t=>
  have h1:¬(n<a/\a<=m):=fun q=>hc a q.1 q.2 (.inl rfl);have h2:¬(n<a+1/\a+1<=m):=fun q=>hc _ q.1 q.2 (.inr rfl);exact congrArg some (ite_congr (propext ⟨fun q=>ω,fun q=>ω⟩) (fun _=>rfl) fun _=>rfl)
 | rng a b t=>
  have h1:¬(n<a/\a<=m):=fun q=>hc a q.1 q.2 (.inl rfl);have h2:¬(n<b+1/\b+1<=m):=fun q=>hc _ q.1 q.2 (.inr rfl);exact congrArg some (ite_congr (propext ⟨fun q=>ω,fun q=>ω⟩) (fun _=>rfl) fun _=>rfl)
 | low a t=>
  have h1:¬(n<a/\a<=m):=fun q=>hc a q.1 q.2 rfl;exact congrArg some (ite_congr (propext ⟨fun q=>ω,fun q=>ω⟩) (fun _=>rfl) fun _=>rfl)
 | msk lo wd bits t=>
  have h1:¬(lo<=n+1/\n+1<=lo+wd):=fun q=>hc (n+1) ω ω q;have h2:¬(n<lo/\lo<=m/\0<=wd):=fun q=>hc lo q.1 q.2.1 ⟨Int.le_refl _,ω⟩;have e:∀k,n<=k->k<=m->¬(0<=k-lo/\k-lo<wd):=fun k _ _=>by omega
  exact(if_neg (e n (Int.le_refl _) h)).trans (if_neg (e m h (Int.le_refl _))).symm
 | tab lo gs=>
  have h1:¬(lo<=n+1/\n+1<=lo+gs.length):=fun q=>hc (n+1) ω ω q;have h2:¬(n<lo/\lo<=m):=fun q=>hc lo q.1 q.2 ⟨Int.le_refl _,ω⟩;have e:∀k,n<=k->k<=m->¬(0<=k-lo/\k-lo<gs.length):=fun k _ _=>by omega
  exact(if_neg (e n (Int.le_refl _) h)).trans (if_neg (e m h (Int.le_refl _))).symm
 | pik l=>rfl
theorem xO {cs:List RowC}{n m:Int}(h:n<=m)(hc:∀c,c∈cs->∀k,n<k->k<=m->¬ctC c k):∀(k:Nat)(a:Int),runC cs n k a=runC cs m k a
 | 0,_=>rfl
 | k+1,a=>by
  unfold runC;cases e:cs[a.toNat]? with
  | none=>rfl
  | some c=>
   have s:=Jo (c:=c) (o:=a) h (hc c (mem_of_getElem? e));cases c with
   | pik l=>rfl
   | _=>
    simp only[s];split
    ·rfl
    rename_i t _;rw[xO h hc k t]
theorem Eu {cs:List RowC}{n m:Int}(h:n<=m)(hc:∀c,c∈cs->∀k,n<k->k<=m->¬ctC c k):runOf cs n=runOf cs m:=xO h hc _ _
theorem MK {cs:List RowC}{n:Int}(hr:cI cs):∀(k j:Nat),j<cs.length->cs.length<=j+k->(runC cs n k j).2.Pairwise (· < ·)
 | 0,j,h1,h2=>by omega
 | k+1,j,h1,h2=>by
  have hc:cs[((j:Nat):Int).toNat]?=some cs[j]:=by rw[toNat_natCast];exact getElem?_eq_getElem h1
  unfold runC;rw[hc];split
  ·exact pairwise_singleton _ _
  ·rename_i c _ e;cases e;split
   ·exact pairwise_singleton _ _
   rename_i t ht;obtain⟨b1,b2⟩:=jO hr (getElem?_eq_getElem h1) ht;obtain⟨u,rfl⟩:=Int.eq_ofNat_of_zero_le (show 0<=t by omega);refine pairwise_cons.mpr ⟨fun x m=>?_,MK hr k u ω ω⟩;have:=(HD (n:=n) hr k u ω ω).rg x m;omega
  exact pairwise_singleton _ _
theorem WL {cs:List RowC}{n:Int}(hr:cI cs):(runOf cs n).2.Nodup:=(MK hr cs.length 0 hr.1 ω).imp fun {a b} q=>by omega
structure LC (cs:List RowC)(low a b:Int)(js:List Int)(X:Nat->List (Int×Int)):Prop where
 gap:∀j,Gap (X j)
 cv:∀(j:Nat) n,cov (X j) n↔(low<=n/\n<a/\Cm cs n j)\/(a<=n/\n<=b/\(j:Int)∈js)
theorem LC.start (cs:List RowC)(low b:Int):LC cs low low b [] fun _=>[]:=
 ⟨fun _=>.nil,fun j n=>⟨fun q=>absurd q qF,fun q=>by
  rcases q with q|⟨_,_,q⟩
  ·omega
  cases q⟩⟩
theorem LC.grow {cs:List RowC}{low a b:Int}{js:List Int}{X:Nat->List (Int×Int)}{j:Nat}(h:LC cs low a b js X)(hab:a<=b)(hj:(j:Int)∉js) :
  LC cs low a b (js++[(j:Int)]) fun i=>if i=j then v8 (X j) a b else X i:=by
 obtain⟨g,c⟩:=VP (a:=a) (b:=b) (h.gap j) (fun n q=>by
  rcases(h.cv j n).mp q with q|q
  ·exact q.2.1
  exact absurd q.2.2 hj) hab
 refine⟨fun i=>?_,fun i n=>?_⟩
 ·show Gap (if i=j then _ else _);split
  ·exact g
  exact h.gap i
 show cov (if i=j then _ else _) n↔_;rw[mem_append,mem_singleton];by_cases e:i=j
 ·subst e;rw[if_pos rfl,c n,h.cv i n];constructor
  ·rintro((q|q)|q)
   ·exact .inl q
   ·exact .inr ⟨q.1,q.2.1,.inl q.2.2⟩
   exact .inr ⟨q.1,q.2,.inr rfl⟩
  rintro(q|q)
  ·exact .inl (.inl q)
  exact .inr ⟨q.1,q.2.1⟩
 rw[if_neg e,h.cv i n];constructor
 ·rintro(q|q)
  ·exact .inl q
  exact .inr ⟨q.1,q.2.1,.inl q.2.2⟩
 rintro(q|⟨q1,q2,q⟩)
 ·exact .inl q
 rcases q with q|q
 ·exact .inr ⟨q1,q2,q⟩
 omega
theorem LC.turn {cs:List RowC}{low a b b':Int}{X:Nat->List (Int×Int)}(h:LC cs low a b (runOf cs a).2 X)(hl:low<=a)(hab:a<=b)(he:∀n,a<=n->n<=b->runOf cs a=runOf cs n):LC cs low (b+1) b' [] X:=by
 refine⟨h.gap,fun j n=>(h.cv j n).trans ⟨?_,?_⟩⟩
 ·rintro(q|q)
  ·exact .inl ⟨q.1,ω,q.2.2⟩
  refine .inl ⟨ω,ω,?_⟩;unfold Cm;rw[<- he n q.1 q.2.1];exact q.2.2
 rintro(⟨q1,q2,q⟩|⟨_,_,q⟩)
 ·rcases lt_or_le n a with z|z
  ·exact .inl ⟨q1,z,q⟩
  refine .inr ⟨z,ω,?_⟩;unfold Cm at q;rw[he n z ω];exact q
 cases q
inductive bf {α:Type}(en:α->List V)(H:Hp):List V->List α->Prop
 | nil:bf en H [] []
 | cons {p:Addr} {x:α} {us:List V} {xs:List α}:H p=some (.tup (en x))->bf en H us xs->bf en H (.ref p::us) (x::xs)
section
variable {α:Type}{en:α->List V}{H H':Hp}
theorem bf.length:∀{us:List V}{xs:List α},bf en H us xs->us.length=xs.length
 | _,_,.nil=>rfl
 | _,_,.cons _ t=>by rw[length_cons,length_cons,t.length]
theorem bf.keep:∀{us:List V}{xs:List α},bf en H us xs->(∀p ys,H p=some (.tup ys)->H' p=some (.tup ys))->bf en H' us xs
 | _,_,.nil,_=>.nil
 | _,_,.cons e t,k=>.cons (k _ _ e) (t.keep k)
theorem bf.same {us:List V}{xs:List α}(h:bf en H us xs)(s:Same H H'):bf en H' us xs:=h.keep fun p ys e=>s _ _ e
theorem bf.sU {us:List V}{xs:List α}(h:bf en H us xs){l:Addr}{ys:List V}{o:HO}(e:H l=some (.lst ys)):bf en (upd H l o) us xs:=h.keep fun p zs ep=>by
 rw[aH (fun z=>by rw[z,e] at ep;cases ep)];exact ep
theorem bf.yZ {us:List V}{xs:List α}(h:bf en H us xs){l:Addr}{o:HO}(e:H l=none):bf en (upd H l o) us xs:=h.same (au e)
theorem bf.get:∀{us:List V}{xs:List α},bf en H us xs->∀{i:Nat}{x:α},xs[i]?=some x->∃p,us[i]?=some (.ref p)/\H p=some (.tup (en x))
 | _,_,.nil,_,_,h=>by cases h
 | _,_,.cons (p:=p) e t,0,_,h=>by cases h;exact⟨p,rfl,e⟩
 | _,_,.cons e t,i+1,_,h=>t.get (i:=i) h
theorem bf.got:∀{us:List V}{xs:List α},bf en H us xs->∀{i:Nat}{u:V},us[i]?=some u->∃p x,u=.ref p/\xs[i]?=some x/\H p=some (.tup (en x))
 | _,_,.nil,_,_,h=>by cases h
 | _,_,.cons (p:=p) e t,0,_,h=>by cases h;exact⟨p,_,rfl,rfl,e⟩
 | _,_,.cons e t,i+1,_,h=>t.got (i:=i) h
theorem bf.app:∀{us vs:List V}{xs ys:List α},bf en H us xs->bf en H vs ys->bf en H (us++vs) (xs++ys)
 | _,_,_,_,.nil,k=>k
 | _,_,_,_,.cons e t,k=>.cons e (t.app k)
theorem bf.snoc {us:List V}{xs:List α}(h:bf en H us xs){p:Addr}{x:α}(e:H p=some (.tup (en x))):bf en H (us++[.ref p]) (xs++[x]):=h.app (.cons e .nil)
theorem bf.split:∀{xs:List α}{us:List V}{x:α},bf en H us (xs++[x])->∃vs p,us=vs++[.ref p]/\bf en H vs xs/\H p=some (.tup (en x))
 | [],us,x,h=>by
  cases h with
  | cons e t=>cases t;exact⟨[],_,rfl,.nil,e⟩
 | y::xs,us,x,h=>by
  cases h with
  | cons e t=>
   obtain⟨vs,p,rfl,k,ep⟩:=bf.split t;exact⟨_::vs,p,rfl,.cons e k,ep⟩
theorem bf.refs:∀{us:List V}{xs:List α},bf en H us xs->∃ps:List Addr,us=ps.map V.ref
 | _,_,.nil=>⟨[],rfl⟩
 | _,_,.cons (p:=p) e t=>by
  obtain⟨ps,rfl⟩:=t.refs;exact⟨p::ps,rfl⟩
theorem bf.read {dec:Addr->α}:∀{ps:List Addr}{xs:List α},bf en H (ps.map V.ref) xs->(∀p x,H p=some (.tup (en x))->dec p=x)->xs=ps.map dec/\∀p,p∈ps->H p=some (.tup (en (dec p)))
 | [],xs,h,_=>by cases h;exact⟨rfl,fun p m=>by cases m⟩
 | p::ps,xs,h,hd=>by
  cases h with
  | cons e t=>
   obtain⟨e1,e2⟩:=bf.read t hd;have ep:=hd _ _ e;refine⟨by rw[map_cons,ep,<- e1],fun q m=>?_⟩;rcases mem_cons.mp m with rfl|m
   ·rw[ep];exact e
   exact e2 q m
theorem bf.of_map {dec:Addr->α}:∀{ps:List Addr},(∀p,p∈ps->H p=some (.tup (en (dec p))))->bf en H (ps.map V.ref) (ps.map dec)
 | [],_=>.nil
 | p::ps,h=>.cons (h p (mem_cons_self ..)) (bf.of_map fun q m=>h q (mem_cons_of_mem _ m))
end
noncomputable def prE (s:Int×Int):List V:=[.int s.1,.int s.2]
noncomputable def trE (w:Int×Int×Int):List V:=[.int w.1,.int w.2.1,.int w.2.2]
noncomputable def wJ (H:Hp)(p:Addr):Int×Int:=match H p with
 | some (.tup [.int a,.int b])=>(a,b)
 | _=>(0,0)
theorem Tq {H:Hp}(p:Addr)(x:Int×Int)(h:H p=some (.tup (prE x))):wJ H p=x:=by
 unfold wJ;rw[h];rfl
theorem qI {α:Type}(xs:List α)(x:α):atI (xs++[x]) (-1)=some x:=by
 unfold atI ixN;rw[if_neg δ,if_pos (by rw[length_append,length_singleton];omega)];show(xs++[x])[(-1+((xs++[x]).length:Int)).toNat]?=_;rw[show(-1+((xs++[x]).length:Int)).toNat=xs.length by rw[length_append,length_singleton];omega];rw[getElem?_append_right (le_refl _),sub_self];rfl
theorem Am {α:Type}(xs:List α)(x:α):ixN (xs++[x]).length (-1)=some xs.length:=by
 unfold ixN;rw[if_neg δ,if_pos (by rw[length_append,length_singleton];omega)];rw[length_append,length_singleton];congr 1;omega
theorem uD {α:Type}(xs:List α)(x y:α):(xs++[x]).set xs.length y=xs++[y]:=by
 rw[List.set_append_right _ _ (le_refl _),sub_self];rfl
noncomputable def BK:Sp:=fun vs H Q _=>∃(g:Addr)(first:Int)(gs:List Int),vs=[.int first,.ref g]/\(H g=some (.tup (gs.map V.int))\/H g=some (.lst (gs.map V.int)))/\-(2^62)<=first/\first<2^62/\gs.length<=1000000 /\
 ∀(r:Addr)(H':Hp)(us:List V)(ws:List (Int×Int×Int)),Same H H'->H r=none->H' r=some (.lst us)->bf trE H' us ws->lH first gs ws gs.length->Q (.ref r) H'
noncomputable def G9:Sp:=fun vs H Q _=>∃(x:V)(at_ lo wd bits t:Int),vs=[x,.int at_]/\qJ H x (.msk lo wd bits t)/\1<=wd/\wd<=64/\0<=bits /\
 ∀(r:Addr)(H':Hp),Same H H'->H r=none->H' r=some (.lst ((vm at_ wd bits t).map V.int))->Q (.ref r) H'
noncomputable def bdC:RowC->Prop
 | .msk lo _ _ _=>-(2^62)<=lo/\lo<2^62
 | .tab lo gs=>-(2^62)<=lo/\lo<2^62/\gs.length<=1000
 | _=>True
noncomputable def Ma:Sp:=fun vs H Q _=>∃(x:V)(c:RowC)(m j:Nat)(lo hi:Int),vs=[x,.int (j:Int),.int lo,.int hi]/\qJ H x c/\gU m j c/\iJ c/\bdC c /\
 ∀(r:Addr)(H':Hp)(us:List V)(ws:List (Int×Int×Int)),Same H H'->H r=none->H' r=some (.lst us)->bf trE H' us ws->Bp m c j lo hi ws->ws.length<=1000000->Q (.ref r) H'
structure RAt (H:Hp)(lr:Addr)(ps:List Addr)(X:Nat->List (Int×Int)):Prop where
 e:H lr=some (.lst (ps.map V.ref))
 nr:lr∉ps
 nd:ps.Nodup
 el:∀(j:Nat) p,ps[j]?=some p->∃us,H p=some (.lst us)/\bf prE H us (X j)
theorem RAt.same {H H':Hp}{lr:Addr}{ps:List Addr}{X:Nat->List (Int×Int)}(h:RAt H lr ps X)(s:Same H H'):RAt H' lr ps X:=
 ⟨s _ _ h.e,h.nr,h.nd,fun j p hp=>by
  obtain⟨us,e,t⟩:=h.el j p hp;exact⟨us,s _ _ e,t.same s⟩⟩
theorem O2 {α:Type}{ps:List α}(h:ps.Nodup){i j:Nat}{p q:α}(hi:ps[i]?=some p)(hj:ps[j]?=some q)(n:i≠j):p≠q:=fun e=>by
 obtain⟨li,ei⟩:=List.getElem?_eq_some_iff.mp hi;obtain⟨lj,ej⟩:=List.getElem?_eq_some_iff.mp hj;exact n ((getElem_inj (h₀:=li) (h₁:=lj) h).mp (by rw[ei,ej,e]))
theorem RAt.push {H:Hp}{lr:Addr}{ps:List Addr}{X:Nat->List (Int×Int)}(h:RAt H lr ps X){g:Nat}{p q:Addr}{us:List V}{s:Int×Int}(hp:ps[g]?=some p)(e:H p=some (.lst us))(eq:H q=some (.tup (prE s))) :
  RAt (upd H p (.lst (us++[.ref q]))) lr ps fun j=>X j++(if j=g then [s] else []):=by
 have np:∀{b:Addr}{ys:List V},H b=some (.tup ys)->b≠p:=fun eb z=>by rw[z,e] at eb;cases eb
 have mp:p∈ps:=mem_of_getElem? hp;refine⟨by rw[aH (show lr≠p from fun z=>h.nr (z ▸ mp))];exact h.e,h.nr,h.nd,fun j b hb=>?_⟩;obtain⟨us',e',t⟩:=h.el j b hb;by_cases c:j=g
 ·subst c;rw[hp] at hb;cases hb;rw[e] at e';cases e';refine⟨_,aB,?_⟩;rw[if_pos rfl];exact(t.sU e).snoc (by rw[aH (np eq)];exact eq)
 rw[if_neg c,append_nil];exact⟨us',by rw[aH (O2 h.nd hb hp c)];exact e',t.sU e⟩
theorem RAt.put {H:Hp}{lr:Addr}{ps:List Addr}{X:Nat->List (Int×Int)}(h:RAt H lr ps X){k:Nat}{r:Addr}{us:List V}{ys:List (Int×Int)}(hk:k<ps.length)(hr:r∉ps)(hl:lr≠r)(e:H r=some (.lst us))(t:bf prE H us ys) :
  RAt (upd H lr (.lst ((ps.set k r).map V.ref))) lr (ps.set k r) fun j=>if j=k then ys else X j:=by
 refine⟨aB,fun m=>?_,?_,fun j p hp=>?_⟩
 ·rcases List.mem_or_eq_of_mem_set m with m|m
  ·exact h.nr m
  exact hl m
 ·refine pairwise_iff_getElem.mpr fun i j hi hj hij=>?_;rw[length_set] at hi hj;rw[List.getElem_set,List.getElem_set];have m1:ps[i]∈ps:=getElem_mem hi;have m2:ps[j]∈ps:=getElem_mem hj;split
  ·rw[if_neg ω];exact fun z=>hr (z ▸ m2)
  split
  ·exact fun z=>hr (z ▸ m1)
  exact fun z=>absurd ((getElem_inj h.nd).mp z) ω
 by_cases c:j=k
 ·subst c;rw[getElem?_set_self hk] at hp;cases hp;rw[if_pos rfl];exact⟨us,by rw[aH hl.symm];exact e,t.sU h.e⟩
 rw[List.getElem?_set_ne (Ne.symm c)] at hp;rw[if_neg c];obtain⟨us',e',t'⟩:=h.el j p hp;have:p≠lr:=fun z=>h.nr (z ▸ mem_of_getElem? hp);exact⟨us',by rw[aH this];exact e',t'.sU h.e⟩
noncomputable def fB (ps:List Addr)(H H':Hp):Prop:=∀b o,b∉ps->H b=some o->H' b=some o
theorem fB.refl (ps:List Addr)(H:Hp):fB ps H H:=fun _ _ _ h=>h
theorem fB.trans {ps:List Addr}{H H1 H2:Hp}(a:fB ps H H1)(b:fB ps H1 H2):fB ps H H2:=fun c o n h=>b c o n (a c o n h)
theorem Same.p {ps:List Addr}{H H':Hp}(h:Same H H'):fB ps H H':=fun b o _ q=>h b o q
theorem fB.upd {ps:List Addr}{H:Hp}{p:Addr}{o:HO}(m:p∈ps):fB ps H (upd H p o):=fun b u n h=>by rw[aH (show b≠p from fun z=>n (z ▸ m))];exact h
noncomputable def Mg:Sp:=fun vs H Q _=>∃(lr ls lw:Addr)(ps:List Addr)(X:Nat->List (Int×Int)) (us uw:List V) (ss:List (Int×Int)) (ws:List (Int×Int×Int)),vs=[.ref lr,.ref ls,.ref lw]/\RAt H lr ps X/\H ls=some (.lst us)/\bf prE H us ss/\H lw=some (.lst uw)/\bf trE H uw ws/\lw∉ps /\
 (∀w,w∈ws->0<=w.2.2/\w.2.2<ps.length/\∀p,ps[w.2.2.toNat]?=some p->p≠ls)/\(∀j,(X j).length+ss.length+ws.length<2000000) /\
 ∀(H':Hp),fB ps H H'->RAt H' lr ps (fun j=>X j++newOf (fW (ss.length+ws.length) ss ws) (j:Int))->Q .non H'
noncomputable def Hf:Sp:=fun vs H Q _=>∃(x:V)(c:RowC)(ls:Addr)(us:List V)(ss:List (Int×Int)),vs=[x,.ref ls]/\qJ H x c/\H ls=some (.lst us)/\bf prE H us ss/\∀H',Same H H'->Q (qU (lbC c ss)) H'
noncomputable def Hl:Sp:=fun vs H Q _=>∃(l r:Addr)(ok:Addr->Prop)(cs:List RowC)(ps:List Addr)(X:Nat->List (Int×Int)),vs=[.ref l,.ref r]/\aN ok H (.ref l) (.list (cs.map bJ))/\RAt H r ps X/\ps.length=cs.length /\
 (∀H',Same H H'->(∀(j:Nat) c,cs[j]?=some c->lbC c (X j)=none)->Q .non H') /\
 ∀(p:Addr)(H':Hp)(j:Nat)(c:RowC)(n:Int),Same H H'->H p=none->H' p=some (.tup [.int (j:Int),.int n])->cs[j]?=some c->lbC c (X j)=some n->(∀i c,i<j->cs[i]?=some c->lbC c (X i)=none)->Q (.ref p) H'
section
variable {α:Type}{en:α->List V}{H:Hp}
theorem bf.push {us:List V}{xs:List α}{r q:Addr}(t:bf en H us xs)(x:α)(er:H r=some (.lst us))(hq:H q=none):bf en (upd (upd H q (.tup (en x))) r (.lst (us++[.ref q]))) (us++[.ref q]) (xs++[x]):=by
 have nq:r≠q:=aF er hq;have er1:upd H q (.tup (en x)) r=some (.lst us):=by rw[aH nq];exact er
 exact((t.yZ hq).sU er1).snoc (by rw[aH nq.symm];exact aB)
theorem bf.swap {us:List V}{xs:List α}{r q p:Addr}(t:bf en H us xs)(x:α)(er:H r=some (.lst (us++[.ref p])))(hq:H q=none):bf en (upd (upd H q (.tup (en x))) r (.lst (us++[.ref q]))) (us++[.ref q]) (xs++[x]):=by
 have nq:r≠q:=aF er hq;have er1:upd H q (.tup (en x)) r=some (.lst (us++[.ref p])):=by rw[aH nq];exact er
 exact((t.yZ hq).sU er1).snoc (by rw[aH nq.symm];exact aB)
end
theorem Aa {α:Type}(us:List α)(x:α):(us++[x]).isEmpty=false:=by cases us <;> rfl
theorem fX {H H':Hp}{r q:Addr}{o u:HO}(s:Same H H')(hr:H r=none)(hq:H' q=none):Same H (upd (upd H' q o) r u):=jQ (s.trans (au hq)) hr
theorem uc {H:Hp}{r q d:Addr}{o u v:HO}(e:H d=some v)(n:d≠r)(hq:H q=none):upd (upd H q o) r u d=some v:=by
 rw[aH n,aH (aF e hq)];exact e
theorem VJ (bits p:Int):(Builtin.bitAnd (bits/2^p.toNat) 1 != 0)=bitAt bits p:=by
 unfold bitAt;generalize bits/2^p.toNat=x;have h:Builtin.bitAnd x 1=0\/Builtin.bitAnd x 1=1:=by rw[VN];omega
 rcases h with h|h <;> rw[h] <;> rfl
theorem Bt {c:RowC}(h:jw c = "pick"):∃l,c=.pik l:=by
 cases c with
 | one n t=>exact(cast Fp h).elim
 | rng a b t=>exact(cast uN h).elim
 | low n t=>exact(cast wL h).elim
 | msk l wd bits t=>exact(cast qb h).elim
 | tab l gs=>exact(cast oE h).elim
 | pik l=>exact⟨l,rfl⟩
theorem lM {c:RowC}(h:jw c = "table"):∃l gs,c=.tab l gs:=by
 cases c with
 | one n t=>exact(cast Cr h).elim
 | rng a b t=>exact(cast sW h).elim
 | low n t=>exact(cast uR h).elim
 | msk l wd bits t=>exact(cast oH h).elim
 | tab l gs=>exact⟨l,gs,rfl⟩
 | pik l=>exact(cast wK h).elim
theorem lN {c:RowC}(h:jw c = "mask"):∃l wd bits t,c=.msk l wd bits t:=by
 cases c with
 | one n t=>exact(cast Fq h).elim
 | rng a b t=>exact(cast uO h).elim
 | low n t=>exact(cast wM h).elim
 | msk l wd bits t=>exact⟨l,wd,bits,t,rfl⟩
 | tab l gs=>exact(cast oF h).elim
 | pik l=>exact(cast zX h).elim
theorem Bu {c:RowC}(h:jw c = "below"):∃n t,c=.low n t:=by
 cases c with
 | one n t=>exact(cast Cu h).elim
 | rng a b t=>exact(cast sX h).elim
 | low n t=>exact⟨n,t,rfl⟩
 | msk l wd bits t=>exact(cast oJ h).elim
 | tab l gs=>exact(cast mF h).elim
 | pik l=>exact(cast oG h).elim
theorem Rt (xs:List (Int×Int))(a b:Int):(v8 xs a b).length<=xs.length+1:=by
 rcases eq_nil_or_concat xs with rfl|⟨pre,t,rfl⟩
 ·exact le_refl _
 rw[concat_eq_append];by_cases e:t.2=a-1
 ·rw[v7 e,length_append,length_append];exact le_succ _
 rw[vZ e,length_append (bs:=[(a,b)])];exact le_refl _
noncomputable def LN (k:Nat)(js:List Int)(X:Nat->List (Int×Int)):Prop:=∀j:Nat,(X j).length<=k\/((X j).length<=k+1/\(j:Int)∈js)
theorem LN.le {k:Nat}{js:List Int}{X:Nat->List (Int×Int)}(h:LN k js X)(j:Nat):(X j).length<=k+1:=by
 rcases h j with q|q <;> omega
theorem LN.grow {k:Nat}{js:List Int}{X:Nat->List (Int×Int)}{j:Nat}{a b:Int}(h:LN k js X)(hj:(j:Int)∉js):LN k (js++[(j:Int)]) fun i=>if i=j then v8 (X j) a b else X i:=fun i=>by
 show(if i=j then _ else _:List (Int×Int)).length<=k\/((if i=j then _ else _:List (Int×Int)).length<=k+1/\_);by_cases e:i=j
 ·rw[if_pos e];rcases h j with q|q
  ·have:=Rt (X j) a b;exact .inr ⟨ω,mem_append_right _ (by rw[e];exact .head _)⟩
  exact absurd q.2 hj
 rw[if_neg e];rcases h i with q|q
 ·exact .inl q
 exact .inr ⟨q.1,mem_append_left _ q.2⟩
theorem LN.turn {k:Nat}{js:List Int}{X:Nat->List (Int×Int)}(h:LN k js X):LN (k+1) [] X:=fun j=>.inl (h.le j)
theorem RAt.chg {H:Hp}{lr:Addr}{ps:List Addr}{X:Nat->List (Int×Int)}(h:RAt H lr ps X){g:Nat}{p:Addr}{us vs:List V}{ys:List (Int×Int)}(hp:ps[g]?=some p)(e:H p=some (.lst us))(t':bf prE H vs ys) :
  RAt (upd H p (.lst vs)) lr ps fun j=>if j=g then ys else X j:=by
 have mp:p∈ps:=mem_of_getElem? hp;refine⟨by rw[aH (show lr≠p from fun z=>h.nr (z ▸ mp))];exact h.e,h.nr,h.nd,fun j b hb=>?_⟩;obtain⟨us',e',t⟩:=h.el j b hb;show ∃us,_/\bf prE _ us (if j=g then ys else X j);by_cases c:j=g
 ·subst c;rw[hp] at hb;cases hb;rw[if_pos rfl];exact⟨_,aB,t'.sU e⟩
 rw[if_neg c];exact⟨us',by rw[aH (O2 h.nd hb hp c)];exact e',t.sU e⟩
noncomputable def Hi:Sp:=fun vs H Q _=>∃(l:Addr)(ok:Addr->Prop)(cs:List RowC)(low high:Int),vs=[.ref l,.int low,.int high]/\aN ok H (.ref l) (.list (cs.map bJ))/\cI cs/\low<=high+1/\high<=low+1000/\-(2^61)<=low/\low<2^61 /\
 ∀(r:Addr)(ps:List Addr)(X:Nat->List (Int×Int)) (k:Nat) (H':Hp),Same H H'->H r=none->(∀p,p∈ps->H p=none)->RAt H' r ps X->ps.length=cs.length->LC cs low (high+1) (high+1) [] X->LN k [] X->k<=1001->Q (.ref r) H'
structure Cuts (cs:List RowC)(low high:Int)(ns:List Int):Prop where
 up:ns.Pairwise (· < ·)
 hd:ns[0]?=some low
 rg:∀m,m∈ns->low<=m/\m<=high
 al:∀c,c∈cs->∀m,ctC c m->low<=m->m<=high->m∈ns
noncomputable def nrC:RowC->Prop
 | .msk lo _ _ _=>-(2^61)<=lo/\lo<2^61
 | .tab lo gs=>-(2^61)<=lo/\lo<2^61/\gs.length<=200
 | _=>True
noncomputable def n6 (b:Int)(n:Nat):List Int:=(List.range n).map fun(k:Nat)=>b+(k:Int)
theorem Ca (b:Int)(n:Nat):Ey b n=(n6 b n).map V.int:=by unfold Ey n6;rw[map_map];rfl
theorem lY {b m:Int}{n:Nat}(h1:b<=m)(h2:m<b+n):m∈n6 b n:=mem_map.mpr ⟨(m-b).toNat,mem_range.mpr ω,ω⟩
theorem lZ (b:Int)(n:Nat):(n6 b n).length=n:=by unfold n6;rw[length_map,length_range]
theorem Cuts.of {cs:List RowC}{low high:Int}{ns us ys:List Int}(hl:low<=high)(h0:low∈ns)(hc:∀c,c∈cs->∀m,ctC c m->m∈ns)(hu:us=ns.filter fun b=>decide (low<=b)&&decide (b<=high))(hp:ys.Perm (SRT.ded us))(up:ys.Pairwise (· < ·)):Cuts cs low high ys:=by
 have mm:∀m,m∈ys↔m∈ns/\low<=m/\m<=high:=fun m=>by
  rw[hp.mem_iff,SRT.Vw,hu,mem_filter,and_eq_true,decide_eq_true_eq,decide_eq_true_eq]
 have ml:=(mm low).mpr ⟨h0,Int.le_refl _,hl⟩;refine⟨up,?_,fun m h=>((mm m).mp h).2,fun c mc m cm h1 h2=>(mm m).mpr ⟨hc c mc m cm,h1,h2⟩⟩;cases ys with
 | nil=>cases ml
 | cons y ys=>
  have:=((mm y).mp (.head _)).2.1;rcases mem_cons.mp ml with e|e
  ·rw[e];rfl
  have:=(pairwise_cons.mp up).1 low e;omega
noncomputable def Mp:Sp:=fun vs H Q _=>∃(l:Addr)(ok:Addr->Prop)(cs:List RowC)(low high:Int),vs=[.ref l,.int low,.int high]/\aN ok H (.ref l) (.list (cs.map bJ))/\cI cs/\(∀c,c∈cs->iJ c/\bdC c)/\cs.length<=15/\(∀c,c∈cs->nrC c)/\low<=high/\-(2^61)<=low/\high<2^61 /\
 ∀(r:Addr)(ns:List Int)(H':Hp),Same H H'->H r=none->H' r=some (.lst (ns.map V.int))->Cuts cs low high ns->ns.length<=3100->Q (.ref r) H'
noncomputable def smC:RowC->Prop
 | .one a _=>a.natAbs<=2^64
 | .rng a b _=>a.natAbs<=2^64/\b.natAbs<=2^64
 | .low a _=>a.natAbs<=2^64
 | .msk lo wd bits _=>lo.natAbs<=2^64/\wd.natAbs<=2^64/\bits.natAbs<=2^64
 | .tab lo gs=>lo.natAbs<=2^64/\gs.length<=200
 | .pik l=>l.natAbs<=2^64
structure wg (cs:List RowC):Prop where
 ok:cI cs
 rb:∀c,c∈cs->iJ c/\bdC c
 ln:cs.length<=30
 sm:∀c,c∈cs->smC c
noncomputable def lG:m9->Prop
 | .ins _ is=>∀i,is.head?=some i->i.natAbs<=1000
 | .tab _ _=>True
theorem nG {w:Str}{i:Int}{is:List Int}(h:i.natAbs<=1000):lG (.ins w (i::is)):=fun j e=>by cases e;exact h
theorem yc {rs:List m9}{r:m9}(h:∀r,r∈rs->lG r)(k:lG r):∀x,x∈rs++[r]->lG x:=fun x m=>by
 rcases mem_append.mp m with m|m
 ·exact h x m
 rw[mem_singleton.mp m];exact k
noncomputable def zf:Sp:=fun vs H Q _=>∃(p:Addr)(m B:Int),vs=[.ref p,.int m]/\bT H p B/\0<=B/\B<=900000/\1<=m/\m<=21 /\
 ∀(l:Addr)(rs:List m9) H',cF p H H'->bT H' p (B+20000)->aN (·≠p) H' (.ref l) (.list (rs.map wI))->(rs.length:Int)=m->(∀(j:Nat) r,rs[j]?=some r->iM m j r)->(∀r,r∈rs->lG r)->Q (.ref l) H'
theorem M4 {m o:Int}{r:m9}(h:iM m o r)(hn:lG r):∃c,wI r=bJ c/\gU m o c/\iJ c/\bdC c/\smC c:=by
 cases r with
 | tab n gs=>exact⟨.tab n gs,rfl,h.2.2.1,trivial,⟨by have:=h.2.2.2;omega,by have:=h.2.2.2;omega,by have:=h.2.1;omega⟩,by have:=h.2.2.2;show n.natAbs<=2^64;omega,h.2.1⟩
 | ins w is=>
  obtain⟨_,hs,hg,hb,_⟩:=h;rcases RD hs with rfl|rfl|rfl|rfl|rfl
  ·rw[eV (.inl rfl)] at hs;obtain⟨a,b,rfl⟩:=Zr (of_decide_eq_true hs);rw[fM ψ (show [a,b].getLast?=some b from rfl)] at hg;exact⟨.one a b,rfl,show btw o m b=true by simpa using hg,trivial,trivial,hb a (by simp)⟩
  ·rw[kj] at hs
   match is,hs,hg,hb with
   | [a,b,c],hs,hg,hb=>
    rw[fM ψ (show [a,b,c].getLast?=some c from rfl)] at hg;exact⟨.rng a b c,rfl,show btw o m c=true by simpa using hg,show a<=b from of_decide_eq_true hs,trivial,hb a (by simp),hb b (by simp)⟩
  ·rw[eV (.inr rfl)] at hs;obtain⟨a,b,rfl⟩:=Zr (of_decide_eq_true hs);rw[fM ψ (show [a,b].getLast?=some b from rfl)] at hg;exact⟨.low a b,rfl,show btw o m b=true by simpa using hg,trivial,trivial,hb a (by simp)⟩
  ·rw[oX] at hs
   match is,hs,hg,hb,hn with
   | [a,b,c,d],hs,hg,hb,hn=>
    rw[fM ψ (show [a,b,c,d].getLast?=some d from rfl)] at hg;replace hs:((decide (1<=b)&&decide (b<=64))&&(decide (0<=c)&&decide (c<2^b.toNat)))=true:=hs;rw[and_eq_true,and_eq_true,and_eq_true,decide_eq_true_eq,decide_eq_true_eq,decide_eq_true_eq] at hs;have:=hn a rfl;exact⟨.msk a b c d,rfl,⟨by simpa using hg,hs.1.1,hs.1.2,hs.2.1⟩,trivial,⟨ω,ω⟩,hb a (by simp),hb b (by simp),hb c (by simp)⟩
  have hsz:lW "pick" = (is.length:Int)+1:=by
   cases Decidable.em (lW "pick" = (is.length:Int)+1) with
   | inl z=>exact z
   | inr z=>rw[En z] at hs;cases hs
  obtain⟨a,rfl⟩:=Z5 (is:=is) (by rw[show lW "pick" = 2 by decide +kernel] at hsz;omega);exact⟨.pik a,rfl,trivial,trivial,trivial,hb a (by simp)⟩
theorem qR {m:Int}:∀{rs:List m9}(k:Nat),(∀(j:Nat) r,rs[j]?=some r->iM m ((k+j:Nat):Int) r)->(∀r,r∈rs->lG r)->∃cs:List RowC,rs.map wI=cs.map bJ/\cs.length=rs.length/\(∀(j:Nat) c,cs[j]?=some c->gU m ((k+j:Nat):Int) c)/\∀c,c∈cs->iJ c/\bdC c/\smC c
 | [],k,_,_=>⟨[],rfl,rfl,fun j c h=>(by cases h),fun c h=>(by cases h)⟩
 | r::rs,k,h,hn=>by
  obtain⟨c,e1,e2,e6,e7,e8⟩:=M4 (h 0 r rfl) (hn r (mem_cons_self ..));obtain⟨cs,e3,e4,e5,e9⟩:=qR (rs:=rs) (k+1) (fun j r hr=>by
   have:=h (j+1) r hr;rw[show k+(j+1)=k+1+j by omega] at this;exact this) fun x mx=>hn x (mem_cons_of_mem _ mx)
  refine⟨c::cs,by rw[map_cons,map_cons,e1,e3],by rw[length_cons,length_cons,e4],fun j c' hc=>?_,fun c' mc=>?_⟩
  ·cases j with
   | zero=>cases hc;exact e2
   | succ j=>
    have:=e5 j c' hc;rw[show k+1+j=k+(j+1) by omega] at this;exact this
  rcases mem_cons.mp mc with rfl|mc
  ·exact⟨e6,e7,e8⟩
  exact e9 c' mc
theorem MP {rs:List m9}{m:Int}(hl:(rs.length:Int)=m)(hm:1<=m)(hm2:m<=30)(h:∀(j:Nat) r,rs[j]?=some r->iM m j r)(hn:∀r,r∈rs->lG r):∃cs:List RowC,rs.map wI=cs.map bJ/\wg cs:=by
 obtain⟨cs,e1,e2,e3,e4⟩:=qR (m:=m) (rs:=rs) 0 (fun j r hr=>by rw[zero_add];exact h j r hr) hn;refine⟨cs,e1,⟨ω,fun j c hc=>?_⟩,fun c mc=>⟨(e4 c mc).1,(e4 c mc).2.1⟩,ω,fun c mc=>(e4 c mc).2.2⟩;have:=e3 j c hc;rw[zero_add,show m=(cs.length:Int) by omega] at this;exact this
theorem Wx {m o:Int}{c:RowC}(h:gU m o c)(ho:0<=o)(hm:m<=100)(hs:smC c):szD 0 (bJ c)/\nodes (bJ c)<=204/\(bJ c).depth<=2:=by
 have g:∀{t:Int},btw o m t=true->t.natAbs<=10^20*2^0:=fun {t} hb=>by have:=vV hb;omega
 have sz:∀{w:Str},w.length<=30->(∀c,c∈w.cps.toList->c<16^8)->szD 0 (.str w):=fun h1 h2=>⟨h1,h2⟩;cases c with
 | one a t=>
  replace hs:a.natAbs<=2^64:=hs;exact⟨⟨by show 3<=210*5^0;decide,sz ψ ψ,by show a.natAbs<=10^20*2^0;omega,g h,trivial⟩,by show 4<=204;decide,by show 1<=2;decide⟩
 | rng a b t=>
  replace hs:a.natAbs<=2^64/\b.natAbs<=2^64:=hs;exact⟨⟨by show 4<=210*5^0;decide,sz ψ ψ,by show a.natAbs<=10^20*2^0;omega,by show b.natAbs<=10^20*2^0;omega,g h,trivial⟩,by show 5<=204;decide,by show 1<=2;decide⟩
 | low a t=>
  replace hs:a.natAbs<=2^64:=hs;exact⟨⟨by show 3<=210*5^0;decide,sz ψ ψ,by show a.natAbs<=10^20*2^0;omega,g h,trivial⟩,by show 4<=204;decide,by show 1<=2;decide⟩
 | msk lo wd bits t=>
  replace hs:lo.natAbs<=2^64/\wd.natAbs<=2^64/\bits.natAbs<=2^64:=hs;exact⟨⟨by show 5<=210*5^0;decide,sz ψ ψ,by show lo.natAbs<=10^20*2^0;omega,by show wd.natAbs<=10^20*2^0;omega,by show bits.natAbs<=10^20*2^0;omega,g h.1,trivial⟩,by show 6<=204;decide,by show 1<=2;decide⟩
 | tab lo gs=>
  replace hs:lo.natAbs<=2^64/\gs.length<=200:=hs;have hn:=Ft gs;have hd:=Gs gs;refine⟨⟨by show 3<=210*5^0;decide,sz ψ ψ,by show lo.natAbs<=10^20*2^0;omega,⟨by rw[length_map];show gs.length<=210;omega,qM.mpr fun d md=>?_⟩,trivial⟩,?_,?_⟩
  ·obtain⟨t,mt,rfl⟩:=mem_map.mp md;exact g (all_eq_true.mp h t mt)
  ·show 1+(1+(1+((1+dR (gs.map PyData.int))+0)))<=204;omega
  show max 0 (max 0 (max (PyData.depthAll (gs.map PyData.int)+1) 0))+1<=2;rw[hd];decide
 | pik l=>
  replace hs:l.natAbs<=2^64:=hs;exact⟨⟨by show 2<=210*5^0;decide,sz ψ ψ,by show l.natAbs<=10^20*2^0;omega,trivial⟩,by show 3<=204;decide,by show 1<=2;decide⟩
noncomputable def vP (k e:Int):RowC->RowC
 | .one a t=>.one (a*k) t
 | .rng a b t=>.rng (a*k) (b*k+e) t
 | .low a t=>.low (a*k) t
 | .msk lo wd bits t=>.msk (lo*k) wd bits t
 | .tab lo gs=>.tab (lo*k) gs
 | .pik l=>.pik l
theorem Vo {m o k e:Int}{c:RowC}(h:gU m o c):gU m o (vP k e c):=by
 cases c <;> exact h
theorem Qy {k e:Int}{c:RowC}(hk:0<=k)(he:0<=e)(h:iJ c):iJ (vP k e c):=by
 cases c with
 | rng a b t=>
  have:=Int.mul_le_mul_of_nonneg_right (show a<=b from h) hk;show a*k<=b*k+e;omega
 | _=>trivial
noncomputable def qy (k:Int)(es:Nat->Int)(cs:List RowC):List RowC:=cs.mapIdx fun j c=>vP k (es j) c
theorem qx (k:Int)(es:Nat->Int)(cs:List RowC):(qy k es cs).length=cs.length:=by unfold qy;rw[List.length_mapIdx]
theorem Ij {k:Int}{es:Nat->Int}{cs:List RowC}{j:Nat}{c:RowC}(h:(qy k es cs)[j]?=some c):∃c',cs[j]?=some c'/\c=vP k (es j) c':=by
 unfold qy at h;rw[List.getElem?_mapIdx] at h;obtain⟨c',h1,h2⟩:=map_eq_some_iff.mp h;exact⟨c',h1,h2.symm⟩
theorem Kf {k:Int}{es:Nat->Int}{cs:List RowC}(h:cI cs):cI (qy k es cs):=by
 refine⟨by rw[qx];exact h.1,fun j c hc=>?_⟩;obtain⟨c',h1,rfl⟩:=Ij hc;rw[qx];exact Vo (h.2 j c' h1)
noncomputable def Mi:Sp:=fun vs H Q _=>∃(p:Addr)(m B:Int),vs=[.ref p,.int m]/\bT H p B/\0<=B/\B<=900000/\1<=m/\m<=15 /\
 ∀(l:Addr)(cs:List RowC) H',cF p H H'->bT H' p (B+20100)->aN (·≠p) H' (.ref l) (.list (cs.map bJ))->(cs.length:Int)=m->cI cs->(∀c,c∈cs->iJ c/\bdC c)->(∀c,c∈cs->nrC c)->Q (.ref l) H'
structure JW (zs told:List (Int×Int))(i:Nat):Prop where
 gap:Gap told
 cv:∀n,cov told n↔cov (zs.take i) n
 be:∀t,t∈told->∀z,z∈zs.drop i->t.1<=z.1
 fs:∀t,t∈told->∃z,z∈zs/\z.1=t.1
 ln:told.length<=i
theorem JW.start (zs:List (Int×Int)):JW zs [] 0:=⟨.nil,fun n=>Iff.rfl,fun t m=>(by cases m),fun t m=>(by cases m),le_refl _⟩
theorem JW.fresh {zs told:List (Int×Int)}{i:Nat}{z:Int×Int}(h:JW zs told i)(hz:zs[i]?=some z)(hn:∀s,s∈zs->s.1<=s.2)(hu:zs.Pairwise fun a b=>a.1<=b.1)
  (hl:∀t,told.getLast?=some t->¬z.1<=t.2+1):JW zs (told++[z]) (i+1):=by
 have mz:z∈zs:=mem_of_getElem? hz;have e:=qz hz;have hu2:(zs.drop i).Pairwise fun a b=>a.1<=b.1:=hu.sublist (drop_sublist _ _);rw[e] at hu2;have hu3:=pairwise_cons.mp hu2;refine⟨⟨fun s m=>?_,pairwise_append.mpr ⟨h.gap.up,pairwise_singleton _ _,fun a ma b mb=>?_⟩⟩,fun n=>?_,fun t m z' mz'=>?_,fun t m=>?_,by rw[length_append,length_singleton];have:=h.ln;omega⟩
 ·rcases mem_append.mp m with m|m
  ·exact h.gap.ne s m
  rw[mem_singleton.mp m];exact hn z mz
 ·rw[mem_singleton.mp mb];rcases eq_nil_or_concat told with e0|⟨pre,t,e0⟩
  ·rw[e0] at ma;cases ma
  subst e0;have h1:=hl t (by simp);have ma:a∈pre++[t]:=by simpa using ma
  have hup:(pre++[t]).Pairwise fun a b=>a.2+1<b.1:=by simpa using h.gap.up
  rcases mem_append.mp ma with m|m
  ·have:=(pairwise_append.mp hup).2.2 a m t (by simp);have:=h.gap.ne t (by simp);omega
  rw[mem_singleton.mp m];omega
 ·rw[gF,gZ hz,gF,h.cv]
 ·rcases mem_append.mp m with m|m
  ·exact h.be t m z' (by rw[e];exact mem_cons_of_mem _ mz')
  rw[mem_singleton.mp m];exact hu3.1 z' mz'
 rcases mem_append.mp m with m|m
 ·exact h.fs t m
 exact⟨z,mz,by rw[mem_singleton.mp m]⟩
theorem JW.grown {zs pre:List (Int×Int)}{t:Int×Int}{i:Nat}{z:Int×Int}(h:JW zs (pre++[t]) i)(hz:zs[i]?=some z)(hn:∀s,s∈zs->s.1<=s.2)(hu:zs.Pairwise fun a b=>a.1<=b.1)
  (hl:z.1<=t.2+1):JW zs (pre++[(t.1,max z.2 t.2)]) (i+1):=by
 have mz:z∈zs:=mem_of_getElem? hz;have e:=qz hz;have hu2:(zs.drop i).Pairwise fun a b=>a.1<=b.1:=hu.sublist (drop_sublist _ _);rw[e] at hu2;have hu3:=pairwise_cons.mp hu2;have hg:=pairwise_append.mp h.gap.up;have nt:=h.gap.ne t (by simp);have nz:=hn z mz;have tz:=h.be t (by simp) z (by rw[e];exact mem_cons_self ..);refine⟨⟨fun s m=>?_,pairwise_append.mpr ⟨hg.1,pairwise_singleton _ _,fun a ma b mb=>?_⟩⟩,fun n=>?_,fun s m z' mz'=>?_,fun s m=>?_,by have:=h.ln;simp only[length_append,length_singleton] at this |-;omega⟩
 ·rcases mem_append.mp m with m|m
  ·exact h.gap.ne s (mem_append_left _ m)
  rw[mem_singleton.mp m];show t.1<=max z.2 t.2;omega
 ·rw[mem_singleton.mp mb];exact hg.2.2 a ma t (by simp)
 ·rw[gZ hz,gF,gF,<- h.cv,gF,iT,iT,iT];show(cov pre n\/t.1<=n/\n<=max z.2 t.2)↔_;constructor
  ·rintro(q|⟨q1,q2⟩)
   ·exact .inl (.inl q)
   by_cases c:n<=t.2
   ·exact .inl (.inr ⟨q1,c⟩)
   exact .inr ⟨ω,ω⟩
  rintro((q|⟨q1,q2⟩)|⟨q1,q2⟩)
  ·exact .inl q
  ·exact .inr ⟨q1,ω⟩
  exact .inr ⟨ω,ω⟩
 ·rcases mem_append.mp m with m|m
  ·exact h.be s (mem_append_left _ m) z' (by rw[e];exact mem_cons_of_mem _ mz')
  rw[mem_singleton.mp m];have:=hu3.1 z' mz';have:=h.be t (by simp) z' (by rw[e];exact mem_cons_of_mem _ mz');show t.1<=z'.1;omega
 rcases mem_append.mp m with m|m
 ·exact h.fs s (mem_append_left _ m)
 rw[mem_singleton.mp m];exact h.fs t (by simp)
noncomputable def YH (w s:Int)(ys:List (Int×Int)):Prop:=∀y,y∈ys->wl w s<=y.1/\y.1<=y.2/\y.2<wl w s+2^w.toNat
structure CSp (w s:Int)(its:List It1)(ys:List (Int×Int)):Prop where
 gap:Gap ys
 ins:YH w s ys
 cv:∀n,Gb w s n->(cov ys n↔its.any (zV w n)=true)
 ln:ys.length<=128*its.length
structure GSp (w s:Int)(its:List It1)(ys:List (Int×Int)):Prop where
 ins:YH w s ys
 cv:∀n,Gb w s n->(cov ys n↔its.any (zV w n)=true)
 ln:ys.length<=128*its.length
noncomputable def Hj:Sp:=fun vs H Q _=>∃(l:Addr)(us:List V)(ss:List (Int×Int)),vs=[.ref l]/\H l=some (.lst us)/\bf prE H us ss/\(∀s,s∈ss->s.1<=s.2/\-1267650600228229401496703205376<s.2/\s.2<1267650600228229401496703205376)/\ss.length<=100000 /\
 ∀(r:Addr)(H':Hp)(us':List V)(ys:List (Int×Int)),Same H H'->H r=none->H' r=some (.lst us')->bf prE H' us' ys->Gap ys->(∀n,cov ys n↔cov ss n)->ys.length<=ss.length->Q (.ref r) H'
theorem Gap.fst {ys ss:List (Int×Int)}(g:Gap ys)(c:∀n,cov ys n↔cov ss n){s:Int×Int}(m:s∈ys):∃z,z∈ss/\z.1=s.1:=by
 have ne:=g.ne s m;obtain⟨z,mz,h1,h2⟩:=(c s.1).mp ⟨s,m,Int.le_refl _,ne⟩;refine⟨z,mz,?_⟩;rcases lt_or_le z.1 s.1 with h|h
 ·obtain⟨t,mt,t1,t2⟩:=(c (s.1-1)).mpr ⟨z,mz,ω,ω⟩;obtain⟨i,li,ei⟩:=mem_iff_getElem.mp m;obtain⟨j,lj,ej⟩:=mem_iff_getElem.mp mt;have up:=pairwise_iff_getElem.mp g.up;rcases Nat.lt_trichotomy i j with q|q|q
  ·have:=up i j li lj q;rw[ei,ej] at this;omega
  ·subst q;rw[ei] at ej;subst ej;omega
  have:=up j i lj li q;rw[ei,ej] at this;omega
 omega
noncomputable def GX (cs:List RowC)(low high:Int):Prop:=∃P:List Int,P.length<4000/\∀n,low<=n->n<=high->YD cs low n->n∈P
theorem CI.Vn {cs:List RowC}{low high:Int}{X:Nat->List (Int×Int)}{k:Nat}(h:CI cs low high X k)(hf:GX cs low high)(j:Nat):(X j).length<4000:=by
 obtain⟨P,hp,hq⟩:=hf;have hd:Dis (X j):=by
  by_cases c:j<k
  ·exact(h.dn j c).dis
  exact h.ra j ω
 refine lt_of_le_of_lt (hd.count fun s m=>?_) hp;have:=h.inside j s m;exact hq _ this.2.1 ω (h.fs j s m)
theorem vO {cs:List RowC}{low high:Int}(h:high-low<3000):GX cs low high:=
 ⟨n6 low (high-low+1).toNat,by rw[lZ];omega,fun n h1 h2 _=>lY h1 ω⟩
noncomputable def stL:RowC->List Int
 | .one a _=>[a,a+1]
 | .rng a b _=>[a,b+1]
 | .low a _=>[a]
 | .msk lo wd _ _=>n6 lo wd.toNat
 | .tab lo gs=>n6 lo gs.length
 | .pik _=>[]
theorem RZ {c:RowC}{n:Int}(h:stC c n):n∈stL c:=by
 cases c with
 | one a t=>rcases h with h|h <;> rw[h];exact .head _;exact .tail _ (.head _)
 | rng a b t=>rcases h with h|h <;> rw[h];exact .head _;exact .tail _ (.head _)
 | low a t=>cases h;exact .head _
 | msk lo wd bits t=>exact lY h.1 (by have:=h.2;omega)
 | tab lo gs=>exact lY h.1 h.2
 | pik l=>exact h.elim
theorem R0 {m o:Int}{c:RowC}(h:gU m o c)(hn:nrC c):(stL c).length<=200:=by
 cases c with
 | one a t=>show 2<=200;decide
 | rng a b t=>show 2<=200;decide
 | low a t=>show 1<=200;decide
 | msk lo wd bits t=>have:=h.2.2.1;show(n6 lo wd.toNat).length<=200;rw[lZ];omega
 | tab lo gs=>show(n6 lo gs.length).length<=200;rw[lZ];exact hn.2.2
 | pik l=>exact zero_le _
theorem yL {α β:Type}{f:α->List β}{k:Nat}:∀{cs:List α},(∀c,c∈cs->(f c).length<=k)->(cs.flatMap f).length<=k*cs.length
 | [],_=>zero_le _
 | c::cs,h=>by
  have h1:=h c (.head _);have h2:=yL (cs:=cs) fun x m=>h x (.tail _ m);rw[List.flatMap_cons,length_append,length_cons,Nat.mul_succ];omega
theorem Kc {cs:List RowC}{low high:Int}(hr:cI cs)(hl:cs.length<=15)(hn:∀c,c∈cs->nrC c):GX cs low high:=by
 have h1:(cs.flatMap stL).length<=200*cs.length:=yL fun c m=>by
  obtain⟨j,hj⟩:=mem_iff_getElem?.mp m;exact R0 (hr.2 j c hj) (hn c m)
 refine⟨low::cs.flatMap stL,by rw[length_cons];omega,fun n _ _ h=>?_⟩;rcases h with h|⟨i,c,hc,h⟩
 ·rw[h];exact .head _
 exact .tail _ (List.mem_flatMap.mpr ⟨c,mem_of_getElem? hc,RZ h⟩)
noncomputable def zj:Sp:=fun vs H Q _=>∃(l:Addr)(ok:Addr->Prop)(cs:List RowC)(low high:Int),vs=[.ref l,.int low,.int high]/\aN ok H (.ref l) (.list (cs.map bJ))/\cI cs/\(∀c,c∈cs->iJ c/\bdC c)/\low<=high/\GX cs low high/\-(2^61)<=low/\high<2^61 /\
 ∀(r:Addr)(ps:List Addr)(X:Nat->List (Int×Int)) (H':Hp),Same H H'->H r=none->(∀p,p∈ps->H p=none)->RAt H' r ps X->ps.length=cs.length->CI cs low high X cs.length->(∀j,(X j).length<4000)->Q (.ref r) H'
noncomputable def prD (s:Int×Int):PyData:=.tuple [.int s.1,.int s.2]
theorem Cz (c:RowC):noL (bJ c)=true:=by
 cases c with
 | tab lo gs=>show noL (.tuple [.str "table",.int lo,.tuple (gs.map PyData.int)])=true;rw[HS,jJ,jJ,jJ,jJ,Uz,HW,HS,xY];rfl
 | one a t=>simp [bJ,noL,jJ]
 | rng a b t=>simp [bJ,noL,jJ]
 | low a t=>simp [bJ,noL,jJ]
 | msk a b c d=>simp [bJ,noL,jJ]
 | pik l=>simp [bJ,noL,jJ]
theorem qY:∀cs:List RowC,jJ (cs.map bJ)=true
 | []=>by rw[map_nil,jJ]
 | c::cs=>by rw[map_cons,jJ,Cz,qY cs];rfl
theorem Qx (k e:Int) (c:RowC) (hs:smC c):(∃(w:Str)(a:Int)(d:PyData)(ds:List PyData),bJ c=.tuple (.str w :: .int a::d::ds)/\(w = "is" \/ w = "below" \/ w = "mask" \/ w = "table")/\bJ (vP k e c)=.tuple (.str w :: .int (a*k)::d::ds)/\a.natAbs<=2^64/\ds.length<=4)\/(∃a b t,c=.rng a b t)\/∃l,c=.pik l:=by
 cases c with
 | one a t=>exact .inl ⟨_,_,_,_,rfl,.inl rfl,rfl,hs,by show 0<=4;decide⟩
 | rng a b t=>exact .inr (.inl ⟨_,_,_,rfl⟩)
 | low a t=>exact .inl ⟨_,_,_,_,rfl,.inr (.inl rfl),rfl,hs,by show 0<=4;decide⟩
 | msk lo wd bits t=>exact .inl ⟨_,_,_,_,rfl,.inr (.inr (.inl rfl)),rfl,hs.1,by show 2<=4;decide⟩
 | tab lo gs=>exact .inl ⟨_,_,_,_,rfl,.inr (.inr (.inr rfl)),rfl,hs.1,by show 0<=4;decide⟩
 | pik l=>exact .inr (.inr ⟨_,rfl⟩)
noncomputable def nhC:RowC->Prop
 | .msk lo _ _ _=>lo.natAbs<=1000
 | .tab lo gs=>lo.natAbs<=1000/\gs.length<=200
 | _=>True
theorem Kd {e:Int}{c:RowC}(he:0<=e)(hr:iJ c)(hn:nhC c):(iJ (vP (10^9) e c)/\bdC (vP (10^9) e c))/\nrC (vP (10^9) e c):=by
 refine⟨⟨Qy δ he hr,?_⟩,?_⟩
 ·cases c with
  | msk lo wd bits t=>replace hn:lo.natAbs<=1000:=hn;show -(2^62)<=lo*10^9/\lo*10^9<2^62;omega
  | tab lo gs=>replace hn:lo.natAbs<=1000/\gs.length<=200:=hn;show -(2^62)<=lo*10^9/\lo*10^9<2^62/\gs.length<=1000;omega
  | _=>trivial
 cases c with
 | msk lo wd bits t=>replace hn:lo.natAbs<=1000:=hn;show -(2^61)<=lo*10^9/\lo*10^9<2^61;omega
 | tab lo gs=>replace hn:lo.natAbs<=1000/\gs.length<=200:=hn;show -(2^61)<=lo*10^9/\lo*10^9<2^61/\gs.length<=200;omega
 | _=>trivial
theorem XJ {m o:Int}{r:m9}{c:RowC}(h:iM m o r)(hn:lG r)(e:wI r=bJ c):nhC c:=by
 cases c with
 | msk lo wd bits t=>
  cases r with
  | tab n gs=>cases e
  | ins w is=>
   replace e:PyData.tuple (.str w::is.map PyData.int)=.tuple [.str "mask",.int lo,.int wd,.int bits,.int t]:=e;have e2:is.map PyData.int=[.int lo,.int wd,.int bits,.int t]:=(List.cons.inj (PyData.tuple.inj e)).2;cases is with
   | nil=>cases e2
   | cons i is=>
    have:i=lo:=PyData.int.inj (List.cons.inj e2).1;rw[<- this];exact hn i rfl
 | tab lo gs=>
  cases r with
  | tab n gs'=>
   replace e:PyData.tuple [.str "table",.int n,.tuple (gs'.map PyData.int)]=.tuple [.str "table",.int lo,.tuple (gs.map PyData.int)]:=e;have e1:=(List.cons.inj (List.cons.inj (PyData.tuple.inj e)).2);have e2:n=lo:=PyData.int.inj e1.1;have e3:gs'.map PyData.int=gs.map PyData.int:=PyData.tuple.inj (List.cons.inj e1.2).1;have e4:=congrArg List.length e3;rw[length_map,length_map] at e4;have h2:=h.2.1;have h3:=h.2.2.2;exact⟨by rw[<- e2];exact h3,ω⟩
  | ins w is=>
   replace e:PyData.tuple (.str w::is.map PyData.int)=.tuple [.str "table",.int lo,.tuple (gs.map PyData.int)]:=e;have e1:=(List.cons.inj (PyData.tuple.inj e)).2;cases is with
   | nil=>cases e1
   | cons i is=>
    cases is with
    | nil=>cases (List.cons.inj e1).2
    | cons j is=>cases (List.cons.inj (List.cons.inj e1).2).1
 | _=>trivial
theorem MN {rs:List m9}{m:Int}(hl:(rs.length:Int)=m)(hm:1<=m)(h:∀(j:Nat) r,rs[j]?=some r->iM m j r)(hn:∀r,r∈rs->lG r):∃cs:List RowC,rs.map wI=cs.map bJ/\cs.length=rs.length/\cI cs/\(∀c,c∈cs->iJ c/\bdC c)/\(∀c,c∈cs->smC c)/\∀c,c∈cs->nhC c:=by
 obtain⟨cs,e1,e2,e3,e4⟩:=qR (m:=m) (rs:=rs) 0 (fun j r hr=>by rw[zero_add];exact h j r hr) hn;refine⟨cs,e1,e2,⟨ω,fun j c hc=>?_⟩,fun c mc=>⟨(e4 c mc).1,(e4 c mc).2.1⟩,fun c mc=>(e4 c mc).2.2,fun c mc=>?_⟩
 ·have:=e3 j c hc;rw[zero_add,show m=(cs.length:Int) by omega] at this;exact this
 obtain⟨j,hj⟩:=mem_iff_getElem?.mp mc;have e5:=congrArg (fun x=>x[j]?) e1;simp only[getElem?_map,hj] at e5;obtain⟨r,hr,er⟩:=map_eq_some_iff.mp e5;exact XJ (h j r hr) (hn r (mem_of_getElem? hr)) er
theorem Ke {k:Int}{es:Nat->Int}{cs:List RowC}{i:Nat}{c:RowC}(h:cs[i]?=some c):qy k es (cs.take (i+1))=qy k es (cs.take i)++[vP k (es i) c]:=by
 have li:=(List.getElem?_eq_some_iff.mp h).1;unfold qy;rw[gZ h,List.mapIdx_append,length_take,Nat.min_eq_left ω];simp
theorem Kg {k:Int}{es fs:Nat->Int}{cs:List RowC}(h:∀j,j<cs.length->es j=fs j):qy k es cs=qy k fs cs:=by
 unfold qy;refine List.ext_getElem? fun j=>?_;rw[List.getElem?_mapIdx,List.getElem?_mapIdx];cases e:cs[j]? with
 | none=>rfl
 | some c=>rw[map_some,map_some,h j (List.getElem?_eq_some_iff.mp e).1]
noncomputable def Bad (cs:List RowC)(n:Int)(j:Nat):Prop:=Cm cs n j/\∃c,cs[j]?=some c/\gC c=false/\dN c (j:Int) n=none
theorem Hr {cs:List RowC}{n:Int}(hr:cI cs):∀(k j:Nat),j<cs.length->cs.length<=j+k->∀(y:Nat) c,(y:Int)∈(runC cs n k j).2->cs[y]?=some c->gC c=false->dN c (y:Int) n=none->(runC cs n k j).1=none/\(runC cs n k j).2.getLast?=some (y:Int)
 | 0,j,h1,h2=>by omega
 | k+1,j,h1,h2=>by
  intro y c my hy hp hs;have hc:cs[((j:Nat):Int).toNat]?=some cs[j]:=by rw[toNat_natCast];exact getElem?_eq_getElem h1
  have hcj:cs[j]?=some cs[j]:=getElem?_eq_getElem h1;cases hq:gC cs[j] with
  | true=>
   obtain⟨l,e⟩:∃l,cs[j]=.pik l:=by
    cases e:cs[j] with
    | pik l=>exact⟨l,rfl⟩
    | _=>rw[e] at hq;cases hq
   rw[e] at hc hcj;rw[uG hc] at my;have:y=j:=by have:=mem_singleton.mp my;omega
   subst this;rw[hcj] at hy;cases hy;cases hp
  | false=>
   cases ht:dN cs[j] (j:Int) n with
   | none=>
    rw[zE hc hq ht] at my |-;have:y=j:=by have:=mem_singleton.mp my;omega
    rw[this];exact⟨rfl,rfl⟩
   | some t=>
    obtain⟨b1,b2⟩:=jO hr hcj ht;obtain⟨u,rfl⟩:=Int.eq_ofNat_of_zero_le (show 0<=t by omega);rw[zF hc hq ht] at my |-;rcases mem_cons.mp my with e|m
    ·have:y=j:=by omega
     subst this;rw[hcj] at hy;cases hy;rw[ht] at hs;cases hs
    obtain⟨q1,q2⟩:=Hr hr k u ω ω y c m hy hp hs;refine⟨q1,?_⟩;show((j:Int)::_).getLast?=_;rw[List.getLast?_cons,q2];rfl
theorem Bad.run {cs:List RowC}{n:Int}{j:Nat}(hr:cI cs)(h:Bad cs n j):(runOf cs n).1=none/\(runOf cs n).2.getLast?=some (j:Int):=by
 obtain⟨m,c,hc,hp,hs⟩:=h;exact Hr hr cs.length 0 hr.1 ω j c m hc hp hs
theorem GF {cs:List RowC}{n:Int}(hr:cI cs)(h:(runOf cs n).1=none):∃j,Bad cs n j:=by
 rcases(p7 (n:=n) hr).en with⟨y,l,_,_,e⟩|⟨y,c,m,hc,hp,hs,_⟩
 ·rw[h] at e;cases e
 exact⟨y,m,c,hc,hp,hs⟩
theorem Bad.sole {cs:List RowC}{n:Int}{i j:Nat}(hr:cI cs)(h:Bad cs n i)(k:Bad cs n j):i=j:=by
 have:=(h.run hr).2.symm.trans (k.run hr).2;have:=Option.some.inj this;omega
theorem Bad.like {cs:List RowC}{a n:Int}{j:Nat}(hr:cI cs)(h:runOf cs a=runOf cs n)(k:Bad cs n j):Bad cs a j:=by
 have r:=k.run hr;rw[<- h] at r;obtain⟨i,b⟩:=GF hr r.1;have:=Option.some.inj ((b.run hr).2.symm.trans r.2);have:i=j:=by omega
 rw[<- this];exact b
noncomputable def nj (cs:List RowC)(low high:Int):Option (Int×Int)->Prop
 | none=>∀n (j:Nat),low<=n->n<=high->¬Bad cs n j
 | some s=>(∃j:Nat,s.1=(j:Int)/\low<=s.2/\s.2<=high/\Bad cs s.2 j)/\∀n (j:Nat),low<=n->n<=high->Bad cs n j->LeP s ((j:Int),n)
theorem nj.one {cs:List RowC}{low high:Int}{o u:Option (Int×Int)}(h:nj cs low high o)(k:nj cs low high u):o=u:=by
 cases o with
 | none=>
  cases u with
  | none=>rfl
  | some t=>
   obtain⟨⟨j,_,h1,h2,b⟩,_⟩:=k;exact absurd b (h _ j h1 h2)
 | some s=>
  obtain⟨⟨j,e,h1,h2,b⟩,l⟩:=h;cases u with
  | none=>exact absurd b (k _ j h1 h2)
  | some t=>
   obtain⟨⟨i,e',h1',h2',b'⟩,l'⟩:=k;have a1:=l _ i h1' h2' b';have a2:=l' _ j h1 h2 b;rw[<- e'] at a1;rw[<- e] at a2;unfold LeP at a1 a2;have:s=t:=Prod.ext ω ω;rw[this]
structure BLi (cs:List RowC)(S:Int->Prop)(L:List (Int×Int)):Prop where
 fr:∀s,s∈L->∃j:Nat,s.1=(j:Int)/\S s.2/\Bad cs s.2 j
 al:∀n (j:Nat),S n->Bad cs n j->((j:Int),n)∈L
theorem BLi.no {cs:List RowC}{S S':Int->Prop}{L:List (Int×Int)}{n:Int}{l:Int}(hr:cI cs)(h:BLi cs S L)(e:(runOf cs n).1=some l)(hs:∀m,S' m↔S m\/m=n):BLi cs S' L:=by
 refine⟨fun s m=>?_,fun m j q b=>?_⟩
 ·obtain⟨j,h1,h2,h3⟩:=h.fr s m;exact⟨j,h1,(hs _).mpr (.inl h2),h3⟩
 rcases(hs m).mp q with q|q
 ·exact h.al m j q b
 rw[q] at b;have:=(b.run hr).1;rw[e] at this;cases this
theorem BLi.yes {cs:List RowC}{S S':Int->Prop}{L:List (Int×Int)}{n:Int}{j:Nat}(hr:cI cs)(h:BLi cs S L)(b:Bad cs n j)(hs:∀m,S' m↔S m\/m=n):BLi cs S' (L++[((j:Int),n)]):=by
 refine⟨fun s m=>?_,fun m i q b'=>?_⟩
 ·rcases mem_append.mp m with m|m
  ·obtain⟨j,h1,h2,h3⟩:=h.fr s m;exact⟨j,h1,(hs _).mpr (.inl h2),h3⟩
  rw[mem_singleton.mp m];exact⟨j,rfl,(hs _).mpr (.inr rfl),b⟩
 rcases(hs m).mp q with q|q
 ·exact mem_append_left _ (h.al m i q b')
 subst q;rw[b'.sole hr b];exact mem_append_right _ (.head _)
theorem BLi.bey {cs:List RowC}{S:Int->Prop}{L:List (Int×Int)}{low high:Int}(h:BLi cs S L)(hs:∀n,S n->low<=n/\n<=high)(hc:∀n (j:Nat),low<=n->n<=high->Bad cs n j->∃b,S b/\b<=n/\Bad cs b j):(L=[]->nj cs low high none)/\∀c,c∈L->(∀c',c'∈L->LeP c c')->nj cs low high (some c):=by
 refine⟨fun e n j h1 h2 b=>?_,fun c m hm=>⟨?_,fun n j h1 h2 b=>?_⟩⟩
 ·obtain⟨b',q,_,w⟩:=hc n j h1 h2 b;have:=h.al b' j q w;rw[e] at this;cases this
 ·obtain⟨j,e,q,b⟩:=h.fr c m;exact⟨j,e,(hs _ q).1,(hs _ q).2,b⟩
 obtain⟨b',q,w1,w⟩:=hc n j h1 h2 b;have:=hm _ (h.al b' j q w);unfold LeP at this |-;show c.1<(j:Int)\/c.1=(j:Int)/\c.2<=n;replace this:c.1<(j:Int)\/c.1=(j:Int)/\c.2<=b':=this;omega
theorem Cuts.find {cs:List RowC}{low high:Int}{ns:List Int}(h:Cuts cs low high ns):∀(k:Nat)(n:Int),n=low+k->n<=high->∃a,a∈ns/\a<=n/\runOf cs a=runOf cs n
 | 0,n,e,_=>⟨low,mem_of_getElem? h.hd,ω,by rw[show n=low by omega]⟩
 | k+1,n,e,hn=>by
  by_cases c:n∈ns
  ·exact⟨n,c,Int.le_refl _,rfl⟩
  obtain⟨a,m,h1,h2⟩:=h.find k (n-1) ω ω;refine⟨a,m,ω,h2.trans (Eu ω fun x mx z z1 z2 q=>?_)⟩;have:z=n:=by omega
  subst this;exact c (h.al x mx z q ω ω)
theorem PB {c:RowC}{ss:List (Int×Int)}{o m:Int}(g:Gap ss)(h:lbC c ss=some m):gC c=false/\cov ss m/\dN c o m=none/\∀n,cov ss n->dN c o n=none->m<=n:=by
 have hp:gC c=false:=by cases c <;> first|rfl|cases h
 unfold lbC at h;cases he:yM c with
 | none=>rw[he] at h;cases h
 | some e=>
  rw[he] at h;obtain⟨q1,q2,q3⟩:=Dh g h;refine⟨hp,q1,?_,fun n cn sn=>q3 n cn fun w=>?_⟩
  ·cases hs:dN c o m with
   | none=>rfl
   | some t=>exact absurd ((j7 (o:=o) hp m).mpr (by rw[hs];exact fun z=>(by cases z)) e he) q2
  exact absurd sn ((j7 (o:=o) hp n).mp fun e' q'=>by rw[he] at q';cases q';exact w)
theorem CI.bad {cs:List RowC}{low high:Int}{X:Nat->List (Int×Int)}(h:CI cs low high X cs.length){j:Nat}{c:RowC}(hc:cs[j]?=some c)(e:lbC c (X j)=none){n:Int}(h1:low<=n)(h2:n<=high):¬Bad cs n j:=by
 rintro⟨m,c',hc',hp,hs⟩;rw[hc] at hc';cases hc';have lj:=(List.getElem?_eq_some_iff.mp hc).1;exact(PJ (o:=(j:Int)) hp fun s ms=>(h.dn j lj).ne s ms).mp e n ((h.dc j n lj).mpr ⟨h1,h2,m⟩) hs
theorem CI.aae {cs:List RowC}{low high:Int}{X:Nat->List (Int×Int)}(h:CI cs low high X cs.length)(e:∀(j:Nat) c,cs[j]?=some c->lbC c (X j)=none):nj cs low high none:=fun n j h1 h2 b=>by
 obtain⟨_,c,hc,_⟩:=id b;exact h.bad hc (e j c hc) h1 h2 b
theorem CI.aad {cs:List RowC}{low high:Int}{X:Nat->List (Int×Int)}(h:CI cs low high X cs.length){j:Nat}{c:RowC}{n:Int}(hc:cs[j]?=some c)(e:lbC c (X j)=some n)(he:∀i c,i<j->cs[i]?=some c->lbC c (X i)=none):nj cs low high (some ((j:Int),n)):=by
 have lj:=(List.getElem?_eq_some_iff.mp hc).1;obtain⟨hp,cn,sn,le⟩:=PB (o:=(j:Int)) (h.dn j lj) e;obtain⟨h1,h2,m⟩:=(h.dc j n lj).mp cn;refine⟨⟨j,rfl,h1,h2,m,c,hc,hp,sn⟩,fun n' j' h1' h2' b=>?_⟩;obtain⟨m',c',hc',hp',sn'⟩:=id b;rcases Nat.lt_trichotomy j j' with z|z|z
 ·exact .inl (by show(j:Int)<(j':Int);omega)
 ·subst z;rw[hc] at hc';cases hc';exact .inr ⟨rfl,le n' ((h.dc j n' lj).mpr ⟨h1',h2',m'⟩) sn'⟩
 exact absurd b (h.bad hc' (he j' c' z hc') h1' h2')
noncomputable def qK (cs:List RowC)(low high:Int)(js:List Nat):Prop:=∃p:Nat->Bool,js=(List.range cs.length).filter p/\∀j,j<cs.length->(p j=true ↔ ∀n,low<=n->n<=high->¬Cm cs n j)
theorem qK.one {cs:List RowC}{low high:Int}{js ks:List Nat}(h:qK cs low high js)(k:qK cs low high ks):js=ks:=by
 obtain⟨p,rfl,hp⟩:=h;obtain⟨q,rfl,hq⟩:=k;refine List.filter_congr fun j m=>?_;have lj:=mem_range.mp m;exact Bool.eq_iff_iff.mpr ((hp j lj).trans (hq j lj).symm)
theorem Gap.empty {xs:List (Int×Int)}(h:Gap xs):xs.isEmpty=true ↔ ∀n,¬cov xs n:=by
 cases xs with
 | nil=>exact⟨fun _ n=>qF,fun _=>rfl⟩
 | cons s xs=>exact⟨fun z=>(by cases z),fun z=>absurd ⟨s,.head _,Int.le_refl _,h.ne s (.head _)⟩ (z s.1)⟩
theorem CI.nev {cs:List RowC}{low high:Int}{X:Nat->List (Int×Int)}(h:CI cs low high X cs.length):qK cs low high ((List.range cs.length).filter fun j=>(X j).isEmpty):=by
 refine⟨_,rfl,fun j lj=>(h.dn j lj).empty.trans ⟨fun q n h1 h2 m=>q n ((h.dc j n lj).mpr ⟨h1,h2,m⟩),fun q n c=>?_⟩⟩;have:=(h.dc j n lj).mp c;exact q n this.1 this.2.1 this.2.2
theorem LC.nev {cs:List RowC}{low high b:Int}{X:Nat->List (Int×Int)}(h:LC cs low (high+1) b [] X):qK cs low high ((List.range cs.length).filter fun j=>(X j).isEmpty):=by
 refine⟨_,rfl,fun j lj=>(h.gap j).empty.trans ⟨fun q n h1 h2 m=>q n ((h.cv j n).mpr (.inl ⟨h1,ω,m⟩)),fun q n c=>?_⟩⟩;rcases(h.cv j n).mp c with c|c
 ·exact q n c.1 ω c.2.2
 cases c.2.2
theorem Cuts.nev {cs:List RowC}{low high:Int}{ns:List Int}{p:Nat->Bool}(h:Cuts cs low high ns)(hp:∀j,p j=true ↔ ∀a,a∈ns->¬Cm cs a j):qK cs low high ((List.range cs.length).filter p):=by
 refine⟨p,rfl,fun j lj=>(hp j).trans ⟨fun q n h1 h2 m=>?_,fun q a ma=>?_⟩⟩
 ·obtain⟨a,ma,_,e⟩:=h.find (n-low).toNat n ω h2;refine q a ma ?_;unfold Cm at m |-;rw[e];exact m
 have:=h.rg a ma;exact q a this.1 this.2
theorem iD (p:Nat->Bool)(i:Nat):(List.range (i+1)).filter p=(List.range i).filter p++if p i=true then [i] else []:=by
 rw[List.range_succ,filter_append];congr 1;by_cases c:p i=true
 ·rw[if_pos c,List.filter_cons_of_pos c];rfl
 rw[if_neg c,List.filter_cons_of_neg c];rfl
noncomputable def Fg:Option (Int×Int)->PyData
 | none=>.none
 | some s=>prD s
noncomputable def nvD (js:List Nat):PyData:=.list (js.map fun(j:Nat)=>.int (j:Int))
theorem tQ {H:Hp}{r:Addr}{js:List Nat}(e:H r=some (.lst (kO js)))(hl:js.length<=1000000):aN (fun _=>True) H (.ref r) (nvD js):=by
 refine .lst trivial e (by rw[mH];exact hl) ?_;unfold kO;clear e hl
 induction js with
 | nil=>exact .nil
 | cons j js ih=>exact .cons (.int _) ih
theorem Cw (js:List Nat):(nvD js).depth<=1:=by
 have:PyData.depthAll (js.map fun(j:Nat)=>PyData.int (j:Int))<=0:=m8 fun d hd=>by
  obtain⟨j,_,rfl⟩:=mem_map.mp hd;exact le_refl _
 show PyData.depthAll (js.map fun(j:Nat)=>PyData.int (j:Int))+1<=1;omega
theorem xV (o:Option (Int×Int)):(Fg o).depth<=1:=by
 cases o with
 | none=>exact zero_le _
 | some s=>exact le_refl _
theorem zZ {cs:List RowC}{low high:Int}{js:List Nat}(h:qK cs low high js):js.length<=cs.length:=by
 obtain⟨p,rfl,_⟩:=h;have:=length_filter_le p (List.range cs.length);rw[length_range] at this;exact this
noncomputable def V4:Sp:=fun vs H Q _=>∃(l:Addr)(ok:Addr->Prop)(cs:List RowC)(low high:Int),vs=[.ref l,.int low,.int high]/\aN ok H (.ref l) (.list (cs.map bJ))/\cI cs/\(∀c,c∈cs->iJ c/\bdC c)/\low<=high/\GX cs low high/\-(2^61)<=low/\high<2^61 /\
 ∀(v:V)(H':Hp)(o:Option (Int×Int)),Same H H'->aN (fun _=>True) H' v (Fg o)->nj cs low high o->Q v H'
noncomputable def V3:Sp:=fun vs H Q _=>∃(l:Addr)(ok:Addr->Prop)(cs:List RowC)(low high:Int),vs=[.ref l,.int low,.int high]/\aN ok H (.ref l) (.list (cs.map bJ))/\cI cs/\(∀c,c∈cs->iJ c/\bdC c)/\low<=high/\GX cs low high/\-(2^61)<=low/\high<2^61 /\
 ∀(r:Addr)(H':Hp)(js:List Nat),Same H H'->H r=none->H' r=some (.lst (kO js))->qK cs low high js->Q (.ref r) H'
noncomputable def Mh:Sp:=fun vs H Q _=>∃(l:Addr)(ok:Addr->Prop)(cs:List RowC)(low high:Int),vs=[.ref l,.int low,.int high]/\aN ok H (.ref l) (.list (cs.map bJ))/\cI cs/\low<=high+1/\high<=low+1000/\-(2^61)<=low/\low<2^61 /\
 ∀(v:V)(H':Hp)(o:Option (Int×Int)),Same H H'->aN (fun _=>True) H' v (Fg o)->nj cs low high o->Q v H'
noncomputable def Mj:Sp:=fun vs H Q _=>∃(l:Addr)(ok:Addr->Prop)(cs:List RowC)(low high:Int),vs=[.ref l,.int low,.int high]/\aN ok H (.ref l) (.list (cs.map bJ))/\cI cs/\(∀c,c∈cs->iJ c/\bdC c)/\cs.length<=15/\(∀c,c∈cs->nrC c)/\low<=high/\-(2^61)<=low/\high<2^61 /\
 ∀(v:V)(H':Hp)(o:Option (Int×Int)) (js:List Nat),Same H H'->aN (fun _=>True) H' v (.tuple [Fg o,nvD js])->nj cs low high o->qK cs low high js->Q v H'
noncomputable def HN:RowC->RowC
 | .tab _ _=>.pik 1
 | c=>c
noncomputable def O1:RowC->RowC
 | .msk lo _ _ t=>.low lo t
 | c=>c
theorem Ux {cs:List RowC}(h:wg cs):wg (cs.map HN):=by
 refine⟨⟨by rw[length_map];exact h.ok.1,fun j c hc=>?_⟩,fun c m=>?_,by rw[length_map];exact h.ln,fun c m=>?_⟩
 ·rw[getElem?_map] at hc;obtain⟨c',e,rfl⟩:=map_eq_some_iff.mp hc;rw[length_map];have:=h.ok.2 j c' e;cases c' <;> first|exact this|trivial
 ·obtain⟨c',m',rfl⟩:=mem_map.mp m;have:=h.rb c' m';cases c' <;> first|exact this|exact⟨trivial,trivial⟩
 obtain⟨c',m',rfl⟩:=mem_map.mp m;have:=h.sm c' m';cases c' <;> first|exact this|(show(1:Int).natAbs<=2^64;decide)
theorem Uy {cs:List RowC}(h:wg cs):wg (cs.map O1):=by
 refine⟨⟨by rw[length_map];exact h.ok.1,fun j c hc=>?_⟩,fun c m=>?_,by rw[length_map];exact h.ln,fun c m=>?_⟩
 ·rw[getElem?_map] at hc;obtain⟨c',e,rfl⟩:=map_eq_some_iff.mp hc;rw[length_map];have:=h.ok.2 j c' e;cases c' <;> first|exact this|exact this.1
 ·obtain⟨c',m',rfl⟩:=mem_map.mp m;have:=h.rb c' m';cases c' <;> first|exact this|exact⟨trivial,trivial⟩
 obtain⟨c',m',rfl⟩:=mem_map.mp m;have:=h.sm c' m';cases c' <;> first|exact this|exact this.1
theorem Jq {cs:List RowC}(h:wg cs):Shw (.list (cs.map bJ)):=by
 have hl:=h.ln;have hc1:∀d∈cs.map bJ,szD 0 d/\nodes d<=204/\d.depth<=2:=fun d hd=>by
  obtain⟨c,hc,rfl⟩:=mem_map.mp hd;obtain⟨j,hj⟩:=mem_iff_getElem?.mp hc;exact Wx (h.ok.2 j c hj) ω ω (h.sm c hc)
 have n2:=mG fun d hd=>(hc1 d hd).2.1;rw[length_map] at n2;have d2:=m8 fun d hd=>(hc1 d hd).2.2;refine WD (Ww ⟨by rw[length_map];show cs.length<=210;omega,qM.mpr fun d hd=>(hc1 d hd).1⟩) ?_ ?_
 ·show 1+dR (cs.map bJ)<=40000;omega
 show PyData.depthAll (cs.map bJ)+1<=100;omega
theorem bf.pr {H:Hp}{ads:List Addr}{L:List (Int×Int)}(h:bf prE H (ads.map V.ref) L){j:Nat}{t:Addr}{c:Int×Int}(h1:ads[j]?=some t)(h2:L[j]?=some c):H t=some (.tup [.int c.1,.int c.2]):=by
 obtain⟨p,z,e1,e2,e3⟩:=h.got (i:=j) (u:=V.ref t) (by rw[getElem?_map,h1];rfl);cases e1;rw[h2] at e2;cases e2;exact e3
noncomputable def atE (b:Int):List V:=[.int b,.bl true]
theorem bf.Wb {α:Type}{en:α->List V}{H:Hp}{d:Addr}{kvs kvs':List (Key×V)}(e:H d=some (.dK kvs)):∀{us:List V}{xs:List α},bf en H us xs->bf en (upd H d (.dK kvs')) us xs
 | _,_,.nil=>.nil
 | _,_,.cons h t=>.cons (by rw[aH (fun z=>by rw[z,e] at h;cases h)];exact h) (bf.Wb e t)
end L2
namespace SRT
open PySem PyProof.Rows
noncomputable def Inn (a₀ xs:Array Keyed):Prop:=∀(i:Nat) p,xs[i]?=some p->p∈a₀.toList
theorem bC {f:Keyed->Int}{xs:Array Keyed}{i:Nat}{p:Keyed}(h:xs[i]?=some p):Rk f xs i=f p:=by unfold Rk;rw[h]
end SRT
namespace SRT
open PySem PyProof.Rows
section
variable {κ:SortKind}{prog:Program}{w:World}{s:Shared}{A:Around}{E:Value->Shared->Prop}{a₀:Array Keyed}{f:Keyed->Int}
noncomputable abbrev Upl (f:Keyed->Int)(xs:List Keyed):Prop:=xs.Pairwise fun x y=>f x<f y
structure SI (f:Keyed->Int)(a b out:Array Keyed)(i j:Nat):Prop where
 pm:(cY a b out i j).Perm (a.toList++b.toList)
 up:Upl f out.toList
 ga:∀o,o∈out.toList->∀t,i<=t->t<a.size->f o<Rk f a t
 gb:∀o,o∈out.toList->∀t,j<=t->t<b.size->f o<Rk f b t
end
end SRT
namespace SRT
open PySem PyProof.Rows
section
variable {κ:SortKind}{prog:Program}{w:World}{s:Shared}{A:Around}{E:Value->Shared->Prop}{a₀:Array Keyed}{f:Keyed->Int}
structure SH (f:Keyed->Int)(a b out:Array Keyed)(i j:Nat):Prop where
 pm:(gK a b out i j).Perm (a.toList++b.toList)
 up:out.toList.Pairwise fun x y=>f y<f x
 ga:∀o,o∈out.toList->∀t,t<i->t<a.size->Rk f a t<f o
 gb:∀o,o∈out.toList->∀t,t<j->t<b.size->Rk f b t<f o
end
end SRT
namespace SRT
open PySem PyProof.Rows
section
variable {κ:SortKind}{prog:Program}{w:World}{s:Shared}{A:Around}{E:Value->Shared->Prop}{a₀:Array Keyed}{f:Keyed->Int}{pd:Array (Nat×Nat×Nat)}
noncomputable def aaj (f:Keyed->Int)(xs:Array Keyed)(lo hi:Nat):Prop:=∀i j,lo<=i->i<j->j<hi->Rk f xs i<Rk f xs j
structure QB (κ:SortKind)(a₀:Array Keyed)(pd:Array (Nat×Nat×Nat))(st:SortSt):Prop where
 kind:kindOf st=κ
 perm:(arrOf st).toList.Perm a₀.toList
 fail:failedOf st=none
 pend:pendingOf st=pd
theorem QB.size {st:SortSt}(h:QB κ a₀ pd st):(arrOf st).size=a₀.size:=by simpa using h.perm.length_eq
theorem QB.set {st:SortSt}{xs:Array Keyed}(h:QB κ a₀ pd st)(hp:xs.Perm (arrOf st)):QB κ a₀ pd (setArr st xs):=⟨h.kind,(Array.perm_iff_toList_perm.mp hp).trans h.perm,h.fail,h.pend⟩
theorem QB.inn {st:SortSt}(h:QB κ a₀ pd st):Inn a₀ (arrOf st):=fun i p e=>h.perm.mem_iff.mp (by simpa using Array.mem_of_getElem? e)
end
end SRT
namespace SRT
open PySem PyProof.Rows
theorem Tc {a m:Array Keyed}{c e:Nat}(h:c+m.size=e)(he:e<=a.size)(t:Nat):(m.toList.zipIdx.foldl (fun a (x:Keyed×Nat)=>a.setIfInBounds (c+x.2) x.1) a)[t]?=if t<c then a[t]? else if t<e then m[t-c]? else a[t]?:=by
 have ea:a.toList=a.toList.take c++((a.toList.drop c).take m.size++a.toList.drop e):=by
  rw[<- h,<- drop_drop,List.take_append_drop,List.take_append_drop]
 have:=zT m.toList 0 (a.toList.take c) ((a.toList.drop c).take m.size) (a.toList.drop e) c (by simp;omega) (by simp;omega) a ea;rw[<- getElem?_toList,this];by_cases c1:t<c
 ·rw[if_pos c1,List.getElem?_append_left (by simp;omega),List.getElem?_take,if_pos c1,getElem?_toList]
 rw[if_neg c1,getElem?_append_right (by simp;omega)];have l1:(a.toList.take c).length=c:=by simp;omega
 rw[l1];by_cases c2:t<e
 ·rw[if_pos c2,List.getElem?_append_left (by simp;omega),getElem?_toList]
 rw[if_neg c2,getElem?_append_right (by simp;omega),List.getElem?_drop,getElem?_toList];congr 1;simp;omega
theorem Chain.len:∀{l:List (Nat×Nat×Nat)}{a b:Nat},Chain l a b->a+l.length<=b
 | [],_,_,h=>le_of_eq h
 | (_,n,_)::t,a,_,⟨_,h1,h⟩=>by have:=h.len;rw[length_cons];omega
theorem Chain.mem:∀{l:List (Nat×Nat×Nat)}{a b:Nat},Chain l a b->∀r,r∈l->a<=r.1/\r.1+r.2.1<=b
 | [],_,_,_,r,m=>by cases m
 | (p,n,v)::t,a,b,⟨e,h1,h⟩,r,m=>by
  rcases mem_cons.mp m with rfl|m
  ·have:=h.le;exact⟨by show a<=p;omega,by show p+n<=b;omega⟩
  have:=h.mem r m;omega
theorem Chain.parts:∀{pre post:List (Nat×Nat×Nat)}{sa na w sb nb v a b:Nat},Chain (pre++(sa,na,w)::(sb,nb,v)::post) a b->(∀r,r∈pre->r.1+r.2.1<=sa)/\∀r,r∈post->sb+nb<=r.1
 | [],post,sa,na,w,sb,nb,v,a,b,⟨h1,h2,h3,h4,h5⟩=>⟨fun r m=>(by cases m),fun r m=>by have:=(h5.mem r m).1;omega⟩
 | (p,n,u)::pre,post,sa,na,w,sb,nb,v,a,b,⟨h1,h2,h3⟩=>by
  obtain⟨k1,k2⟩:=Chain.parts h3;refine⟨fun r m=>?_,k2⟩;rcases mem_cons.mp m with rfl|m
  ·have:=(h3.mem (sa,na,w) (by simp)).1;show p+n<=sa;omega
  exact k1 r m
section
variable {κ:SortKind}{prog:Program}{w:World}{s:Shared}{A:Around}{E:Value->Shared->Prop}{a₀:Array Keyed}{f:Keyed->Int}{pd:Array (Nat×Nat×Nat)}
structure QC (κ:SortKind)(a₀:Array Keyed)(f:Keyed->Int)(hi:Nat)(st:SortSt):Prop where
 b:QB κ a₀ (pendingOf st) st
 c:Chain (pendingOf st).toList 0 hi
 u:∀r,r∈(pendingOf st).toList->aaj f (arrOf st) r.1 (r.1+r.2.1)
end
end SRT
namespace SRT
open PySem PyProof.Rows
end SRT
namespace L2
open PySem PySem.Spec PyProof.Rows
end L2
namespace SRT
open PySem PyProof.Rows
noncomputable def rP (κ:SortKind)(prog:Program)(w:World)(A:Around)(E:Value->Shared->Prop)(s:Shared)(a₀:Array Keyed)(f:Keyed->Int):Prop:=
 ∀(st:SortSt)(x y:Keyed)(Q:Option Bool->SortSt->Prop),kindOf st=κ->x∈a₀.toList->y∈a₀.toList->Q (some (decide (f x<f y))) st->wpS (model prog w) A E s (lt' x y) Q st
noncomputable def Bey (left:Bool)(k r:Int):Bool:=if left then decide (r<k) else !decide (k<r)
theorem Rh {left:Bool}{k r:Int}(h:Bey left k r=true):r<=k:=by
 unfold Bey at h;cases left <;> simp at h <;> omega
theorem HX {left:Bool}{k r:Int}(h:Bey left k r=false):k<=r:=by
 unfold Bey at h;cases left <;> simp at h <;> omega
theorem DQ {left:Bool}{k r q:Int}(hr:r<=q)(h:Bey left k q=true):Bey left k r=true:=by
 unfold Bey at h |-;cases left <;> simp at h |- <;> omega
section
variable {κ:SortKind}{prog:Program}{w:World}{s:Shared}{A:Around}{E:Value->Shared->Prop}{a₀:Array Keyed}{f:Keyed->Int}
theorem jB {st:SortSt}{left:Bool}{key:Keyed}{arr:Array Keyed}{base n hint:Nat}{Q:Option Nat->SortSt->Prop}(O:rP κ prog w A E s a₀ f)(hk:kindOf st=κ)(hkey:key∈a₀.toList)(ha:Inn a₀ arr)(hb:base+n<=arr.size)(hh:hint<n)
  (up:∀i j,i<j->j<n->Rk f arr (base+i)<=Rk f arr (base+j))
  (h:∀k,k<=n->(∀i,i<k->Rk f arr (base+i)<=f key)->(∀i,k<=i->i<n->f key<=Rk f arr (base+i))->Q (some k) st) :
  wpS (model prog w) A E s (Vl left key arr base n hint) Q st:=by
 have beyok:∀(i:Nat)(Q':Option Bool->SortSt->Prop),i<n->Q' (some (Bey left (f key) (Rk f arr (base+i)))) st->wpS (model prog w) A E s (do
   let p <- elem' arr (base+i)
   if left=true then lt' p key else do
    let r <- lt' key p
    pure (r.map fun z=>!z)) Q' st:=by
  intro i Q' hi hq;refine wpS_bind (bh ω fun p hp=>?_);rw[bC hp] at hq;cases left with
  | true=>exact O st p key Q' hk (ha _ p hp) hkey hq
  | false=>exact wpS_bind (O st key p _ hk hkey (ha _ p hp) (wpS_pure hq))
 have upw:∀{i j:Nat},i<=j->j<n->Rk f arr (base+i)<=Rk f arr (base+j):=fun {i j} hij hj=>by
  by_cases c:i=j
  ·rw[c];exact Int.le_refl _
  exact up i j ω hj
 have below:∀{i j:Nat},i<=j->j<n->Bey left (f key) (Rk f arr (base+j))=true->Bey left (f key) (Rk f arr (base+i))=true:=fun {i j} hij hj hl=>DQ (upw hij hj) hl;have above:∀{i j:Nat},j<=i->i<n->Bey left (f key) (Rk f arr (base+j))=false->Bey left (f key) (Rk f arr (base+i))=false:=fun {i j} hij hi hl=>
  eq_false_iff.mpr fun z=>eq_false_iff.mp hl (DQ (upw hij hi) z)
 refine wpS_bind (beyok hint _ hh ?_);by_cases cr:Bey left (f key) (Rk f arr (base+hint))=true
 ·rw[cr];refine wpS_bind (wpS_mono (wpS_forRange (I:=fun x c st'=>st'=st/\∃a b,c=(none,a,b)/\a<b/\x+1<=b/\hint+a<n/\Bey left (f key) (Rk f arr (base+(hint+a)))=true) (Q:=fun c st'=>st'=st/\∃a b,c=(none,a,b)/\a<b/\hint+a<n/\Bey left (f key) (Rk f arr (base+(hint+a)))=true/\(b<n-hint->Bey left (f key) (Rk f arr (base+(hint+b)))=false)) ?_ ?_ ⟨rfl,0,1,rfl,δ,δ,hh,cr⟩) ?_)
  ·rintro x c st' _ _ ⟨rfl,a,b,rfl,q1,q2,q3,q4⟩;dsimp only;split
   ·exact wpS_pure ⟨rfl,a,b,rfl,q1,q3,q4,fun z=>ω⟩
   rename_i hab;refine wpS_bind (beyok _ _ ω ?_);by_cases c:Bey left (f key) (Rk f arr (base+(hint+b)))=true
   ·rw[c];exact wpS_pure ⟨rfl,b,2*b+1,rfl,ω,ω,ω,c⟩
   rw[eq_false_iff.mpr c];exact wpS_pure ⟨rfl,a,b,rfl,q1,q3,q4,fun _=>eq_false_iff.mpr c⟩
  ·rintro c st' ⟨rfl,a,b,rfl,q1,q2,q3,q4⟩;exact⟨rfl,a,b,rfl,q1,q3,q4,fun z=>ω⟩
  rintro c st' ⟨rfl,a,b,rfl,q1,q3,q4,q5⟩;refine wpS_bind (wpS_mono (wpS_forRange (I:=fun x c z=>z=st'/\∃l r,c=(none,l,r)/\l<=r/\r<=n/\r-l<=n-x/\(∀i,i<l->Bey left (f key) (Rk f arr (base+i))=true)/\(∀i,r<=i->i<n->Bey left (f key) (Rk f arr (base+i))=false)) (Q:=fun c z=>z=st'/\∃r,c=(none,r,r)/\r<=n/\(∀i,i<r->Bey left (f key) (Rk f arr (base+i))=true)/\(∀i,r<=i->i<n->Bey left (f key) (Rk f arr (base+i))=false)) ?_ ?_ ⟨rfl,hint+a+1,hint+min b (n-hint),rfl,ω,ω,ω,fun i hi=>below (j:=hint+a) ω q3 q4,fun i h1 h2=>above (j:=hint+b) ω h2 (q5 ω)⟩) ?_)
  ·rintro x c z _ hx ⟨rfl,l,r,rfl,p1,p2,p3,p4,p5⟩;dsimp only;split
   ·have:l=r:=by omega
    subst this;exact wpS_pure ⟨rfl,l,rfl,p2,p4,p5⟩
   rename_i hab;refine wpS_bind (beyok _ _ ω ?_);by_cases c:Bey left (f key) (Rk f arr (base+(l+(r-l)/2)))=true
   ·rw[c];exact wpS_pure ⟨rfl,_,_,rfl,ω,p2,ω,fun i hi=>below (j:=l+(r-l)/2) ω ω c,p5⟩
   rw[eq_false_iff.mpr c];exact wpS_pure ⟨rfl,_,_,rfl,ω,ω,ω,p4,fun i h1 h2=>above (j:=l+(r-l)/2) h1 h2 (eq_false_iff.mpr c)⟩
  ·rintro c z ⟨rfl,l,r,rfl,p1,p2,p3,p4,p5⟩;have:l=r:=by omega
   subst this;exact⟨rfl,l,rfl,p2,p4,p5⟩
  rintro c z ⟨rfl,r,rfl,p2,p4,p5⟩;exact wpS_pure (h r p2 (fun i hi=>Rh (p4 i hi)) (fun i h1 h2=>HX (p5 i h1 h2)))
 rw[eq_false_iff.mpr cr];have cr2:Bey left (f key) (Rk f arr (base+hint))=false:=eq_false_iff.mpr cr;refine wpS_bind (wpS_mono (wpS_forRange (I:=fun x c st'=>st'=st/\∃a b,c=(none,a,b)/\a<b/\x+1<=b/\a<=hint/\Bey left (f key) (Rk f arr (base+(hint-a)))=false) (Q:=fun c st'=>st'=st/\∃a b,c=(none,a,b)/\a<b/\a<=hint/\Bey left (f key) (Rk f arr (base+(hint-a)))=false/\(b<hint+1->Bey left (f key) (Rk f arr (base+(hint-b)))=true)) ?_ ?_ ⟨rfl,0,1,rfl,δ,δ,zero_le _,cr2⟩) ?_)
 ·rintro x c st' _ _ ⟨rfl,a,b,rfl,q1,q2,q3,q4⟩;dsimp only;split
  ·exact wpS_pure ⟨rfl,a,b,rfl,q1,q3,q4,fun z=>ω⟩
  rename_i hab;refine wpS_bind (beyok _ _ ω ?_);by_cases c:Bey left (f key) (Rk f arr (base+(hint-b)))=true
  ·rw[c];exact wpS_pure ⟨rfl,a,b,rfl,q1,q3,q4,fun _=>c⟩
  rw[eq_false_iff.mpr c];exact wpS_pure ⟨rfl,b,2*b+1,rfl,ω,ω,ω,eq_false_iff.mpr c⟩
 ·rintro c st' ⟨rfl,a,b,rfl,q1,q2,q3,q4⟩;exact⟨rfl,a,b,rfl,q1,q3,q4,fun z=>ω⟩
 rintro c st' ⟨rfl,a,b,rfl,q1,q3,q4,q5⟩;refine wpS_bind (wpS_mono (wpS_forRange (I:=fun x c z=>z=st'/\∃l r,c=(none,l,r)/\l<=r/\r<=n/\r-l<=n-x/\(∀i,i<l->Bey left (f key) (Rk f arr (base+i))=true)/\(∀i,r<=i->i<n->Bey left (f key) (Rk f arr (base+i))=false)) (Q:=fun c z=>z=st'/\∃r,c=(none,r,r)/\r<=n/\(∀i,i<r->Bey left (f key) (Rk f arr (base+i))=true)/\(∀i,r<=i->i<n->Bey left (f key) (Rk f arr (base+i))=false)) ?_ ?_ ⟨rfl,hint+1-min b (hint+1),hint-a,rfl,ω,ω,ω,fun i hi=>below (j:=hint-b) ω ω (q5 ω),fun i h1 h2=>above (j:=hint-a) h1 h2 q4⟩) ?_)
 ·rintro x c z _ hx ⟨rfl,l,r,rfl,p1,p2,p3,p4,p5⟩;dsimp only;split
  ·have:l=r:=by omega
   subst this;exact wpS_pure ⟨rfl,l,rfl,p2,p4,p5⟩
  rename_i hab;refine wpS_bind (beyok _ _ ω ?_);by_cases c:Bey left (f key) (Rk f arr (base+(l+(r-l)/2)))=true
  ·rw[c];exact wpS_pure ⟨rfl,_,_,rfl,ω,p2,ω,fun i hi=>below (j:=l+(r-l)/2) ω ω c,p5⟩
  rw[eq_false_iff.mpr c];exact wpS_pure ⟨rfl,_,_,rfl,ω,ω,ω,p4,fun i h1 h2=>above (j:=l+(r-l)/2) h1 h2 (eq_false_iff.mpr c)⟩
 ·rintro c z ⟨rfl,l,r,rfl,p1,p2,p3,p4,p5⟩;have:l=r:=by omega
  subst this;exact⟨rfl,l,rfl,p2,p4,p5⟩
 rintro c z ⟨rfl,r,rfl,p2,p4,p5⟩;exact wpS_pure (h r p2 (fun i hi=>Rh (p4 i hi)) (fun i h1 h2=>HX (p5 i h1 h2)))
end
end SRT
namespace SRT
open PySem PyProof.Rows
noncomputable def gJ (f:Keyed->Int)(xs:Array Keyed)(n:Nat):Prop:=∀i j,i<j->j<n->Rk f xs i<=Rk f xs j
section
variable {κ:SortKind}{prog:Program}{w:World}{s:Shared}{A:Around}{E:Value->Shared->Prop}{a₀:Array Keyed}{f:Keyed->Int}
noncomputable abbrev DY (f:Keyed->Int)(xs:List Keyed):Prop:=xs.Pairwise fun x y=>f x<=f y
theorem VL {a:Array Keyed}(h:gJ f a a.size):DY f a.toList:=by
 refine pairwise_iff_getElem.mpr fun i j hi hj hij=>?_;have hi':i<a.size:=by simpa using hi
 have hj':j<a.size:=by simpa using hj
 have:=h i j hij hj';rw[bC (getElem?_pos a i hi'),bC (getElem?_pos a j hj')] at this;simpa using this
theorem RL {a:Array Keyed}(h:DY f a.toList):gJ f a a.size:=fun i j hij hj=>by
 have hi:i<a.size:=ω;have:=(pairwise_iff_getElem.mp h) i j (by simpa using hi) (by simpa using hj) hij;rw[bC (getElem?_pos a i hi),bC (getElem?_pos a j hj)];simpa using this
theorem fG {a:Array Keyed}(h:gJ f a a.size)(x y:Nat):DY f (a.extract x y).toList:=by
 rw[toList_extract];exact(VL h).sublist ((take_sublist _ _).trans (drop_sublist _ _))
theorem aZ {a:Array Keyed}{x y:Nat}{p:Keyed}(h:p∈(a.extract x y).toList):∃t,x<=t/\t<y/\t<a.size/\a[t]?=some p:=by
 obtain⟨i,hi,e⟩:=mem_iff_getElem.mp h;have hi':i<min y a.size-x:=by
  have:=hi;simp at this;omega
 have e2:(a.extract x y).toList[i]?=some p:=by rw[getElem?_eq_getElem hi,e]
 rw[getElem?_toList,getElem?_extract,if_pos ω] at e2;exact⟨x+i,ω,ω,ω,e2⟩
structure SIw (f:Keyed->Int)(a b out:Array Keyed)(i j:Nat):Prop where
 pm:(cY a b out i j).Perm (a.toList++b.toList)
 up:DY f out.toList
 ga:∀o,o∈out.toList->∀t,i<=t->t<a.size->f o<=Rk f a t
 gb:∀o,o∈out.toList->∀t,j<=t->t<b.size->f o<=Rk f b t
theorem SIw.rY {a b out:Array Keyed}{i j:Nat}{p:Keyed}(h:SIw f a b out i j)(ub:gJ f b b.size)(hp:b[j]?=some p)(hlt:∀t,i<=t->t<a.size->Rk f b j<=Rk f a t):SIw f a b (out.push p) i (j+1):=by
 have hj:j<b.size:=(Array.getElem?_eq_some_iff.mp hp).1;have e:=bC (f:=f) hp;refine⟨(Px hp).trans h.pm,?_,fun o m t h1 h2=>?_,fun o m t h1 h2=>?_⟩
 ·rw[toList_push];refine pairwise_append.mpr ⟨h.up,pairwise_singleton _ _,fun x mx y my=>?_⟩;rw[mem_singleton.mp my,<- e];exact h.gb x mx j (le_refl _) hj
 ·rw[toList_push] at m;rcases mem_append.mp m with m|m
  ·exact h.ga o m t h1 h2
  rw[mem_singleton.mp m,<- e];exact hlt t h1 h2
 rw[toList_push] at m;rcases mem_append.mp m with m|m
 ·exact h.gb o m t ω h2
 rw[mem_singleton.mp m,<- e];exact ub j t ω h2
theorem SIw.lF {a b out:Array Keyed}{i j:Nat}{p:Keyed}(h:SIw f a b out i j)(ua:gJ f a a.size)(hp:a[i]?=some p)(hlt:∀t,j<=t->t<b.size->Rk f a i<=Rk f b t):SIw f a b (out.push p) (i+1) j:=by
 have hi:i<a.size:=(Array.getElem?_eq_some_iff.mp hp).1;have e:=bC (f:=f) hp;refine⟨(Py hp).trans h.pm,?_,fun o m t h1 h2=>?_,fun o m t h1 h2=>?_⟩
 ·rw[toList_push];refine pairwise_append.mpr ⟨h.up,pairwise_singleton _ _,fun x mx y my=>?_⟩;rw[mem_singleton.mp my,<- e];exact h.ga x mx i (le_refl _) hi
 ·rw[toList_push] at m;rcases mem_append.mp m with m|m
  ·exact h.ga o m t ω h2
  rw[mem_singleton.mp m,<- e];exact ua i t ω h2
 rw[toList_push] at m;rcases mem_append.mp m with m|m
 ·exact h.gb o m t h1 h2
 rw[mem_singleton.mp m,<- e];exact hlt t h1 h2
theorem SIw.Sh {a b out:Array Keyed}{i j k:Nat}(h:SIw f a b out i j)(ua:gJ f a a.size)(hlt:∀t,i<=t->t<i+k->t<a.size->∀u,j<=u->u<b.size->Rk f a t<=Rk f b u):SIw f a b (out++a.extract i (i+k)) (i+k) j:=by
 refine⟨U3.trans h.pm,?_,fun o m t h1 h2=>?_,fun o m t h1 h2=>?_⟩
 ·rw[toList_append];refine pairwise_append.mpr ⟨h.up,fG ua _ _,fun x mx y my=>?_⟩;obtain⟨t,t1,t2,t3,e⟩:=aZ my;rw[<- bC (f:=f) e];exact h.ga x mx t t1 t3
 ·rw[toList_append] at m;rcases mem_append.mp m with m|m
  ·exact h.ga o m t ω h2
  obtain⟨u,t1,t2,t3,e⟩:=aZ m;rw[<- bC (f:=f) e];exact ua u t ω h2
 rw[toList_append] at m;rcases mem_append.mp m with m|m
 ·exact h.gb o m t h1 h2
 obtain⟨u,t1,t2,t3,e⟩:=aZ m;rw[<- bC (f:=f) e];exact hlt u t1 t2 t3 t h1 h2
theorem SIw.Ju {a b out:Array Keyed}{i j k:Nat}(h:SIw f a b out i j)(ub:gJ f b b.size)(hlt:∀t,j<=t->t<j+k->t<b.size->∀u,i<=u->u<a.size->Rk f b t<=Rk f a u):SIw f a b (out++b.extract j (j+k)) i (j+k):=by
 refine⟨U0.trans h.pm,?_,fun o m t h1 h2=>?_,fun o m t h1 h2=>?_⟩
 ·rw[toList_append];refine pairwise_append.mpr ⟨h.up,fG ub _ _,fun x mx y my=>?_⟩;obtain⟨t,t1,t2,t3,e⟩:=aZ my;rw[<- bC (f:=f) e];exact h.gb x mx t t1 t3
 ·rw[toList_append] at m;rcases mem_append.mp m with m|m
  ·exact h.ga o m t h1 h2
  obtain⟨u,t1,t2,t3,e⟩:=aZ m;rw[<- bC (f:=f) e];exact hlt u t1 t2 t3 t h1 h2
 rw[toList_append] at m;rcases mem_append.mp m with m|m
 ·exact h.gb o m t ω h2
 obtain⟨u,t1,t2,t3,e⟩:=aZ m;rw[<- bC (f:=f) e];exact ub u t ω h2
noncomputable def oU (f:Keyed->Int)(a b:Array Keyed)(c:Option (Array Keyed)):Prop:=∃r,c=some r/\r.toList.Perm (a.toList++b.toList)/\DY f r.toList
theorem SIw.dn {a b out:Array Keyed}{i j:Nat}(h:SIw f a b out i j)(ua:gJ f a a.size)(ub:gJ f b b.size)(he:b.size<=j\/a.size<=i):oU f a b (some (out++a.extract i a.size++b.extract j b.size)):=by
 refine⟨_,rfl,by rw[U5];exact h.pm,?_⟩;rw[toList_append,toList_append];refine pairwise_append.mpr ⟨pairwise_append.mpr ⟨h.up,fG ua _ _,fun x mx y my=>?_⟩,fG ub _ _,fun x mx y my=>?_⟩
 ·obtain⟨t,t1,t2,t3,e⟩:=aZ my;rw[<- bC (f:=f) e];exact h.ga x mx t t1 t3
 obtain⟨t,t1,t2,t3,e⟩:=aZ my;rcases mem_append.mp mx with mx|mx
 ·rw[<- bC (f:=f) e];exact h.gb x mx t t1 t3
 obtain⟨u,u1,u2,u3,e2⟩:=aZ mx;omega
theorem SIw.ls {a b out:Array Keyed}{i j:Nat}(h:SIw f a b out i j)(ua:gJ f a a.size)(ub:gJ f b b.size)(hi:i+1=a.size)(hL:∀t,t<b.size->Rk f b t<=Rk f a (a.size-1)):oU f a b (some (out++b.extract j b.size++a.extract i a.size)):=by
 refine⟨_,rfl,U4.trans h.pm,?_⟩;rw[toList_append,toList_append];refine pairwise_append.mpr ⟨pairwise_append.mpr ⟨h.up,fG ub _ _,fun x mx y my=>?_⟩,fG ua _ _,fun x mx y my=>?_⟩
 ·obtain⟨t,t1,t2,t3,e⟩:=aZ my;rw[<- bC (f:=f) e];exact h.gb x mx t t1 t3
 obtain⟨t,t1,t2,t3,e⟩:=aZ my;rw[<- bC (f:=f) e];rcases mem_append.mp mx with mx|mx
 ·exact h.ga x mx t t1 t3
 obtain⟨u,u1,u2,u3,e2⟩:=aZ mx;rw[<- bC (f:=f) e2,show t=a.size-1 by omega];exact hL u u3
noncomputable def Ru (f:Keyed->Int)(a b out:Array Keyed)(i j:Nat):Prop:=SIw f a b out i j/\i+1<a.size/\j<b.size
theorem Q8 {c G:Prop}{P:Nat->Prop}[Decidable c](pos:c->(∀m,P m)->G)(neg:¬c->(∀m,P m)->G)(all:∀m,P m):G:=by
 by_cases h:c
 ·exact pos h all
 exact neg h all
theorem Ph {st:SortSt}{a b:Array Keyed}{Q:Array Keyed->SortSt->Prop}(O:rP κ prog w A E s a₀ f)(hk:kindOf st=κ)(ha:Inn a₀ a)(hb:Inn a₀ b)(ua:gJ f a a.size)(ub:gJ f b b.size)(h1:1<=a.size)(h2:1<=b.size)(h0:Rk f b 0<=Rk f a 0)(hL:Rk f b (b.size-1)<=Rk f a (a.size-1))
  (h:∀out g,out.toList.Perm (a.toList++b.toList)->DY f out.toList->Q out (jx st g)):wpS (model prog w) A E s (Pj a b) Q st:=by
 have hLa:∀t,t<b.size->Rk f b t<=Rk f a (a.size-1):=fun t ht=>by
  by_cases c:t=b.size-1
  ·rw[c];exact hL
  have:=ub t (b.size-1) ω ω;omega
 have ale:∀{i t:Nat},i<=t->t<a.size->Rk f a i<=Rk f a t:=fun {i t} h1 h2=>by
  by_cases c:i=t
  ·rw[c];omega
  have:=ua i t ω h2;omega
 have ble:∀{i t:Nat},i<=t->t<b.size->Rk f b i<=Rk f b t:=fun {i t} h1 h2=>by
  by_cases c:i=t
  ·rw[c];omega
  have:=ub i t ω h2;omega
 refine wpS_bind (wpS_lift (wpAny_rule (And.intro rfl ?_)));refine wpS_bind (bh ω fun p hp=>?_);dsimp only;have p0:SIw f a b #[p] 0 1:=by
  have z:SIw f a b #[] 0 0:=⟨by unfold cY;simp,.nil,fun o m=>(by cases m),fun o m=>(by cases m)⟩;have:=z.rY ub hp fun t _ ht=>by have:=ale (zero_le t) ht;omega
  exact this
 by_cases hb1:(1 == b.size)=true
 ·rw[if_pos hb1];obtain⟨r,e,q1,q2⟩:=p0.dn ua ub (.inl (by have:1=b.size:=(by simpa using hb1);omega));cases e;exact wpS_pure (h _ (gallopOf st) q1 q2)
 rw[if_neg hb1];by_cases ha1:(0+1 == a.size)=true
 ·rw[if_pos ha1];obtain⟨r,e,q1,q2⟩:=p0.ls ua ub (by simpa using ha1) hLa;cases e;exact wpS_pure (h _ (gallopOf st) q1 q2)
 rw[if_neg ha1];have hb1':1<b.size:=by have:¬(1=b.size):=(by simpa using hb1);omega
 have ha1':0+1<a.size:=by have:¬(0+1=a.size):=(by simpa using ha1);omega
 refine wpS_bind (wpS_get ?_);refine wpS_bind (wpS_mono (wpS_forRange (I:=fun x c z=>∃g,z=jx st g/\∃out i j m,c=(none,out,i,j,m)/\Ru f a b out i j/\x<=i+j) (Q:=fun c z=>∃g,z=jx st g/\oU f a b c.1) ?step ?fin ⟨gallopOf st,rfl,_,_,_,_,rfl,⟨p0,ha1',hb1'⟩,zero_le _⟩) ?post)
 case post=>
  rintro c z ⟨g,rfl,r,hr,hp,hu⟩;rw[hr];exact wpS_pure (h r g hp hu)
 case fin=>
  rintro c z ⟨g,rfl,out,i,j,m,rfl,⟨_,l1,l2⟩,hx⟩;exfalso;omega
 case step=>
  rintro x c z _ hx ⟨g,rfl,out,i,j,m,rfl,hI,hxi⟩;dsimp only;refine wpS_bind (wpS_mono (wpS_forRange (I:=fun y c z=>z=jx st g/\∃out i j ac bc,c=(none,out,i,j,ac,bc)/\Ru f a b out i j/\x+y<=i+j) (Q:=fun c z=>z=jx st g/\(oU f a b c.1\/∃out i j ac bc,c=(none,out,i,j,ac,bc)/\Ru f a b out i j/\x+1<=i+j)) ?step1 ?fin1 ⟨rfl,_,_,_,_,_,rfl,hI,hxi⟩) ?post1)
  case fin1=>
   rintro c z ⟨rfl,out,i,j,ac,bc,rfl,⟨_,l1,l2⟩,hy⟩;exfalso;omega
  case step1=>
   rintro y c z _ hy ⟨rfl,out,i,j,ac,bc,rfl,⟨si,l1,l2⟩,hyi⟩;dsimp only;refine wpS_bind (bh l2 fun q hq=>?_);refine wpS_bind (bh (show i<a.size by omega) fun r hr=>?_);refine wpS_bind (O _ _ _ _ hk (hb _ _ hq) (ha _ _ hr) ?_);rw[<- bC (f:=f) hq,<- bC (f:=f) hr];by_cases o:Rk f b j<Rk f a i
   ·rw[decide_eq_true o];refine wpS_bind (bh l2 fun q hq=>?_);have s2:=si.rY ub hq fun t t1 t2=>by have:=ale t1 t2;omega
    split
    ·rename_i hj;exact wpS_pure ⟨rfl,.inl (s2.dn ua ub (.inl (by have:j+1=b.size:=(by simpa using hj);omega)))⟩
    rename_i hj;have l2':j+1<b.size:=by have:¬(j+1=b.size):=(by simpa using hj);omega
    split
    ·exact wpS_pure ⟨rfl,.inr ⟨_,_,_,_,_,rfl,⟨s2,l1,l2'⟩,ω⟩⟩
    exact wpS_pure ⟨rfl,_,_,_,_,_,rfl,⟨s2,l1,l2'⟩,ω⟩
   rw[decide_eq_false o];refine wpS_bind (bh (show i<a.size by omega) fun r hr=>?_);have s2:=si.lF ua hr fun t t1 t2=>by have:=ble t1 t2;omega
   split
   ·rename_i hj;exact wpS_pure ⟨rfl,.inl (s2.ls ua ub (by simpa using hj) hLa)⟩
   rename_i hj;have l1':i+1+1<a.size:=by have:¬(i+1+1=a.size):=(by simpa using hj);omega
   split
   ·exact wpS_pure ⟨rfl,.inr ⟨_,_,_,_,_,rfl,⟨s2,l1',l2⟩,ω⟩⟩
   exact wpS_pure ⟨rfl,_,_,_,_,_,rfl,⟨s2,l1',l2⟩,ω⟩
  case post1=>
   rintro c z ⟨rfl,hc⟩;rcases hc with⟨r,hr,hp,hu⟩|⟨out,i,j,ac,bc,rfl,hI1,hxi1⟩
   ·rw[hr];exact wpS_pure ⟨g,rfl,r,rfl,hp,hu⟩
   dsimp only;refine wpS_bind (wpS_lift (wpAny_rule (And.intro rfl ?_)));refine wpS_bind (wpS_mono (wpS_forRange (I:=fun y c z=>∃g,z=jx st g/\∃out i j m ac bc,c=(none,out,i,j,m,ac,bc)/\Ru f a b out i j/\x+1<=i+j) (Q:=fun c z=>∃g,z=jx st g/\(oU f a b c.1\/∃out i j m ac bc,c=(none,out,i,j,m,ac,bc)/\Ru f a b out i j/\x+1<=i+j)) ?step2 (fun c z ⟨g,hz,hc⟩=>⟨g,hz,.inr hc⟩) ⟨g,rfl,_,_,_,_,_,_,rfl,hI1,hxi1⟩) ?post2)
   case post2=>
    rintro c z ⟨g,rfl,hc⟩;rcases hc with⟨r,hr,hp,hu⟩|⟨out,i,j,m,ac,bc,rfl,hI1,hxi1⟩
    ·rw[hr];exact wpS_pure ⟨g,rfl,r,rfl,hp,hu⟩
    refine wpS_bind (wpS_modify ?_);exact wpS_pure ⟨m+1,rfl,_,_,_,_,rfl,hI1,hxi1⟩
   case step2=>
    rintro y c z _ hy ⟨g,rfl,out,i,j,m,ac,bc,rfl,⟨si,l1,l2⟩,hyi⟩;dsimp only;apply Q8 (c:=m>1)
    case pos=>
     intro hm h;rw[if_pos hm];generalize m-1=m2;exact h m2
    case neg=>
     intro hm h;rw[if_neg hm];exact h m
    case all=>
     intro m;refine wpS_bind (wpS_modify ?_);refine wpS_bind (bh l2 fun q hq=>?_);refine wpS_bind (jB O hk (hb _ _ hq) ha ω ω (fun x y h1 h2=>ua _ _ ω ω) fun k hkn g1 g2=>?_);rw[<- bC (f:=f) hq] at g1 g2;have s1:=si.Sh (k:=k) ua fun t t1 t2 t3 u u1 u2=>by
      have:=g1 (t-i) ω;rw[show i+(t-i)=t by omega] at this;have:=ble u1 u2;omega
     have gB:∀t,i+k<=t->t<a.size->Rk f b j<=Rk f a t:=fun t t1 t2=>by
      have:=g2 (t-i) ω ω;rwa [show i+(t-i)=t by omega] at this
     dsimp only;by_cases hk0:k>0
     ·rw[if_pos hk0];by_cases e1:(i+k+1 == a.size)=true
      ·rw[if_pos e1];exact wpS_pure ⟨_,rfl,.inl (s1.ls ua ub (by simpa using e1) hLa)⟩
      rw[if_neg e1];by_cases e2:(i+k == a.size)=true
      ·rw[if_pos e2];exact wpS_pure ⟨_,rfl,.inl (s1.dn ua ub (.inr (by have:i+k=a.size:=(by simpa using e2);omega)))⟩
      rw[if_neg e2];have l1':i+k+1<a.size:=by
       have:¬(i+k+1=a.size):=(by simpa using e1);have:¬(i+k=a.size):=(by simpa using e2);omega
      refine wpS_bind (bh l2 fun q2 hq2=>?_);have s2:=s1.rY ub hq2 gB;by_cases e3:(j+1 == b.size)=true
      ·rw[if_pos e3];exact wpS_pure ⟨_,rfl,.inl (s2.dn ua ub (.inl (by have:j+1=b.size:=(by simpa using e3);omega)))⟩
      rw[if_neg e3];have l2':j+1<b.size:=by
       have:¬(j+1=b.size):=(by simpa using e3);omega
      refine wpS_bind (bh (show i+k<a.size by omega) fun r2 hr2=>?_);refine wpS_bind (jB O hk (ha _ _ hr2) hb ω ω (fun x y h1 h2=>ub _ _ ω ω) fun k2 hk2 g3 g4=>?_);rw[<- bC (f:=f) hr2] at g3 g4;have s3:=s2.Ju (k:=k2) ub fun t t1 t2 t3 u u1 u2=>by
       have:=g3 (t-(j+1)) ω;rw[show j+1+(t-(j+1))=t by omega] at this;have:=ale u1 u2;omega
      have gA:∀t,j+1+k2<=t->t<b.size->Rk f a (i+k)<=Rk f b t:=fun t t1 t2=>by
       have:=g4 (t-(j+1)) ω ω;rwa [show j+1+(t-(j+1))=t by omega] at this
      dsimp only;by_cases k20:k2>0
      ·rw[if_pos k20];by_cases e4:(j+1+k2 == b.size)=true
       ·rw[if_pos e4];exact wpS_pure ⟨_,rfl,.inl (s3.dn ua ub (.inl (by have:j+1+k2=b.size:=(by simpa using e4);omega)))⟩
       rw[if_neg e4];have l2'':j+1+k2<b.size:=by
        have:¬(j+1+k2=b.size):=(by simpa using e4);omega
       refine wpS_bind (bh (show i+k<a.size by omega) fun r3 hr3=>?_);have s4:=s3.lF ua hr3 gA;by_cases e5:(i+k+1+1 == a.size)=true
       ·rw[if_pos e5];exact wpS_pure ⟨_,rfl,.inl (s4.ls ua ub (by simpa using e5) hLa)⟩
       rw[if_neg e5];have l9:i+k+1+1<a.size:=by
        have:¬(i+k+1+1=a.size):=(by simpa using e5);omega
       split
       ·exact wpS_pure ⟨_,rfl,.inr ⟨_,_,_,_,_,_,rfl,⟨s4,l9,l2''⟩,ω⟩⟩
       exact wpS_pure ⟨_,rfl,_,_,_,_,_,_,rfl,⟨s4,l9,l2''⟩,ω⟩
      rw[if_neg k20];have e20:k2=0:=ω;subst e20;refine wpS_bind (bh (show i+k<a.size by omega) fun r3 hr3=>?_);have s4:=s2.lF ua hr3 gA;by_cases e5:(i+k+1+1 == a.size)=true
      ·rw[if_pos e5];exact wpS_pure ⟨_,rfl,.inl (s4.ls ua ub (by simpa using e5) hLa)⟩
      rw[if_neg e5];have l9:i+k+1+1<a.size:=by
       have:¬(i+k+1+1=a.size):=(by simpa using e5);omega
      split
      ·exact wpS_pure ⟨_,rfl,.inr ⟨_,_,_,_,_,_,rfl,⟨s4,l9,l2'⟩,ω⟩⟩
      exact wpS_pure ⟨_,rfl,_,_,_,_,_,_,rfl,⟨s4,l9,l2'⟩,ω⟩
     rw[if_neg hk0];have e00:k=0:=ω;subst e00;refine wpS_bind (bh l2 fun q2 hq2=>?_);have s2:=si.rY ub hq2 gB;by_cases e3:(j+1 == b.size)=true
     ·rw[if_pos e3];exact wpS_pure ⟨_,rfl,.inl (s2.dn ua ub (.inl (by have:j+1=b.size:=(by simpa using e3);omega)))⟩
     rw[if_neg e3];have l2':j+1<b.size:=by
      have:¬(j+1=b.size):=(by simpa using e3);omega
     refine wpS_bind (bh (show i<a.size by omega) fun r2 hr2=>?_);refine wpS_bind (jB O hk (ha _ _ hr2) hb ω ω (fun x y h1 h2=>ub _ _ ω ω) fun k2 hk2 g3 g4=>?_);rw[<- bC (f:=f) hr2] at g3 g4;have s3:=s2.Ju (k:=k2) ub fun t t1 t2 t3 u u1 u2=>by
      have:=g3 (t-(j+1)) ω;rw[show j+1+(t-(j+1))=t by omega] at this;have:=ale u1 u2;omega
     have gA:∀t,j+1+k2<=t->t<b.size->Rk f a i<=Rk f b t:=fun t t1 t2=>by
      have:=g4 (t-(j+1)) ω ω;rwa [show j+1+(t-(j+1))=t by omega] at this
     dsimp only;by_cases k20:k2>0
     ·rw[if_pos k20];by_cases e4:(j+1+k2 == b.size)=true
      ·rw[if_pos e4];exact wpS_pure ⟨_,rfl,.inl (s3.dn ua ub (.inl (by have:j+1+k2=b.size:=(by simpa using e4);omega)))⟩
      rw[if_neg e4];have l2'':j+1+k2<b.size:=by
       have:¬(j+1+k2=b.size):=(by simpa using e4);omega
      refine wpS_bind (bh (show i<a.size by omega) fun r3 hr3=>?_);have s4:=s3.lF ua hr3 gA;by_cases e5:(i+1+1 == a.size)=true
      ·rw[if_pos e5];exact wpS_pure ⟨_,rfl,.inl (s4.ls ua ub (by simpa using e5) hLa)⟩
      rw[if_neg e5];have l9:i+1+1<a.size:=by
       have:¬(i+1+1=a.size):=(by simpa using e5);omega
      split
      ·exact wpS_pure ⟨_,rfl,.inr ⟨_,_,_,_,_,_,rfl,⟨s4,l9,l2''⟩,ω⟩⟩
      exact wpS_pure ⟨_,rfl,_,_,_,_,_,_,rfl,⟨s4,l9,l2''⟩,ω⟩
     rw[if_neg k20];have e20:k2=0:=ω;subst e20;refine wpS_bind (bh (show i<a.size by omega) fun r3 hr3=>?_);have s4:=s2.lF ua hr3 gA;by_cases e5:(i+1+1 == a.size)=true
     ·rw[if_pos e5];exact wpS_pure ⟨_,rfl,.inl (s4.ls ua ub (by simpa using e5) hLa)⟩
     rw[if_neg e5];have l9:i+1+1<a.size:=by
      have:¬(i+1+1=a.size):=(by simpa using e5);omega
     split
     ·exact wpS_pure ⟨_,rfl,.inr ⟨_,_,_,_,_,_,rfl,⟨s4,l9,l2'⟩,ω⟩⟩
     exact wpS_pure ⟨_,rfl,_,_,_,_,_,_,rfl,⟨s4,l9,l2'⟩,ω⟩
end
end SRT
namespace SRT
open PySem PyProof.Rows
section
variable {κ:SortKind}{prog:Program}{w:World}{s:Shared}{A:Around}{E:Value->Shared->Prop}{a₀:Array Keyed}{f:Keyed->Int}
structure SHw (f:Keyed->Int)(a b out:Array Keyed)(i j:Nat):Prop where
 pm:(gK a b out i j).Perm (a.toList++b.toList)
 up:out.toList.Pairwise fun x y=>f y<=f x
 ga:∀o,o∈out.toList->∀t,t<i->t<a.size->Rk f a t<=f o
 gb:∀o,o∈out.toList->∀t,t<j->t<b.size->Rk f b t<=f o
theorem SHw.Sh {a b out:Array Keyed}{i j x:Nat}(h:SHw f a b out i j)(ua:gJ f a a.size)(hx:x<=i)(hlt:∀t,x<=t->t<i->t<a.size->∀u,u<j->u<b.size->Rk f b u<=Rk f a t):SHw f a b (out++(a.extract x i).reverse) x j:=by
 refine⟨(Vh hx).trans h.pm,?_,fun o m t h1 h2=>?_,fun o m t h1 h2=>?_⟩
 ·rw[toList_append,toList_reverse];refine pairwise_append.mpr ⟨h.up,pairwise_reverse.mpr (fG ua _ _),fun p mp q mq=>?_⟩;obtain⟨t,t1,t2,t3,e⟩:=aZ (mem_reverse.mp mq);rw[<- bC (f:=f) e];exact h.ga p mp t t2 t3
 ·rw[toList_append,toList_reverse] at m;rcases mem_append.mp m with m|m
  ·exact h.ga o m t ω h2
  obtain⟨u,t1,t2,t3,e⟩:=aZ (mem_reverse.mp m);rw[<- bC (f:=f) e];exact ua t u ω t3
 rw[toList_append,toList_reverse] at m;rcases mem_append.mp m with m|m
 ·exact h.gb o m t h1 h2
 obtain⟨u,t1,t2,t3,e⟩:=aZ (mem_reverse.mp m);rw[<- bC (f:=f) e];exact hlt u t1 t2 t3 t h1 h2
theorem SHw.Ju {a b out:Array Keyed}{i j x:Nat}(h:SHw f a b out i j)(ub:gJ f b b.size)(hx:x<=j)(hlt:∀t,x<=t->t<j->t<b.size->∀u,u<i->u<a.size->Rk f a u<=Rk f b t):SHw f a b (out++(b.extract x j).reverse) i x:=by
 refine⟨(Vg hx).trans h.pm,?_,fun o m t h1 h2=>?_,fun o m t h1 h2=>?_⟩
 ·rw[toList_append,toList_reverse];refine pairwise_append.mpr ⟨h.up,pairwise_reverse.mpr (fG ub _ _),fun p mp q mq=>?_⟩;obtain⟨t,t1,t2,t3,e⟩:=aZ (mem_reverse.mp mq);rw[<- bC (f:=f) e];exact h.gb p mp t t2 t3
 ·rw[toList_append,toList_reverse] at m;rcases mem_append.mp m with m|m
  ·exact h.ga o m t h1 h2
  obtain⟨u,t1,t2,t3,e⟩:=aZ (mem_reverse.mp m);rw[<- bC (f:=f) e];exact hlt u t1 t2 t3 t h1 h2
 rw[toList_append,toList_reverse] at m;rcases mem_append.mp m with m|m
 ·exact h.gb o m t ω h2
 obtain⟨u,t1,t2,t3,e⟩:=aZ (mem_reverse.mp m);rw[<- bC (f:=f) e];exact ub t u ω t3
theorem SHw.lF {a b out:Array Keyed}{i j:Nat}{p:Keyed}(h:SHw f a b out i j)(ua:gJ f a a.size)(h1:1<=i)(hp:a[i-1]?=some p)(hlt:∀u,u<j->u<b.size->Rk f b u<=Rk f a (i-1)):SHw f a b (out.push p) (i-1) j:=by
 have:=h.Sh (x:=i-1) ua ω fun t t1 t2 t3 u u1 u2=>by rw[show t=i-1 by omega];exact hlt u u1 u2
 rw[show a.extract (i-1) i=a.extract (i-1) (i-1+1) by rw[show i-1+1=i by omega],Ik hp] at this;exact this
theorem SHw.rY {a b out:Array Keyed}{i j:Nat}{p:Keyed}(h:SHw f a b out i j)(ub:gJ f b b.size)(h1:1<=j)(hp:b[j-1]?=some p)(hlt:∀u,u<i->u<a.size->Rk f a u<=Rk f b (j-1)):SHw f a b (out.push p) i (j-1):=by
 have:=h.Ju (x:=j-1) ub ω fun t t1 t2 t3 u u1 u2=>by rw[show t=j-1 by omega];exact hlt u u1 u2
 rw[show b.extract (j-1) j=b.extract (j-1) (j-1+1) by rw[show j-1+1=j by omega],Ik hp] at this;exact this
theorem SHw.dn {a b out:Array Keyed}{i j:Nat}(h:SHw f a b out i j)(ua:gJ f a a.size)(ub:gJ f b b.size)(he:i=0\/j=0):oU f a b (some (a.extract 0 i++b.extract 0 j++out.reverse)):=by
 refine⟨_,rfl,Vi.trans h.pm,?_⟩;rw[toList_append,toList_append,toList_reverse];refine pairwise_append.mpr ⟨pairwise_append.mpr ⟨fG ua _ _,fG ub _ _,fun x mx y my=>?_⟩,pairwise_reverse.mpr h.up,fun x mx y my=>?_⟩
 ·obtain⟨t,t1,t2,t3,e⟩:=aZ mx;obtain⟨u,u1,u2,u3,e2⟩:=aZ my;omega
 rcases mem_append.mp mx with mx|mx
 ·obtain⟨t,t1,t2,t3,e⟩:=aZ mx;rw[<- bC (f:=f) e];exact h.ga y (mem_reverse.mp my) t t2 t3
 obtain⟨t,t1,t2,t3,e⟩:=aZ mx;rw[<- bC (f:=f) e];exact h.gb y (mem_reverse.mp my) t t2 t3
theorem SHw.fs {a b out:Array Keyed}{i j:Nat}(h:SHw f a b out i j)(ua:gJ f a a.size)(ub:gJ f b b.size)(hj:j=1)(h0:∀t,t<a.size->Rk f b 0<=Rk f a t):oU f a b (some (b.extract 0 j++a.extract 0 i++out.reverse)):=by
 refine⟨_,rfl,Qm.trans h.pm,?_⟩;rw[toList_append,toList_append,toList_reverse];refine pairwise_append.mpr ⟨pairwise_append.mpr ⟨fG ub _ _,fG ua _ _,fun x mx y my=>?_⟩,pairwise_reverse.mpr h.up,fun x mx y my=>?_⟩
 ·obtain⟨t,t1,t2,t3,e⟩:=aZ mx;obtain⟨u,u1,u2,u3,e2⟩:=aZ my;rw[<- bC (f:=f) e,<- bC (f:=f) e2,show t=0 by omega];exact h0 u u3
 rcases mem_append.mp mx with mx|mx
 ·obtain⟨t,t1,t2,t3,e⟩:=aZ mx;rw[<- bC (f:=f) e];exact h.gb y (mem_reverse.mp my) t t2 t3
 obtain⟨t,t1,t2,t3,e⟩:=aZ mx;rw[<- bC (f:=f) e];exact h.ga y (mem_reverse.mp my) t t2 t3
noncomputable def Rw (f:Keyed->Int)(a b out:Array Keyed)(i j:Nat):Prop:=SHw f a b out i j/\0<i/\1<j/\i<=a.size/\j<=b.size
theorem Pk {st:SortSt}{a b:Array Keyed}{Q:Array Keyed->SortSt->Prop}(O:rP κ prog w A E s a₀ f)(hk:kindOf st=κ)(ha:Inn a₀ a)(hb:Inn a₀ b)(ua:gJ f a a.size)(ub:gJ f b b.size)(h1:1<=a.size)(h2:1<=b.size)(h0:Rk f b 0<=Rk f a 0)(hL:Rk f b (b.size-1)<=Rk f a (a.size-1))
  (h:∀out g,out.toList.Perm (a.toList++b.toList)->DY f out.toList->Q out (jx st g)):wpS (model prog w) A E s (Pn a b) Q st:=by
 have ale:∀{i t:Nat},i<=t->t<a.size->Rk f a i<=Rk f a t:=fun {i t} h1 h2=>by
  by_cases c:i=t
  ·rw[c];omega
  have:=ua i t ω h2;omega
 have ble:∀{i t:Nat},i<=t->t<b.size->Rk f b i<=Rk f b t:=fun {i t} h1 h2=>by
  by_cases c:i=t
  ·rw[c];omega
  have:=ub i t ω h2;omega
 have hF:∀t,t<a.size->Rk f b 0<=Rk f a t:=fun t ht=>by have:=ale (zero_le t) ht;omega
 refine wpS_bind (wpS_lift (wpAny_rule (And.intro rfl ?_)));refine wpS_bind (bh (show a.size-1<a.size by omega) fun p hp=>?_);dsimp only;have p0:SHw f a b #[p] (a.size-1) b.size:=by
  have z:SHw f a b #[] a.size b.size:=⟨by unfold gK;simp [take_of_length_le],.nil,fun o m=>(by cases m),fun o m=>(by cases m)⟩;exact z.lF ua h1 hp fun u u1 u2=>by have:=ble (i:=u) (t:=b.size-1) ω ω;omega
 by_cases ha1:(a.size-1 == 0)=true
 ·rw[if_pos ha1];obtain⟨r,e,q1,q2⟩:=p0.dn ua ub (.inl (by simpa using ha1));cases e;exact wpS_pure (h _ (gallopOf st) q1 q2)
 rw[if_neg ha1];by_cases hb1:(b.size == 1)=true
 ·rw[if_pos hb1];obtain⟨r,e,q1,q2⟩:=p0.fs ua ub (by simpa using hb1) hF;cases e;exact wpS_pure (h _ (gallopOf st) q1 q2)
 rw[if_neg hb1];have hb1':1<b.size:=by
  have:¬(b.size=1):=(by simpa using hb1);omega
 have ha1':0<a.size-1:=by
  have:¬(a.size-1=0):=(by simpa using ha1);omega
 refine wpS_bind (wpS_get ?_);refine wpS_bind (wpS_mono (wpS_forRange (I:=fun x c z=>∃g,z=jx st g/\∃i j out m,c=(none,i,j,out,m)/\Rw f a b out i j/\i+j+x<=a.size+b.size) (Q:=fun c z=>∃g,z=jx st g/\oU f a b c.1) ?step ?fin ⟨gallopOf st,rfl,_,_,_,_,rfl,⟨p0,ha1',hb1',ω,le_refl _⟩,ω⟩) ?post)
 case post=>
  rintro c z ⟨g,rfl,r,hr,hp,hu⟩;rw[hr];exact wpS_pure (h r g hp hu)
 case fin=>
  rintro c z ⟨g,rfl,i,j,out,m,rfl,⟨_,l1,l2,_,_⟩,hx⟩;exfalso;omega
 case step=>
  rintro x c z _ hx ⟨g,rfl,i,j,out,m,rfl,hI,hxi⟩;dsimp only;refine wpS_bind (wpS_mono (wpS_forRange (I:=fun y c z=>z=jx st g/\∃i j out ac bc,c=(none,i,j,out,ac,bc)/\Rw f a b out i j/\i+j+(x+y)<=a.size+b.size) (Q:=fun c z=>z=jx st g/\(oU f a b c.1\/∃i j out ac bc,c=(none,i,j,out,ac,bc)/\Rw f a b out i j/\i+j+(x+1)<=a.size+b.size)) ?step1 ?fin1 ⟨rfl,_,_,_,_,_,rfl,hI,hxi⟩) ?post1)
  case fin1=>
   rintro c z ⟨rfl,i,j,out,ac,bc,rfl,⟨_,l1,l2,_,_⟩,hy⟩;exfalso;omega
  case step1=>
   rintro y c z _ hy ⟨rfl,i,j,out,ac,bc,rfl,⟨si,l1,l2,u1,u2⟩,hyi⟩;dsimp only;refine wpS_bind (bh (show j-1<b.size by omega) fun q hq=>?_);refine wpS_bind (bh (show i-1<a.size by omega) fun r hr=>?_);refine wpS_bind (O _ _ _ _ hk (hb _ _ hq) (ha _ _ hr) ?_);rw[<- bC (f:=f) hq,<- bC (f:=f) hr];by_cases o:Rk f b (j-1)<Rk f a (i-1)
   ·rw[decide_eq_true o];refine wpS_bind (bh (show i-1<a.size by omega) fun r hr=>?_);have s2:=si.lF ua ω hr fun u v1 v2=>by have:=ble (i:=u) (t:=j-1) ω ω;omega
    split
    ·rename_i hj;exact wpS_pure ⟨rfl,.inl (s2.dn ua ub (.inl (by simpa using hj)))⟩
    rename_i hj;have l1':0<i-1:=by
     have:¬(i-1=0):=(by simpa using hj);omega
    split
    ·exact wpS_pure ⟨rfl,.inr ⟨_,_,_,_,_,rfl,⟨s2,l1',l2,ω,u2⟩,ω⟩⟩
    exact wpS_pure ⟨rfl,_,_,_,_,_,rfl,⟨s2,l1',l2,ω,u2⟩,ω⟩
   rw[decide_eq_false o];refine wpS_bind (bh (show j-1<b.size by omega) fun q hq=>?_);have s2:=si.rY ub ω hq fun u v1 v2=>by have:=ale (i:=u) (t:=i-1) ω ω;omega
   split
   ·rename_i hj;exact wpS_pure ⟨rfl,.inl (s2.fs ua ub (by simpa using hj) hF)⟩
   rename_i hj;have l2':1<j-1:=by
    have:¬(j-1=1):=(by simpa using hj);omega
   split
   ·exact wpS_pure ⟨rfl,.inr ⟨_,_,_,_,_,rfl,⟨s2,l1,l2',u1,ω⟩,ω⟩⟩
   exact wpS_pure ⟨rfl,_,_,_,_,_,rfl,⟨s2,l1,l2',u1,ω⟩,ω⟩
  case post1=>
   rintro c z ⟨rfl,hc⟩;rcases hc with⟨r,hr,hp,hu⟩|⟨i,j,out,ac,bc,rfl,hI1,hxi1⟩
   ·rw[hr];exact wpS_pure ⟨g,rfl,r,rfl,hp,hu⟩
   dsimp only;refine wpS_bind (wpS_lift (wpAny_rule (And.intro rfl ?_)));refine wpS_bind (wpS_mono (wpS_forRange (I:=fun y c z=>∃g,z=jx st g/\∃i j out m ac bc,c=(none,i,j,out,m,ac,bc)/\Rw f a b out i j/\i+j+(x+1)<=a.size+b.size) (Q:=fun c z=>∃g,z=jx st g/\(oU f a b c.1\/∃i j out m ac bc,c=(none,i,j,out,m,ac,bc)/\Rw f a b out i j/\i+j+(x+1)<=a.size+b.size)) ?step2 (fun c z ⟨g,hz,hc⟩=>⟨g,hz,.inr hc⟩) ⟨g,rfl,_,_,_,_,_,_,rfl,hI1,hxi1⟩) ?post2)
   case post2=>
    rintro c z ⟨g,rfl,hc⟩;rcases hc with⟨r,hr,hp,hu⟩|⟨i,j,out,m,ac,bc,rfl,hI1,hxi1⟩
    ·rw[hr];exact wpS_pure ⟨g,rfl,r,rfl,hp,hu⟩
    refine wpS_bind (wpS_modify ?_);exact wpS_pure ⟨m+1,rfl,_,_,_,_,rfl,hI1,hxi1⟩
   case step2=>
    rintro y c z _ hy ⟨g,rfl,i,j,out,m,ac,bc,rfl,⟨si,l1,l2,u1,u2⟩,hyi⟩;dsimp only;apply Q8 (c:=m>1)
    case pos=>
     intro hm h;rw[if_pos hm];generalize m-1=m2;exact h m2
    case neg=>
     intro hm h;rw[if_neg hm];exact h m
    case all=>
     intro m;refine wpS_bind (wpS_modify ?_);refine wpS_bind (bh (show j-1<b.size by omega) fun q hq=>?_);refine wpS_bind (jB O hk (hb _ _ hq) ha ω ω (fun x y h1 h2=>ua _ _ ω ω) fun x1 hx1 g1 g2=>?_);rw[<- bC (f:=f) hq] at g1 g2;simp only[zero_add] at g1 g2;have s1:=si.Sh (x:=x1) ua hx1 fun t t1 t2 t3 u v1 v2=>by
      have:=g2 t t1 t2;have:=ble (i:=u) (t:=j-1) ω ω;omega
     have gB:∀u,u<x1->u<a.size->Rk f a u<=Rk f b (j-1):=fun u v1 v2=>g1 u v1;dsimp only;by_cases hk0:i-x1>0
     ·rw[if_pos hk0];by_cases e1:(x1 == 0)=true
      ·rw[if_pos e1];exact wpS_pure ⟨_,rfl,.inl (s1.dn ua ub (.inl (by simpa using e1)))⟩
      rw[if_neg e1];have l1':0<x1:=by
       have:¬(x1=0):=(by simpa using e1);omega
      refine wpS_bind (bh (show j-1<b.size by omega) fun q2 hq2=>?_);have s2:=s1.rY ub ω hq2 gB;by_cases e3:(j-1 == 1)=true
      ·rw[if_pos e3];exact wpS_pure ⟨_,rfl,.inl (s2.fs ua ub (by simpa using e3) hF)⟩
      rw[if_neg e3];have l2':1<j-1:=by
       have:¬(j-1=1):=(by simpa using e3);omega
      refine wpS_bind (bh (show x1-1<a.size by omega) fun r2 hr2=>?_);refine wpS_bind (jB O hk (ha _ _ hr2) hb ω ω (fun x y h1 h2=>ub _ _ ω ω) fun x2 hx2 g3 g4=>?_);rw[<- bC (f:=f) hr2] at g3 g4;simp only[zero_add] at g3 g4;have s3:=s2.Ju (x:=x2) ub hx2 fun t t1 t2 t3 u v1 v2=>by
       have:=g4 t t1 t2;have:=ale (i:=u) (t:=x1-1) ω ω;omega
      have gA:∀u,u<x2->u<b.size->Rk f b u<=Rk f a (x1-1):=fun u v1 v2=>g3 u v1;dsimp only;by_cases k20:j-1-x2>0
      ·rw[if_pos k20];by_cases e4:(x2 == 1)=true
       ·rw[if_pos e4];exact wpS_pure ⟨_,rfl,.inl (s3.fs ua ub (by simpa using e4) hF)⟩
       rw[if_neg e4];by_cases e6:(x2 == 0)=true
       ·rw[if_pos e6];exact wpS_pure ⟨_,rfl,.inl (s3.dn ua ub (.inr (by simpa using e6)))⟩
       rw[if_neg e6];have l2'':1<x2:=by
        have:¬(x2=1):=(by simpa using e4);have:¬(x2=0):=(by simpa using e6);omega
       refine wpS_bind (bh (show x1-1<a.size by omega) fun r3 hr3=>?_);have s4:=s3.lF ua ω hr3 gA;by_cases e5:(x1-1 == 0)=true
       ·rw[if_pos e5];exact wpS_pure ⟨_,rfl,.inl (s4.dn ua ub (.inl (by simpa using e5)))⟩
       rw[if_neg e5];have l9:0<x1-1:=by
        have:¬(x1-1=0):=(by simpa using e5);omega
       split
       ·exact wpS_pure ⟨_,rfl,.inr ⟨_,_,_,_,_,_,rfl,⟨s4,l9,l2'',ω,ω⟩,ω⟩⟩
       exact wpS_pure ⟨_,rfl,_,_,_,_,_,_,rfl,⟨s4,l9,l2'',ω,ω⟩,ω⟩
      rw[if_neg k20];have e20:x2=j-1:=ω;subst e20;refine wpS_bind (bh (show x1-1<a.size by omega) fun r3 hr3=>?_);have s4:=s2.lF ua ω hr3 gA;by_cases e5:(x1-1 == 0)=true
      ·rw[if_pos e5];exact wpS_pure ⟨_,rfl,.inl (s4.dn ua ub (.inl (by simpa using e5)))⟩
      rw[if_neg e5];have l9:0<x1-1:=by
       have:¬(x1-1=0):=(by simpa using e5);omega
      split
      ·exact wpS_pure ⟨_,rfl,.inr ⟨_,_,_,_,_,_,rfl,⟨s4,l9,l2',ω,ω⟩,ω⟩⟩
      exact wpS_pure ⟨_,rfl,_,_,_,_,_,_,rfl,⟨s4,l9,l2',ω,ω⟩,ω⟩
     rw[if_neg hk0];have e00:x1=i:=ω;subst e00;refine wpS_bind (bh (show j-1<b.size by omega) fun q2 hq2=>?_);have s2:=si.rY ub ω hq2 gB;by_cases e3:(j-1 == 1)=true
     ·rw[if_pos e3];exact wpS_pure ⟨_,rfl,.inl (s2.fs ua ub (by simpa using e3) hF)⟩
     rw[if_neg e3];have l2':1<j-1:=by
      have:¬(j-1=1):=(by simpa using e3);omega
     refine wpS_bind (bh (show x1-1<a.size by omega) fun r2 hr2=>?_);refine wpS_bind (jB O hk (ha _ _ hr2) hb ω ω (fun x y h1 h2=>ub _ _ ω ω) fun x2 hx2 g3 g4=>?_);rw[<- bC (f:=f) hr2] at g3 g4;simp only[zero_add] at g3 g4;have s3:=s2.Ju (x:=x2) ub hx2 fun t t1 t2 t3 u v1 v2=>by
      have:=g4 t t1 t2;have:=ale (i:=u) (t:=x1-1) ω ω;omega
     have gA:∀u,u<x2->u<b.size->Rk f b u<=Rk f a (x1-1):=fun u v1 v2=>g3 u v1;dsimp only;by_cases k20:j-1-x2>0
     ·rw[if_pos k20];by_cases e4:(x2 == 1)=true
      ·rw[if_pos e4];exact wpS_pure ⟨_,rfl,.inl (s3.fs ua ub (by simpa using e4) hF)⟩
      rw[if_neg e4];by_cases e6:(x2 == 0)=true
      ·rw[if_pos e6];exact wpS_pure ⟨_,rfl,.inl (s3.dn ua ub (.inr (by simpa using e6)))⟩
      rw[if_neg e6];have l2'':1<x2:=by
       have:¬(x2=1):=(by simpa using e4);have:¬(x2=0):=(by simpa using e6);omega
      refine wpS_bind (bh (show x1-1<a.size by omega) fun r3 hr3=>?_);have s4:=s3.lF ua ω hr3 gA;by_cases e5:(x1-1 == 0)=true
      ·rw[if_pos e5];exact wpS_pure ⟨_,rfl,.inl (s4.dn ua ub (.inl (by simpa using e5)))⟩
      rw[if_neg e5];have l9:0<x1-1:=by
       have:¬(x1-1=0):=(by simpa using e5);omega
      split
      ·exact wpS_pure ⟨_,rfl,.inr ⟨_,_,_,_,_,_,rfl,⟨s4,l9,l2'',ω,ω⟩,ω⟩⟩
      exact wpS_pure ⟨_,rfl,_,_,_,_,_,_,rfl,⟨s4,l9,l2'',ω,ω⟩,ω⟩
     rw[if_neg k20];have e20:x2=j-1:=ω;subst e20;refine wpS_bind (bh (show x1-1<a.size by omega) fun r3 hr3=>?_);have s4:=s2.lF ua ω hr3 gA;by_cases e5:(x1-1 == 0)=true
     ·rw[if_pos e5];exact wpS_pure ⟨_,rfl,.inl (s4.dn ua ub (.inl (by simpa using e5)))⟩
     rw[if_neg e5];have l9:0<x1-1:=by
      have:¬(x1-1=0):=(by simpa using e5);omega
     split
     ·exact wpS_pure ⟨_,rfl,.inr ⟨_,_,_,_,_,_,rfl,⟨s4,l9,l2',ω,ω⟩,ω⟩⟩
     exact wpS_pure ⟨_,rfl,_,_,_,_,_,_,rfl,⟨s4,l9,l2',ω,ω⟩,ω⟩
end
end SRT
namespace SRT
open PySem PyProof.Rows
section
variable {κ:SortKind}{prog:Program}{w:World}{s:Shared}{A:Around}{E:Value->Shared->Prop}{a₀:Array Keyed}{f:Keyed->Int}{pd:Array (Nat×Nat×Nat)}
noncomputable def cA (f:Keyed->Int)(xs:Array Keyed)(lo hi:Nat):Prop:=∀i j,lo<=i->i<j->j<hi->Rk f xs i<=Rk f xs j
theorem cA.snoc {xs:Array Keyed}{lo n:Nat}(h:cA f xs lo n)(h1:lo<n)(hl:Rk f xs (n-1)<=Rk f xs n):cA f xs lo (n+1):=fun i j hi hij hj=>by
 by_cases e:j=n
 ·subst e;by_cases e2:i=j-1
  ·subst e2;exact hl
  have:=h i (j-1) hi ω ω;omega
 exact h i j hi hij ω
theorem cA.at {xs ys:Array Keyed}{lo hi:Nat}(h:cA f xs lo hi)(e:∀i,lo<=i->i<hi->ys[i]?=xs[i]?):cA f ys lo hi:=fun i j h1 h2 h3=>by
 rw[Rk.at (e i h1 ω),Rk.at (e j ω h3)];exact h i j h1 h2 h3
theorem QB.mirror {st:SortSt}(h:QB κ a₀ pd st)(i j d:Nat):QB κ a₀ pd (setArr st (mirror (arrOf st) i j d)):=h.set (mirror_perm _ _ _ _)
theorem JX {st:SortSt}{i j:Nat}{Q:Option Bool->SortSt->Prop}(O:rP κ prog w A E s a₀ f)(hB:QB κ a₀ pd st)(hi:i<a₀.size)(hj:j<a₀.size)
  (h:Q (some (decide (Rk f (arrOf st) i<Rk f (arrOf st) j))) st):wpS (model prog w) A E s (ltAt' i j) Q st:=by
 have hz:=hB.size;rw[ltAt'_eq];refine wpS_bind (wpS_get ?_);refine wpS_bind (bh ω fun p hp=>?_);refine wpS_bind (bh ω fun q hq=>?_);rw[bC hp,bC hq] at h;exact O _ _ _ _ hB.kind (hB.inn _ _ hp) (hB.inn _ _ hq) h
structure sS (κ:SortKind)(a₀:Array Keyed)(pd:Array (Nat×Nat×Nat))(f:Keyed->Int)(lo:Nat)(z0 z:SortSt):Prop where
 b:QB κ a₀ pd z
 o:∀i,i<lo->(arrOf z)[i]?=(arrOf z0)[i]?
 r:∀i,Rk f (arrOf z) i=Rk f (arrOf z0) i
theorem sS.rev {z0 z:SortSt}{lo i j:Nat}(h:sS κ a₀ pd f lo z0 z)(hi:lo<=i)(hj:j<=a₀.size)(flat:∀k,i<=k->k<j->Rk f (arrOf z0) k=Rk f (arrOf z0) (j-1)):sS κ a₀ pd f lo z0 (setArr z (mirror (arrOf z) i j ((j-i)/2))):=by
 have hz:=h.b.size;have mi:=fun k=>getElem?_mirror_all (xs:=arrOf z) (i:=i) (j:=j) ω k;refine⟨h.b.mirror _ _ _,fun k hk=>?_,fun k=>?_⟩
 ·have e:=mi k;rw[if_neg ω] at e;exact e.trans (h.o k hk)
 have e:=mi k;show Rk f (mirror (arrOf z) i j ((j-i)/2)) k=_;by_cases c:i<=k/\k<j
 ·rw[if_pos c] at e;rw[Rk.at e,h.r,flat _ ω ω,flat k c.1 c.2]
 rw[if_neg c] at e;rw[Rk.at e,h.r]
theorem Vy {st:SortSt}{lo nrem:Nat}{Q:Option Nat->SortSt->Prop}(O:rP κ prog w A E s a₀ f)(hB:QB κ a₀ pd st)(h1:1<=nrem)(hn:lo+nrem<=a₀.size)
  (h:∀n st',1<=n->n<=nrem->QB κ a₀ pd st'->(∀i,i<lo->(arrOf st')[i]?=(arrOf st)[i]?)->cA f (arrOf st') lo (lo+n)->Q (some n) st'):wpS (model prog w) A E s (countRun' lo nrem) Q st:=by
 refine wpS_bind (wpS_mono (wpS_forRange (I:=fun x c z=>z=st/\c=(none,x)/\cA f (arrOf st) lo (lo+x)) (Q:=fun c z=>z=st/\∃n,c=(none,n)/\1<=n/\n<=nrem/\cA f (arrOf st) lo (lo+n)/\(n<nrem->Rk f (arrOf st) (lo+n)<Rk f (arrOf st) (lo+n-1))) ?_ ?_ ⟨rfl,rfl,fun i j a b c=>ω⟩) ?_)
 ·rintro x c z h1x hx ⟨rfl,rfl,ha⟩;dsimp only;refine wpS_bind (JX O hB ω ω ?_);by_cases e:Rk f (arrOf z) (lo+x)<Rk f (arrOf z) (lo+x-1)
  ·rw[decide_eq_true e];exact wpS_pure ⟨rfl,x,rfl,h1x,ω,ha,fun _=>e⟩
  rw[decide_eq_false e];exact wpS_pure ⟨rfl,rfl,ha.snoc ω ω⟩
 ·rintro c z ⟨rfl,rfl,ha⟩;rw[max_eq_right h1] at ha |-;exact⟨rfl,_,rfl,ω,ω,ha,fun q=>ω⟩
 rintro c z0 ⟨rfl,n,rfl,k1,k2,ha,hx⟩;dsimp only;by_cases he:(n == nrem)=true
 ·rw[if_pos he];exact wpS_pure (h n z0 k1 k2 hB (fun _ _=>rfl) ha)
 rw[if_neg he];have k3:n<nrem:=by have:¬(n=nrem):=(by simpa using he);omega
 have z00:sS κ a₀ pd f lo z0 z0:=⟨hB,fun _ _=>rfl,fun _=>rfl⟩;refine' (fun(tail:∀z,sS κ a₀ pd f lo z0 z->(∀i j,lo<=i->i<j->j<lo+(n+1)->Rk f (arrOf z0) j<=Rk f (arrOf z0) i)->wpS (model prog w) A E s _ Q z)=>?main) ?tail
 case main=>
  by_cases hg:n>1
  ·rw[if_pos hg];refine wpS_bind (JX O hB ω ω ?_);by_cases e:Rk f (arrOf z0) lo<Rk f (arrOf z0) (lo+n-1)
   ·rw[decide_eq_true e];exact wpS_pure (h n z0 k1 k2 hB (fun _ _=>rfl) ha)
   rw[decide_eq_false e];have fl:∀k,lo<=k->k<lo+n->Rk f (arrOf z0) k=Rk f (arrOf z0) (lo+n-1):=fun k a b=>by
    have q1:Rk f (arrOf z0) lo<=Rk f (arrOf z0) k:=by
     by_cases c:lo=k
     ·rw[c];exact Int.le_refl _
     exact ha lo k (le_refl _) ω b
    have q2:Rk f (arrOf z0) k<=Rk f (arrOf z0) (lo+n-1):=by
     by_cases c:k=lo+n-1
     ·rw[c];exact Int.le_refl _
     exact ha k (lo+n-1) a ω ω
    omega
   apply wpS_bind;apply wpS_reverse;refine tail _ (z00.rev (le_refl _) ω fl) fun i j a b c=>?_;have q1:=fl i a ω;by_cases c2:j=lo+n
   ·have:=hx k3;rw[c2];omega
   have q2:=fl j ω ω;omega
  rw[if_neg hg];refine tail z0 z00 fun i j a b c=>?_;have e1:n=1:=ω;subst e1;have:i=lo:=by omega
  have:j=lo+1:=by omega
  subst i;subst j;have:=hx k3;rw[show lo+1-1=lo by omega] at this;omega
 case tail=>
  intro z hz hd;refine wpS_bind (wpS_lift (wpAny_rule (And.intro rfl ?_)));refine wpS_bind (wpS_mono (wpS_forRange (I:=fun x c z'=>∃q,sS κ a₀ pd f lo z0 z'/\c=(none,x,q)/\(∀i j,lo<=i->i<j->j<lo+x->Rk f (arrOf z0) j<=Rk f (arrOf z0) i)/\q+1<=x/\∀k,lo+x-(q+1)<=k->k<lo+x->Rk f (arrOf z0) k=Rk f (arrOf z0) (lo+x-1))
   (Q:=fun c z'=>∃x q,sS κ a₀ pd f lo z0 z'/\c=(none,x,q)/\2<=x/\x<=nrem/\(∀i j,lo<=i->i<j->j<lo+x->Rk f (arrOf z0) j<=Rk f (arrOf z0) i)/\q+1<=x/\∀k,lo+x-(q+1)<=k->k<lo+x->Rk f (arrOf z0) k=Rk f (arrOf z0) (lo+x-1)) ?_ ?_ ⟨0,hz,rfl,hd,ω,fun k a b=>by rw[show k=lo+(n+1)-1 by omega]⟩) ?_)
  ·rintro x c z' h2x hx2 ⟨q,hZ,rfl,hD,hq1,hq2⟩;dsimp only;refine wpS_bind (JX O hZ.b ω ω ?_);rw[hZ.r,hZ.r];have hD1:Rk f (arrOf z0) (lo+x)<=Rk f (arrOf z0) (lo+x-1)->∀i j,lo<=i->i<j->j<lo+(x+1)->Rk f (arrOf z0) j<=Rk f (arrOf z0) i:=fun e i j a b c=>by
    by_cases ej:j=lo+x
    ·subst ej;by_cases ei:i=lo+x-1
     ·rw[ei];exact e
     have:=hD i (lo+x-1) a ω ω;omega
    exact hD i j a b ω
   by_cases e:Rk f (arrOf z0) (lo+x)<Rk f (arrOf z0) (lo+x-1)
   ·rw[decide_eq_true e];dsimp only;rw[if_pos rfl];have one:∀k,lo+(x+1)-(0+1)<=k->k<lo+(x+1)->Rk f (arrOf z0) k=Rk f (arrOf z0) (lo+(x+1)-1):=fun k a b=>by rw[show k=lo+(x+1)-1 by omega]
    by_cases hq:q>0
    ·rw[if_pos hq];apply wpS_bind;apply wpS_reverse;exact wpS_pure ⟨0,hZ.rev ω ω hq2,rfl,hD1 ω,ω,one⟩
    rw[if_neg hq];exact wpS_pure ⟨0,hZ,rfl,hD1 ω,ω,one⟩
   rw[decide_eq_false e];dsimp only;rw[if_neg (Bool.false_ne_true)];refine wpS_bind (JX O hZ.b ω ω ?_);rw[hZ.r,hZ.r];by_cases e2:Rk f (arrOf z0) (lo+x-1)<Rk f (arrOf z0) (lo+x)
   ·rw[decide_eq_true e2];exact wpS_pure ⟨x,q,hZ,rfl,ω,ω,hD,hq1,hq2⟩
   rw[decide_eq_false e2];refine wpS_pure ⟨q+1,hZ,rfl,hD1 ω,ω,fun k a b=>?_⟩;rw[show lo+(x+1)-1=lo+x by omega];by_cases c:k=lo+x
   ·rw[c]
   have:=hq2 k ω ω;omega
  ·rintro c z' ⟨q,hZ,rfl,hD,hq1,hq2⟩;rw[max_eq_right ω] at hD hq1 hq2 |-;exact⟨_,q,hZ,rfl,ω,le_refl _,hD,hq1,hq2⟩
  rintro c z' ⟨n,q,hZ,rfl,q1,q2,hD,hq1,hq2⟩;dsimp only;refine' (fun(tail2:∀z',sS κ a₀ pd f lo z0 z'->wpS (model prog w) A E s _ Q z')=>?main2) ?tail2
  case main2=>
   by_cases hq:q>0
   ·rw[if_pos hq];apply wpS_bind;apply wpS_reverse;exact tail2 _ (hZ.rev ω ω hq2)
   rw[if_neg hq];exact tail2 _ hZ
  case tail2=>
   intro z' hZ;have hz:=hZ.b.size;apply wpS_bind;apply wpS_reverse;have hB':QB κ a₀ pd (setArr z' (mirror (arrOf z') lo (lo+n) ((lo+n-lo)/2))):=hZ.b.mirror _ _ _;have mi:=fun k=>getElem?_mirror_all (xs:=arrOf z') (i:=lo) (j:=lo+n) ω k;have ha':cA f (arrOf (setArr z' (mirror (arrOf z') lo (lo+n) ((lo+n-lo)/2)))) lo (lo+n):=fun i j a b c=>by
    have e1:=mi i;have e2:=mi j;rw[if_pos ⟨a,ω⟩] at e1;rw[if_pos ⟨ω,c⟩] at e2;show Rk f (mirror (arrOf z') lo (lo+n) ((lo+n-lo)/2)) i<=Rk f (mirror (arrOf z') lo (lo+n) ((lo+n-lo)/2)) j;rw[Rk.at e1,Rk.at e2,hZ.r,hZ.r];exact hD _ _ ω ω ω
   have hsame:∀i,i<lo->(arrOf (setArr z' (mirror (arrOf z') lo (lo+n) ((lo+n-lo)/2))))[i]?=(arrOf z0)[i]?:=fun i hi=>by
    have e1:=mi i;rw[if_neg ω] at e1;exact e1.trans (hZ.o i hi)
   generalize setArr z' (mirror (arrOf z') lo (lo+n) ((lo+n-lo)/2))=st2 at hB' ha' hsame |-;refine wpS_bind (wpS_mono (wpS_forRange (I:=fun x c z=>z=st2/\c=(none,x)/\cA f (arrOf st2) lo (lo+x)) (Q:=fun c z=>z=st2/\∃n,c=(none,n)/\1<=n/\n<=nrem/\cA f (arrOf st2) lo (lo+n)) ?_ ?_ ⟨rfl,rfl,ha'⟩) ?_)
   ·rintro x c z h1x hx ⟨rfl,rfl,ha⟩;dsimp only;refine wpS_bind (JX O hB' ω ω ?_);by_cases e:Rk f (arrOf z) (lo+x)<Rk f (arrOf z) (lo+x-1)
    ·rw[decide_eq_true e];exact wpS_pure ⟨rfl,x,rfl,ω,ω,ha⟩
    rw[decide_eq_false e];exact wpS_pure ⟨rfl,rfl,ha.snoc ω ω⟩
   ·rintro c z ⟨rfl,rfl,ha⟩;rw[max_eq_right ω] at ha |-;exact⟨rfl,_,rfl,ω,le_refl _,ha⟩
   rintro c z ⟨rfl,n,rfl,k1,k2,ha⟩;exact wpS_pure (h n z k1 k2 hB' hsame ha)
theorem Bk {xs:Array Keyed}{K L lo:Nat}(h:cA f xs lo K)(hK:K<xs.size)(hL:lo<=L)(hL2:L<=K)(h1:∀i,lo<=i->i<L->Rk f xs i<=Rk f xs K)(h2:∀i,L<=i->i<K->Rk f xs K<=Rk f xs i):cA f (bubble xs K (K-L)) lo (K+1):=by
 have g:∀i,Rk f (bubble xs K (K-L)) i=if i=L then Rk f xs K else if L<i/\i<=K then Rk f xs (i-1) else Rk f xs i:=fun i=>by
  have e:=getElem?_bubble hK (K-L) ω i;rw[show K-(K-L)=L by omega] at e;split
  ·rename_i c;rw[if_pos c] at e;exact Rk.at e
  rename_i c;rw[if_neg c] at e;split
  ·rename_i c2;rw[if_pos c2] at e;exact Rk.at e
  rename_i c2;rw[if_neg c2] at e;exact Rk.at e
 intro i j hlo hij hj;rw[g i,g j];by_cases a1:i=L
 ·rw[if_pos a1,if_neg ω,if_pos ω];exact h2 _ ω ω
 rw[if_neg a1];by_cases a2:L<i/\i<=K
 ·rw[if_pos a2,if_neg ω,if_pos ω];exact h _ _ ω ω ω
 rw[if_neg a2];by_cases b1:j=L
 ·rw[if_pos b1];exact h1 _ hlo ω
 rw[if_neg b1];by_cases b2:L<j/\j<=K
 ·rw[if_pos b2];by_cases c:i=j-1
  ·omega
  exact h _ _ hlo ω ω
 rw[if_neg b2];exact h _ _ hlo ω ω
theorem Zz {st:SortSt}{lo n ok:Nat}{Q:Bool->SortSt->Prop}(O:rP κ prog w A E s a₀ f)(hB:QB κ a₀ pd st)(hn:lo+n<=a₀.size)(hok:1<=ok)(hon:ok<=n)(ha:cA f (arrOf st) lo (lo+ok))
  (h:∀st',QB κ a₀ pd st'->(∀i,i<lo->(arrOf st')[i]?=(arrOf st)[i]?)->cA f (arrOf st') lo (lo+n)->Q true st'):wpS (model prog w) A E s (binarySort' lo n ok) Q st:=by
 have hm:max ok 1=ok:=ω;refine wpS_bind (wpS_mono (wpS_forRange (I:=fun x c z=>QB κ a₀ pd z/\c=(none,())/\(∀i,i<lo->(arrOf z)[i]?=(arrOf st)[i]?)/\cA f (arrOf z) lo (lo+x)) (Q:=fun c z=>QB κ a₀ pd z/\c=(none,())/\(∀i,i<lo->(arrOf z)[i]?=(arrOf st)[i]?)/\cA f (arrOf z) lo (lo+n)) ?_ (fun c z hh=>by rw[hm,max_eq_right hon] at hh;exact hh) ⟨hB,rfl,fun _ _=>rfl,by rw[hm];exact ha⟩) ?_)
 ·rintro k c z hk1 hk ⟨hz,rfl,hsm,hk2⟩;dsimp only;have hsz:=hz.size;refine wpS_bind (wpS_mono (wpS_forRange (I:=fun x c z'=>z'=z/\∃l r,c=(none,l,r)/\l<=r/\r<=k/\r-l<=k-x/\(∀i,lo<=i->i<lo+l->Rk f (arrOf z) i<=Rk f (arrOf z) (lo+k))/\(∀i,lo+r<=i->i<lo+k->Rk f (arrOf z) (lo+k)<=Rk f (arrOf z) i)) (Q:=fun c z'=>z'=z/\∃l,c=(none,l,l)/\l<=k/\(∀i,lo<=i->i<lo+l->Rk f (arrOf z) i<=Rk f (arrOf z) (lo+k))/\(∀i,lo+l<=i->i<lo+k->Rk f (arrOf z) (lo+k)<=Rk f (arrOf z) i)) ?_ ?_ ⟨rfl,0,k,rfl,zero_le _,le_refl _,ω,fun i a b=>ω,fun i a b=>ω⟩) ?_)
  ·rintro x c z' _ hx ⟨rfl,l,r,rfl,q1,q2,q3,q4,q5⟩;dsimp only;by_cases hl:l≥r
   ·rw[if_pos hl];have:l=r:=by omega
    subst this;exact wpS_pure ⟨rfl,l,rfl,q2,q4,q5⟩
   rw[if_neg hl];refine wpS_bind (JX O hz ω ω ?_);by_cases e:Rk f (arrOf z') (lo+k)<Rk f (arrOf z') (lo+(l+r)/2)
   ·rw[decide_eq_true e];refine wpS_pure ⟨rfl,l,(l+r)/2,rfl,ω,ω,ω,q4,fun i h1 h2=>?_⟩;by_cases c:i=lo+(l+r)/2
    ·rw[c];exact Int.le_of_lt e
    have:=hk2 (lo+(l+r)/2) i ω ω h2;omega
   rw[decide_eq_false e];refine wpS_pure ⟨rfl,(l+r)/2+1,r,rfl,ω,q2,ω,fun i h0 h1=>?_,q5⟩;by_cases c:i=lo+(l+r)/2
   ·rw[c];omega
   have:=hk2 i (lo+(l+r)/2) h0 ω ω;omega
  ·rintro c z' ⟨rfl,l,r,rfl,q1,q2,q3,q4,q5⟩;have:l=r:=by omega
   subst this;exact⟨rfl,l,rfl,q2,q4,q5⟩
  rintro c z' ⟨rfl,l,rfl,q2,q4,q5⟩;dsimp only;refine wpS_bind (wpS_modify (wpS_pure ⟨hz.set (bubble_perm _ _ _),rfl,fun i hi=>?_,?_⟩))
  ·have e:=getElem?_bubble (xs:=arrOf z') (src:=lo+k) ω (lo+k-(lo+l)) ω i;rw[if_neg ω,if_neg ω] at e;exact e.trans (hsm i hi)
  exact Bk (xs:=arrOf z') (K:=lo+k) (L:=lo+l) hk2 (show lo+k<(arrOf z').size by omega) ω ω q4 q5
 rintro c z ⟨hz,rfl,hsm,hk⟩;exact wpS_pure (h z hz hsm hk)
end
end SRT
namespace SRT
open PySem PyProof.Rows
section
variable {κ:SortKind}{prog:Program}{w:World}{s:Shared}{A:Around}{E:Value->Shared->Prop}{a₀:Array Keyed}{f:Keyed->Int}{pd:Array (Nat×Nat×Nat)}
theorem yt {st:SortSt}{Q:Bool->SortSt->Prop}{pre post:List (Nat×Nat×Nat)}{sa na pw sb nb pv:Nat}(O:rP κ prog w A E s a₀ f)(hB:QB κ a₀ pd st)
  (hp:(pendingOf st).toList=pre++(sa,na,pw)::(sb,nb,pv)::post) (hs:sb=sa+na) (ha:1<=na) (hb:1<=nb) (he:sb+nb<=a₀.size) (ua:cA f (arrOf st) sa sb) (ub:cA f (arrOf st) sb (sb+nb))
  (h:∀st',QB κ a₀ (pendingOf st') st'->(pendingOf st').toList=pre++(sa,na+nb,pw)::post->(∀i,i<sa\/sb+nb<=i->(arrOf st')[i]?=(arrOf st)[i]?)->cA f (arrOf st') sa (sb+nb)->Q true st'):wpS (model prog w) A E s (mergeAt' pre.length) Q st:=by
 have hz:=hB.size;have hI:=hB.inn;refine wpS_bind (wpS_get ?_);have e1:(pendingOf st)[pre.length]?=some (sa,na,pw):=by rw[<- getElem?_toList,hp];simp
 have e2:(pendingOf st)[pre.length+1]?=some (sb,nb,pv):=by rw[<- getElem?_toList,hp];simp
 have e3:(((pendingOf st).setIfInBounds pre.length (sa,na+nb,pw)).eraseIdxIfInBounds (pre.length+1)).toList=pre++(sa,na+nb,pw)::post:=by
  simp [hp,List.set_append_right,List.eraseIdx_append_of_length_le]
 dsimp only [pendingOf] at e1 e2;dsimp only;rw[e1,e2];dsimp only;refine wpS_bind (Rz ?_);refine wpS_bind (bh (show sb<(arrOf st).size by omega) fun q hq=>?_);refine wpS_bind (jB O hB.kind (hI _ _ hq) hI (show sa+na<=(arrOf st).size by omega) (show 0<na by omega) (fun i j h1 h2=>ua _ _ ω ω ω) fun k hk g1 g2=>?_);rw[<- bC (f:=f) hq] at g1 g2;have g1':∀i,sa<=i->i<sa+k->Rk f (arrOf st) i<=Rk f (arrOf st) sb:=fun i h1 h2=>by
  have:=g1 (i-sa) ω;rwa [show sa+(i-sa)=i by omega] at this
 have ble:∀{i t:Nat},sb<=i->i<=t->t<sb+nb->Rk f (arrOf st) i<=Rk f (arrOf st) t:=fun {i t} h0 h1 h2=>by
  by_cases c:i=t
  ·rw[c];omega
  have:=ub i t h0 ω h2;omega
 have ale:∀{i t:Nat},sa<=i->i<=t->t<sb->Rk f (arrOf st) i<=Rk f (arrOf st) t:=fun {i t} h0 h1 h2=>by
  by_cases c:i=t
  ·rw[c];omega
  have:=ua i t h0 ω h2;omega
 dsimp only;by_cases hk0:(na-k == 0)=true
 ·rw[if_pos hk0];have hk1:k=na:=by have:na-k=0:=(by simpa using hk0);omega
  refine wpS_pure (h _ ⟨hB.kind,hB.perm,hB.fail,rfl⟩ e3 (fun _ _=>rfl) fun i j h1 h2 h3=>?_);show Rk f (arrOf st) i<=Rk f (arrOf st) j;by_cases c1:j<sb
  ·exact ua i j h1 h2 c1
  by_cases c2:sb<=i
  ·exact ub i j c2 h2 h3
  have:=g1' i h1 ω;have:=ble (i:=sb) (t:=j) (le_refl _) ω h3;omega
 rw[if_neg hk0];have hk1:k<na:=by have:¬(na-k=0):=(by simpa using hk0);omega
 refine wpS_bind (bh (show sa+k+(na-k)-1<(arrOf st).size by omega) fun q2 hq2=>?_);have hl1:sa+k+(na-k)-1=sb-1:=ω;refine wpS_bind (jB O hB.kind (hI _ _ hq2) hI (show sb+nb<=(arrOf st).size by omega) (show nb-1<nb by omega) (fun i j h1 h2=>ub _ _ ω ω ω) fun m hm g3 g4=>?_);rw[<- bC (f:=f) hq2,hl1] at g3 g4;have g4':∀i,sb+m<=i->i<sb+nb->Rk f (arrOf st) (sb-1)<=Rk f (arrOf st) i:=fun i h1 h2=>by
  have:=g4 (i-sb) ω ω;rwa [show sb+(i-sb)=i by omega] at this
 dsimp only;by_cases hm0:(m == 0)=true
 ·rw[if_pos hm0];have hm1:m=0:=by simpa using hm0
  refine wpS_pure (h _ ⟨hB.kind,hB.perm,hB.fail,rfl⟩ e3 (fun _ _=>rfl) fun i j h1 h2 h3=>?_);show Rk f (arrOf st) i<=Rk f (arrOf st) j;by_cases c1:j<sb
  ·exact ua i j h1 h2 c1
  by_cases c2:sb<=i
  ·exact ub i j c2 h2 h3
  have:=g4' j ω h3;have:=ale (i:=i) (t:=sb-1) h1 ω ω;omega
 rw[if_neg hm0];have hm1:0<m:=by have:¬(m=0):=(by simpa using hm0);omega
 have zx:((arrOf st).extract (sa+k) sb).size=sb-(sa+k):=by rw[Array.size_extract];omega
 have zy:((arrOf st).extract sb (sb+m)).size=m:=by rw[Array.size_extract];omega
 have rx:∀i,i<sb-(sa+k)->Rk f ((arrOf st).extract (sa+k) sb) i=Rk f (arrOf st) (sa+k+i):=fun i hi=>Rk.at (by rw[getElem?_extract,if_pos ω]);have ry:∀i,i<m->Rk f ((arrOf st).extract sb (sb+m)) i=Rk f (arrOf st) (sb+i):=fun i hi=>Rk.at (by rw[getElem?_extract,if_pos ω]);have ix:∀x y,Inn a₀ ((arrOf st).extract x y):=fun x y i p e=>by
  rw[getElem?_extract] at e;split at e
  ·exact hI _ p e
  cases e
 have fin:∀(out:Array Keyed)(z:SortSt),out.toList.Perm (((arrOf st).extract (sa+k) sb).toList++((arrOf st).extract sb (sb+m)).toList)->DY f out.toList->kindOf z=κ->failedOf z=none->(pendingOf z).toList=pre++(sa,na+nb,pw)::post->arrOf z=out.toList.zipIdx.foldl (fun a (x:Keyed×Nat)=>a.setIfInBounds (sa+k+x.2) x.1) (arrOf st)->Q true z:=by
  intro out z ho hu kz fz pz az;have zo:out.size=sb-(sa+k)+m:=by
   have:=ho.length_eq;rw[length_append] at this;simp only[length_toList] at this;omega
  have get:∀t,(arrOf z)[t]?=if t<sa+k then (arrOf st)[t]? else if t<sb+m then out[t-(sa+k)]? else (arrOf st)[t]?:=fun t=>by
   rw[az];exact Tc ω ω t
  have uo:=RL hu;have bnd:∀t,t<out.size->(∃u,sa+k<=u/\u<sb+m/\Rk f out t=Rk f (arrOf st) u):=fun t ht=>by
   have e:=getElem?_pos out t ht;have mem:out[t]∈out.toList:=by simp
   rw[bC e];rcases mem_append.mp (ho.mem_iff.mp mem) with mm|mm
   ·obtain⟨u,u1,u2,u3,eu⟩:=aZ mm;exact⟨u,u1,ω,(bC eu).symm⟩
   obtain⟨u,u1,u2,u3,eu⟩:=aZ mm;exact⟨u,ω,u2,(bC eu).symm⟩
  have lows:∀i u,sa<=i->i<sa+k->sa+k<=u->u<sb+nb->Rk f (arrOf st) i<=Rk f (arrOf st) u:=fun i u h1 h2 h3 h4=>by
   by_cases c:u<sb
   ·exact ua i u h1 ω c
   have:=g1' i h1 h2;have:=ble (i:=sb) (t:=u) (le_refl _) ω h4;omega
  have highs:∀u j,sa<=u->u<sb+m->sb+m<=j->j<sb+nb->Rk f (arrOf st) u<=Rk f (arrOf st) j:=fun u j h1 h2 h3 h4=>by
   by_cases c:u<sb
   ·have:=g4' j h3 h4;have:=ale (i:=u) (t:=sb-1) h1 ω ω;omega
   exact ub u j ω ω h4
  refine h z ⟨kz,?_,fz,rfl⟩ pz (fun i hi=>?_) fun i j h1 h2 h3=>?_
  ·rw[az];exact(Nz (a:=arrOf st) ω (Nat.le_add_right _ _) (show sb+m<=(arrOf st).size by omega) ho).trans hB.perm
  ·rw[get];split
   ·rfl
   rw[if_neg ω]
  by_cases ci:i<sa+k
  ·have ei:=get i;rw[if_pos ci] at ei;rw[Rk.at ei];by_cases cj:j<sa+k
   ·have ej:=get j;rw[if_pos cj] at ej;rw[Rk.at ej];exact ua i j h1 h2 ω
   by_cases cj2:j<sb+m
   ·have ej:=get j;rw[if_neg cj,if_pos cj2] at ej;rw[Rk.at ej];obtain⟨u,u1,u2,eu⟩:=bnd (j-(sa+k)) ω;rw[eu];exact lows i u h1 ci u1 ω
   have ej:=get j;rw[if_neg cj,if_neg cj2] at ej;rw[Rk.at ej];exact lows i j h1 ci ω h3
  by_cases ci2:i<sb+m
  ·have ei:=get i;rw[if_neg ci,if_pos ci2] at ei;rw[Rk.at ei];by_cases cj2:j<sb+m
   ·have ej:=get j;rw[if_neg ω,if_pos cj2] at ej;rw[Rk.at ej];exact uo _ _ ω ω
   have ej:=get j;rw[if_neg ω,if_neg cj2] at ej;rw[Rk.at ej];obtain⟨u,u1,u2,eu⟩:=bnd (i-(sa+k)) ω;rw[eu];exact highs u j ω u2 ω h3
  have ei:=get i;rw[if_neg ci,if_neg ci2] at ei;have ej:=get j;rw[if_neg ω,if_neg ω] at ej;rw[Rk.at ei,Rk.at ej];exact ub i j ω h2 h3
 have cux:gJ f ((arrOf st).extract (sa+k) sb) ((arrOf st).extract (sa+k) sb).size:=fun i j h1 h2=>by
  rw[zx] at h2;rw[rx i ω,rx j h2];exact ua _ _ ω ω ω
 have cuy:gJ f ((arrOf st).extract sb (sb+m)) ((arrOf st).extract sb (sb+m)).size:=fun i j h1 h2=>by
  rw[zy] at h2;rw[ry i ω,ry j h2];exact ub _ _ ω ω ω
 have c0:Rk f ((arrOf st).extract sb (sb+m)) 0<=Rk f ((arrOf st).extract (sa+k) sb) 0:=by
  rw[ry 0 hm1,rx 0 ω];exact g2 k (le_refl _) hk1
 have cL:Rk f ((arrOf st).extract sb (sb+m)) (((arrOf st).extract sb (sb+m)).size-1)<=Rk f ((arrOf st).extract (sa+k) sb) (((arrOf st).extract (sa+k) sb).size-1):=by
  rw[zx,zy,ry (m-1) ω,rx _ ω,show sa+k+(sb-(sa+k)-1)=sb-1 by omega];exact g3 (m-1) ω
 have l1:1<=((arrOf st).extract (sa+k) sb).size:=ω;have l2:1<=((arrOf st).extract sb (sb+m)).size:=ω;by_cases hle:na-k<=m
 ·rw[if_pos hle];refine wpS_bind (Ph O hB.kind (ix _ _) (ix _ _) cux cuy l1 l2 c0 cL fun out g ho hu=>?_);exact wpS_bind (wpS_modify (wpS_bind (wpS_get (w6 (by show(failedOf st).isNone=true;rw[hB.fail];rfl) (fin out _ ho hu hB.kind hB.fail e3 rfl)))))
 rw[if_neg hle];refine wpS_bind (Pk O hB.kind (ix _ _) (ix _ _) cux cuy l1 l2 c0 cL fun out g ho hu=>?_);exact wpS_bind (wpS_modify (wpS_bind (wpS_get (w6 (by show(failedOf st).isNone=true;rw[hB.fail];rfl) (fin out _ ho hu hB.kind hB.fail e3 rfl)))))
structure QCw (κ:SortKind)(a₀:Array Keyed)(f:Keyed->Int)(hi:Nat)(st:SortSt):Prop where
 b:QB κ a₀ (pendingOf st) st
 c:Chain (pendingOf st).toList 0 hi
 u:∀r,r∈(pendingOf st).toList->cA f (arrOf st) r.1 (r.1+r.2.1)
theorem Pq {st:SortSt}{i hi:Nat}{Q:Bool->SortSt->Prop}(O:rP κ prog w A E s a₀ f)(hB:QCw κ a₀ f hi st)(hh:hi<=a₀.size)(h2:i+1<(pendingOf st).size)
  (h:∀st',QCw κ a₀ f hi st'->(pendingOf st').size+1=(pendingOf st).size->Q true st'):wpS (model prog w) A E s (mergeAt' i) Q st:=by
 obtain⟨pre,⟨sa,na,pw⟩,⟨sb,nb,pv⟩,post,e,hl⟩:=Yw (pendingOf st).toList i (by simpa using h2);have hc:=hB.c;have hu:=hB.u;rw[e] at hc hu;obtain⟨k1,k2,k3,k4,k5⟩:=hc.two;obtain⟨o1,o2⟩:=hc.parts;subst hl;have ua:=hu (sa,na,pw) (by simp);have ub:=hu (sb,nb,pv) (by simp);replace ua:cA f (arrOf st) sa (sa+na):=ua;refine yt O hB.b e k1 k2 k3 ω (by rw[k1];exact ua) ub fun st' hB' hp hsm hup=>h st' ⟨hB',by rw[hp];exact k5,fun r m=>?_⟩ ?_
 ·rw[hp] at m;rcases mem_append.mp m with m|m
  ·refine(hu r (mem_append_left _ m)).at fun x _ hx=>hsm x (.inl ?_);have:=o1 r m;omega
  rcases mem_cons.mp m with rfl|m
  ·show cA f (arrOf st') sa (sa+(na+nb));rw[show sa+(na+nb)=sb+nb by omega];exact hup
  refine(hu r (mem_append_right _ (mem_cons_of_mem _ (mem_cons_of_mem _ m)))).at fun x hx _=>hsm x (.inr ?_);have:=o2 r m;omega
 rw[<- length_toList,<- length_toList,hp,e];simp;omega
theorem QCw.Cd {st:SortSt}{hi pw:Nat}(h:QCw κ a₀ f hi st):QCw κ a₀ f hi (setPending st ((pendingOf st).modify ((pendingOf st).size-1) fun(x,len,_)=>(x,len,pw))):=by
 have key:∃l,((pendingOf st).modify ((pendingOf st).size-1) fun(x,len,_)=>(x,len,pw)).toList=l/\Chain l 0 hi/\∀r,r∈l->cA f (arrOf st) r.1 (r.1+r.2.1):=by
  have hc:=h.c;have hu:=h.u;by_cases he:(pendingOf st).toList=[]
  ·have:pendingOf st=#[]:=by simpa using he
   rw[this] at hc hu |-;exact⟨[],by simp,by simpa using hc,fun r m=>(by cases m)⟩
  obtain⟨t,p,n,v,e⟩:=R6 _ he;have e2:pendingOf st=(t++[(p,n,v)]).toArray:=by rw[<- e]
  rw[e] at hc hu;rw[e2];refine⟨t++[(p,n,pw)],by simp [sE],hc.Cd,fun r m=>?_⟩;rcases mem_append.mp m with m|m
  ·exact hu r (mem_append_left _ m)
  rw[mem_singleton.mp m];exact hu (p,n,v) (by simp)
 obtain⟨l,e,c,u⟩:=key;exact⟨⟨h.b.kind,h.b.perm,h.b.fail,rfl⟩,by show Chain ((pendingOf st).modify ((pendingOf st).size-1) fun(x,len,_)=>(x,len,pw)).toList 0 hi;rw[e];exact c,fun r m=>u r (by rw[<- e];exact m)⟩
theorem QCw.push {st:SortSt}{lo n:Nat}(h:QCw κ a₀ f lo st)(h1:1<=n)(hu:cA f (arrOf st) lo (lo+n)):QCw κ a₀ f (lo+n) (setPending st ((pendingOf st).push (lo,n,0))):=by
 refine⟨⟨h.b.kind,h.b.perm,h.b.fail,rfl⟩,?_,fun r m=>?_⟩
 ·show Chain ((pendingOf st).push (lo,n,0)).toList 0 (lo+n);rw[toList_push];exact h.c.snoc h1
 replace m:r∈((pendingOf st).push (lo,n,0)).toList:=m;rw[toList_push] at m;rcases mem_append.mp m with m|m
 ·exact h.u r m
 rw[mem_singleton.mp m];exact hu
theorem QCw.of {st st':SortSt}{lo:Nat}(h:QCw κ a₀ f lo st)(h':QB κ a₀ (pendingOf st) st')(hs:∀i,i<lo->(arrOf st')[i]?=(arrOf st)[i]?):QCw κ a₀ f lo st':=by
 refine⟨⟨h'.kind,h'.perm,h'.fail,rfl⟩,by rw[h'.pend];exact h.c,fun r m=>?_⟩;rw[h'.pend] at m;exact(h.u r m).at fun x _ hx=>hs x (by have:=(h.c.mem r m).2;omega)
theorem Dc {st:SortSt}{i lo n:Nat}{Q:Bool->SortSt->Prop}(O:rP κ prog w A E s a₀ f)(hB:QCw κ a₀ f lo st)(hh:lo<=a₀.size)(h2:i+1<(pendingOf st).size)(hu:cA f (arrOf st) lo (lo+n))
  (h:∀st',QCw κ a₀ f lo st'->cA f (arrOf st') lo (lo+n)->Q true st'):wpS (model prog w) A E s (mergeAt' i) Q st:=by
 obtain⟨pre,⟨sa,na,pw⟩,⟨sb,nb,pv⟩,post,e,hl⟩:=Yw (pendingOf st).toList i (by simpa using h2);have hc:=hB.c;have hu':=hB.u;rw[e] at hc hu';obtain⟨k1,k2,k3,k4,k5⟩:=hc.two;obtain⟨o1,o2⟩:=hc.parts;subst hl;have ua:=hu' (sa,na,pw) (by simp);have ub:=hu' (sb,nb,pv) (by simp);replace ua:cA f (arrOf st) sa (sa+na):=ua;refine yt O hB.b e k1 k2 k3 ω (by rw[k1];exact ua) ub fun st' hB' hp hsm hup=>h st' ⟨hB',by rw[hp];exact k5,fun r m=>?_⟩ (hu.at fun x hx _=>hsm x (.inr ω));rw[hp] at m;rcases mem_append.mp m with m|m
 ·refine(hu' r (mem_append_left _ m)).at fun x _ hx=>hsm x (.inl ?_);have:=o1 r m;omega
 rcases mem_cons.mp m with rfl|m
 ·show cA f (arrOf st') sa (sa+(na+nb));rw[show sa+(na+nb)=sb+nb by omega];exact hup
 refine(hu' r (mem_append_right _ (mem_cons_of_mem _ (mem_cons_of_mem _ m)))).at fun x hx _=>hsm x (.inr ?_);have:=o2 r m;omega
theorem MJ {st:SortSt}{Q:Unit->SortSt->Prop}(O:rP κ prog w A E s a₀ f)(hB:QB κ a₀ #[] st)(h:∀st',(arrOf st').toList.Perm a₀.toList->failedOf st'=none->gJ f (arrOf st') a₀.size->Q () st'):wpS (model prog w) A E s sortRuns' Q st:=by
 refine wpS_bind (wpS_get ?_);dsimp only;have hs:=hB.size;dsimp only [arrOf] at hs;simp only[hs];generalize (sortPriv% PySem.Builtin.minRun) a₀.size a₀.size 0=mr;have h00:QCw κ a₀ f 0 st:=⟨⟨hB.kind,hB.perm,hB.fail,rfl⟩,by rw[hB.pend];rfl,fun r m=>by rw[hB.pend] at m;cases m⟩;refine wpS_bind (wpS_mono (wpS_forRange (I:=fun x c z=>∃lo,c=(none,lo)/\QCw κ a₀ f lo z/\x<=lo/\lo<=a₀.size) (Q:=fun c z=>∃lo,c=(none,lo)/\QCw κ a₀ f a₀.size z) ?step ?fin ⟨0,rfl,h00,le_refl _,zero_le _⟩) ?post)
 case fin=>
  rintro c z ⟨lo,rfl,hz,k1,k2⟩;have:lo=a₀.size:=by omega
  subst this;exact⟨_,rfl,hz⟩
 case step=>
  rintro x c z _ hx ⟨lo,rfl,hz,k1,k2⟩;dsimp only;by_cases hlo:lo≥a₀.size
  ·rw[if_pos hlo];have:lo=a₀.size:=by omega
   subst this;exact wpS_pure ⟨_,rfl,hz⟩
  rw[if_neg hlo];refine wpS_bind (Vy O hz.b (show 1<=a₀.size-lo by omega) ω fun n z' n1 n2 hz' hsm hup=>?_);replace hz:=hz.of hz' hsm;dsimp only;clear hz' hsm;revert hz hup;generalize z'=z;intro hup hz;by_cases hmr:n<mr
  ·rw[if_pos hmr];refine wpS_bind (wpS_lift (wpAny_rule (And.intro rfl ?_)));refine wpS_bind (Zz O hz.b (show lo+min (a₀.size-lo) mr<=a₀.size by omega) n1 ω hup fun z' hz' hsm hup=>?_);replace hz:=hz.of hz' hsm;clear hz' hsm;revert hz hup;generalize z'=z;intro hup hz;rw[if_neg (show ¬((!true)=true) by decide)];refine wpS_bind (wpS_get ?_);cases hbk:(pendingOf z).back? with
   | none=>
    exact wpS_bind (wpS_modify (wpS_pure ⟨_,rfl,hz.push ω hup,ω,ω⟩))
   | some bk=>
    obtain⟨s1,n1',v1⟩:=bk;dsimp only;refine wpS_bind (wpS_mono (wpS_forRange (I:=fun _ c z=>c=(none,())/\QCw κ a₀ f lo z/\cA f (arrOf z) lo (lo+min (a₀.size-lo) mr)) (Q:=fun c z=>c=(none,())/\QCw κ a₀ f lo z/\cA f (arrOf z) lo (lo+min (a₀.size-lo) mr)) ?_ (fun _ _ hh=>hh) ⟨rfl,hz,hup⟩) ?_)
    ·rintro x c z _ _ ⟨rfl,hz,hup⟩;refine wpS_bind (wpS_get ?_);by_cases hg:(pendingOf z).size>1
     ·obtain⟨p1,p2,p3,e⟩:=Jb (pendingOf z) ((pendingOf z).size-2) ω;have hg2:=hg;dsimp only [pendingOf] at e hg;rw[if_pos hg,e];dsimp only;refine yX (fun _=>wpS_pure ⟨rfl,hz,hup⟩) fun _=>?_;exact wpS_bind (Dc O hz k2 (show(pendingOf z).size-2+1<(pendingOf z).size by omega) hup fun z hz hup=>wpS_pure ⟨rfl,hz,hup⟩)
     dsimp only [pendingOf] at hg;rw[if_neg hg];exact wpS_pure ⟨rfl,hz,hup⟩
    rintro c z ⟨rfl,hz,hup⟩;dsimp only;exact wpS_bind (wpS_modify (wpS_bind (wpS_modify (wpS_pure ⟨_,rfl,hz.Cd.push ω hup,ω,ω⟩))))
  rw[if_neg hmr];refine wpS_bind (wpS_get ?_);cases hbk:(pendingOf z).back? with
  | none=>
   exact wpS_bind (wpS_modify (wpS_pure ⟨_,rfl,hz.push n1 hup,ω,ω⟩))
  | some bk=>
   obtain⟨s1,n1',v1⟩:=bk;dsimp only;refine wpS_bind (wpS_mono (wpS_forRange (I:=fun _ c z=>c=(none,())/\QCw κ a₀ f lo z/\cA f (arrOf z) lo (lo+n)) (Q:=fun c z=>c=(none,())/\QCw κ a₀ f lo z/\cA f (arrOf z) lo (lo+n)) ?_ (fun _ _ hh=>hh) ⟨rfl,hz,hup⟩) ?_)
   ·rintro x c z _ _ ⟨rfl,hz,hup⟩;refine wpS_bind (wpS_get ?_);by_cases hg:(pendingOf z).size>1
    ·obtain⟨p1,p2,p3,e⟩:=Jb (pendingOf z) ((pendingOf z).size-2) ω;have hg2:=hg;dsimp only [pendingOf] at e hg;rw[if_pos hg,e];dsimp only;refine yX (fun _=>wpS_pure ⟨rfl,hz,hup⟩) fun _=>?_;exact wpS_bind (Dc O hz k2 (show(pendingOf z).size-2+1<(pendingOf z).size by omega) hup fun z hz hup=>wpS_pure ⟨rfl,hz,hup⟩)
    dsimp only [pendingOf] at hg;rw[if_neg hg];exact wpS_pure ⟨rfl,hz,hup⟩
   rintro c z ⟨rfl,hz,hup⟩;dsimp only;exact wpS_bind (wpS_modify (wpS_bind (wpS_modify (wpS_pure ⟨_,rfl,hz.Cd.push ω hup,ω,ω⟩))))
 case post=>
  rintro c z ⟨lo,rfl,hz⟩;dsimp only;have hl0:=hz.c.len;rw[length_toList] at hl0;refine wpS_bind (wpS_mono (wpS_forRange (I:=fun x c z=>c=(none,())/\QCw κ a₀ f a₀.size z/\((pendingOf z).size<=1\/(pendingOf z).size+x<=a₀.size)) (Q:=fun c z=>c=(none,())/\QCw κ a₀ f a₀.size z/\(pendingOf z).size<=1) ?_ ?_ ⟨rfl,hz,.inr ω⟩) ?_)
  ·rintro x c z _ _ ⟨rfl,hz,hl⟩;refine wpS_bind (wpS_get ?_);refine yX (fun hg=>wpS_pure ⟨rfl,hz,hg⟩) fun hg=>?_;have hg2:¬(pendingOf z).size<=1:=hg;refine wpS_bind (Pq O hz (le_refl _) ?_ fun z' hz' hl'=>wpS_pure ⟨rfl,hz',?_⟩)
   ·exact Yj hg2
   right;rcases hl with hl|hl <;> omega
  ·rintro c z ⟨rfl,hz,hl⟩;exact⟨rfl,hz,by rcases hl with hl|hl <;> omega⟩
  rintro c z ⟨rfl,hz,hl⟩;refine wpS_pure (h z hz.b.perm hz.b.fail ?_);have hc:=hz.c;have hu:=hz.u;rw[<- length_toList] at hl;generalize (pendingOf z).toList=l at hc hu hl
  match l,hc,hu,hl with
  | [],hc,_,_=>exact fun i j _ hj=>by have:(0:Nat)=a₀.size:=hc;omega
  | [(p,n,v)],hc,hu,_=>
   obtain⟨e1,e2,e3⟩:=hc;have e3:0+n=a₀.size:=e3;have:=hu (p,n,v) (by simp);exact fun i j hij hj=>this i j (by show p<=i;omega) hij (by show j<p+n;omega)
  | _::_::_,_,_,hl=>exact absurd hl (by simp)
end
end SRT
namespace SRT
open PySem PyProof.Rows
noncomputable def TL (s:Shared) (x:Value) (a b:Int):Prop:=∃q o n t u,x=.ref q/\s.heap.get? q=some o/\o.cls=.type "tuple" /\ o.data=.seq #[.int a t,.int b u] n
theorem TL.tp {s:Shared}{x:Value}{a b:Int}(h:TL s x a b):TP s x a:=by
 obtain⟨q,o,n,t,u,e,ho,hc,hd⟩:=h;exact⟨q,o,n,t,_,e,ho,hc,hd⟩
structure wj (s:Shared)(p1 p2 g:Value->Int)(vs:List Value):Prop where
 tk:∀v∈vs,TL s v (p1 v) (p2 v)
 lx:∀x∈vs,∀y∈vs,g x<g y↔p1 x<p1 y\/p1 x=p1 y/\p2 x<p2 y
theorem wj.keep {p1 p2 g:Value->Int}{vs:List Value}{s s':Shared}(h:wj s p1 p2 g vs) (k:∀q o,s.heap.get? q=some o->o.cls=.type "tuple" -> s'.heap.get? q=some o):wj s' p1 p2 g vs:=
 ⟨fun v hv=>by
  obtain⟨q,o,n,t,u,e,ho,hc,hs⟩:=h.tk v hv;exact⟨q,o,n,t,u,e,k q o ho hc,hc,hs⟩,h.lx⟩
theorem vY {g:Value->Int}{vs:List Value}{xs:Array Keyed}(hp:xs.toList.Perm (pairsOf vs).toList)(h:gJ (fun p=>g p.1) xs (pairsOf vs).size):((xs.map (·.2)).toList.map g).Pairwise (·<=·):=by
 have hz:xs.size=(pairsOf vs).size:=by
  have:=hp.length_eq;simpa using this
 refine pairwise_iff_getElem.mpr fun i j hi hj hij=>?_;have hix:i<xs.size:=by simpa using hi
 have hjx:j<xs.size:=by simpa using hj
 have e:∀(k:Nat)(hk:k<xs.size),g xs[k].2=Rk (fun p=>g p.1) xs k:=fun k hk=>by
  have m:xs[k]∈(pairsOf vs).toList:=hp.mem_iff.mp (by simp);unfold Rk;rw[getElem?_pos xs k hk];show g _=g _;rw[(mC m).2]
 have a1:=h i j hij ω;rw[<- e i hix,<- e j hjx] at a1;simpa using a1
section
variable {prog:Program}{w:World}{s:Shared}{A:Around}{E:Value->Shared->Prop}
theorem ZK {p1 p2 g:Value->Int}{vs:List Value}(h:wj s p1 p2 g vs):rP kh prog w A E s (pairsOf vs) fun p=>g p.1:=by
 intro st x y Q hk hx hy q;have h1:=h.tk x.1 (mC hx).1;have h4:=h.tk y.1 (mC hy).1;have hl:=h.lx x.1 (mC hx).1 y.1 (mC hy).1;replace q:Q (some (decide (g x.1<g y.1))) st:=q;have q2:Q (some (decide (p1 x.1<p1 y.1\/p1 x.1=p1 y.1/\p2 x.1<p2 y.1))) st:=(congrArg (fun b=>Q (some b) st) (decide_eq_decide.mpr hl)).mp q;clear q;clear hl;have q:=q2;clear q2;rw[lt'_eq];refine wpS_bind (wpS_get ?_);rw[hk];refine wpS_bind (wpS_lift (wpAny_attempt ?_));obtain⟨p,o,n,t,u,e,ho,hc,hs⟩:=h1;obtain⟨p',o',n',t',u',e',ho',hc',hs'⟩:=h4;generalize p1 x.1=a at *;generalize p1 y.1=b at *;generalize p2 x.1=k at *;generalize p2 y.1=l at *;rw[e,e'];show wpAny _ _ (Builtin.List.listItems (.ref p) >>= fun xs=>Builtin.List.listItems (.ref p') >>= _) _ _ s;refine wpAny_bind (listItems_at ho hs ?_);refine wpAny_bind (listItems_at ho' hs' ?_);show wpAny _ _ (forIn [((Value.int a t,Value.int b t'),0),((Value.int k u,Value.int l u'),1)] _ _ >>= _) _ _ s;rw[forIn_cons];refine wpAny_bind (wpAny_bind (wpAny_bind (wpAny_eqBool_int ?_)));by_cases c:a=b
 ·subst c;rw[beq_self_eq_true];refine wpAny_pure ?_;simp only[forIn_cons];refine wpAny_bind (wpAny_bind (wpAny_eqBool_int ?_));by_cases c2:k=l
  ·subst c2;rw[beq_self_eq_true];rw[decide_eq_false ω] at q;refine wpAny_pure ?_;simp only[forIn_nil];exact wpAny_pure (wpAny_pure ⟨rfl,wpS_pure q⟩)
  rw[beq_false_of_ne c2];rw[show decide (a<a\/a=a/\k<l)=decide (k<l) from decide_eq_decide.mpr ω] at q;exact wpAny_bind (Fj (wpAny_pure (wpAny_pure (wpAny_pure ⟨rfl,wpS_pure q⟩))))
 rw[beq_false_of_ne c];rw[show decide (a<b\/a=b/\k<l)=decide (a<b) from decide_eq_decide.mpr ω] at q;exact wpAny_bind (oneLt_int (wpAny_pure (wpAny_pure (wpAny_pure ⟨rfl,wpS_pure q⟩))))
noncomputable def KG (prog:Program) (w:World) (s:Shared) (g:Value->Int) (vs:List Value):Prop:=∀(A:Around)(E:Value->Shared->Prop)(s':Shared),(∀q o,s.heap.get? q=some o->o.cls=.type "tuple" -> s'.heap.get? q=some o) ->
 rP kh prog w A E s' (pairsOf vs) (fun p=>g p.1)/\∀Q:SortKind->Shared->Prop,1<=vs.length->Q kh s'->wpAny (model prog w) A (keyKind' vs.toArray) Q E s'
theorem X6 {a:Addr}{vs:List Value}{n:Nat}{P:Fin->Shared->Prop}{g:Value->Int}(ho:s.heap.get? a=some (seqObj "list" vs.toArray n)) (hR:KG prog w s g vs)
  (hlen:vs.length<=1000000) (h:∀xs:Array Value,xs.toList.Perm vs->(xs.toList.map g).Pairwise (·<=·)->P (.done (.ret .none)) { s with heap:=sortedHeap s.heap a vs xs }):wpAny (model prog w) A (Builtin.«list.sort» ⟨[.ref a],[]⟩) P E s:=by
 rw[list_sort_plain];have la:a<s.heap.objs.size:=lt_size ho;refine wpAny_bind (listItems_at ho rfl (wpAny_bind (listUpdate_at ho rfl ?_)));obtain⟨e,he⟩:∃e,(s.heap.update a (Obj.mapSeq fun _=>#[])).get? a=some (seqObj "list" #[] e):=⟨_,get?_update_seq ho fun _=>#[]⟩;refine wpAny_bind (seqEpoch_at he rfl (wpAny_bind (wpAny_newTuple (wpAny_bind (wpAny_newList (wpAny_holding ?_))))));have h6:(((s.heap.update a (Obj.mapSeq fun _=>#[])).push (seqObj "tuple" vs.toArray 0)).push (seqObj "list" #[] 0)).get? a=some (seqObj "list" #[] e):=by
  rw[get?_push_ne _ _ _ (by rw[size_push',size_update];exact ne_of_lt (Nat.le_succ_of_le la)),get?_push_ne _ _ _ (by rw[size_update];exact ne_of_lt la),he]
 have hR6:=hR A E { s with heap:=((s.heap.update a (Obj.mapSeq fun _=>#[])).push (seqObj "tuple" vs.toArray 0)).push (seqObj "list" #[] 0) } fun q o hq hc=>by
  have hne:q≠a:=fun z=>by
   rw[z,ho] at hq;cases hq;exact absurd (show Value.type "list" = Value.type "tuple" from hc) δ
  exact get?_push_of_some _ (get?_push_of_some _ ((get?_update_other _ _ (Ne.symm hne)).trans hq))
 show wpAny _ A _ P E { s with heap:=((s.heap.update a (Obj.mapSeq fun _=>#[])).push (seqObj "tuple" vs.toArray 0)).push (seqObj "list" #[] 0) };dsimp only;by_cases h2:(vs.toArray.size<2)
 ·rw[if_pos h2,if_pos h2];refine(wpAny_bind (wpAny_pure ?_));rw[StateT.run_pure];refine wpAny_bind (wpAny_pure (wpAny_bind (seqEpoch_at h6 rfl (wpAny_bind (listUpdate_at h6 rfl ?_ (hsz2:=?z))))))
  case z=>rw[size_map];show(pairsOf vs).size<=_;rw[pairsOf_size,sizeLine_eq];omega
  simp only[false_eq_true,bne_self_eq_false,if_false];have e0:((vs.toArray.zip vs.toArray).map (·.2)).toList=vs:=by rw[show(vs.toArray.zip vs.toArray).map (·.2)=(pairsOf vs).map (·.2) from rfl,nF]
  refine wpAny_pure (h _ (by rw[e0]) ?_);rw[e0]
  match vs,h2 with
  | [],_=>exact .nil
  | [v],_=>exact pairwise_singleton _ _
  | _::_::t,h2=>exact absurd h2 (by simp)
 rw[if_neg h2,if_neg h2];refine wpAny_bind (hR6.2 _ (by simp at h2;omega) ?_);refine wpAny_bind (wpAny_mono (MJ (κ:=kh) (a₀:=pairsOf vs) (f:=fun p=>g p.1) (st:=SortSt.mk' kh (vs.toArray.zip vs.toArray) #[] 7 none) (Q:=fun _ z=>(arrOf z).toList.Perm (pairsOf vs).toList/\failedOf z=none/\gJ (fun p=>g p.1) (arrOf z) (pairsOf vs).size) hR6.1 ⟨rfl,List.Perm.refl _,rfl,rfl⟩ fun z d1 d2 d3=>⟨d1,d2,d3⟩) ?_ fun _ _ e=>e);rintro⟨⟨⟩,z⟩ s' ⟨rfl,d1,d2,d3⟩;have hm:((arrOf z).map (·.2)).toList.Perm vs:=by
  have:=d1.map (·.2);rw[<- toList_map,<- toList_map,nF] at this;exact this
 refine wpAny_bind (seqEpoch_at h6 rfl (wpAny_bind (listUpdate_at h6 rfl ?_ (hsz2:=?z))))
 case z=>
  have:=hm.length_eq;rw[length_toList] at this;show((arrOf z).map (·.2)).size<=_;rw[this,sizeLine_eq];omega
 dsimp only;rw[d2];simp only[false_eq_true,bne_self_eq_false,if_false];exact wpAny_pure (h _ hm (vY d1 d3))
theorem R5 {l:Addr}{vs:List Value}{Q:Value->Shared->Prop}{g:Value->Int}(hl:s.heap.IsList l vs.toArray)(hR:KG prog w s g vs)(hlen:vs.length<=1000000)
  (h:∀xs:Array Value,xs.toList.Perm vs->(xs.toList.map g).Pairwise (·<=·)->Q (.ref (s.heap.objs.size+1)) { s with heap:=sortedAll s.heap vs xs }):wpAny (model prog w) A (call (.builtin "sorted") [.ref l]) Q E s:=by
 refine Calls.call_function_entry kind_sorted plain_sorted entry_sorted (args_sorted1 (.ref l)) ?_;unfold Builtin.«sorted»;refine wpAny_bind (m:=checkCount "sorted" 1 1 _) (wpAny_pure (wpAny_bind (collect_list hl (wpAny_bind (wpAny_newList ?_)))));have hz:((s.heap.push (seqObj "list" #[] 0)).update s.heap.objs.size (Obj.mapSeq (· ++ vs.toArray))).objs.size=s.heap.objs.size+1:=size_update .. |>.trans (size_push' _ _);have hL:(((s.heap.push (seqObj "list" #[] 0)).update s.heap.objs.size (Obj.mapSeq (· ++ vs.toArray))).push (seqObj "list" vs.toArray 0)).get? (s.heap.objs.size+1)=some (seqObj "list" vs.toArray 0):=hz ▸ get?_push_size _ rfl;show wpAny (model prog w) A.in1 _ _ E { s with heap:=((s.heap.push (seqObj "list" #[] 0)).update s.heap.objs.size (Obj.mapSeq (· ++ vs.toArray))).push (seqObj "list" vs.toArray 0) };rw[hz];refine wpAny_bind (wpAny_holding (wpAny_call_entry slot_list_sort ⟨_,hL,rfl⟩ entry_list_sort (X6 hL (fun A' E' s'' kp=>hR A' E' s'' fun q o hq hc=>kp q o ?_ hc) hlen fun xs hp ho=>⟨_,rfl,wpAny_pure ⟨_,rfl,h xs hp ho⟩⟩) (args_list_sort _)));have hne:s.heap.objs.size≠q:=fun z=>by
  exact ne_of_lt (lt_size hq) z.symm
 exact get?_push_of_some _ ((get?_update_other _ _ hne).trans (get?_push_of_some _ hq))
end
end SRT
set_option maxHeartbeats 4100000
namespace SRT
open PySem PyProof.Rows
noncomputable def gI:Value->Int
 | .int n _=>n
 | _=>0
theorem Ao:∀{vs:List Value}{ns:List Int},IntsAre vs ns->vs.map gI=ns
 | _,_,.nil=>rfl
 | _,_,.cons n t h=>congrArg (n :: ·) (Ao h)
section
variable {prog:Program}{w:World}{A:Around}{E:Value->Shared->Prop}{s:Shared}
theorem ZL {vs:List Value}{ns:List Int}(hI:IntsAre vs ns):rP oneType' prog w A E s (pairsOf vs) fun p=>gI p.1:=by
 intro st x y Q hk hx hy h;obtain⟨a,t,ea⟩:=hI.intKeys x hx;obtain⟨b,u,eb⟩:=hI.intKeys y hy;have e:decide (gI x.1<gI y.1)=decide (a<b):=by rw[ea,eb];rfl
 dsimp only at h;rw[e] at h;rw[lt'_eq];refine wpS_bind (wpS_get ?_);rw[hk,keyLt'_oneType,ea,eb];exact wpS_bind (wpS_lift (wpAny_attempt (oneLt_int ⟨rfl,wpS_pure h⟩)))
theorem X5 {a:Addr}{vs:List Value}{n:Nat}{P:Fin->Shared->Prop}(ho:s.heap.get? a=some (seqObj "list" vs.toArray n)) {ns:List Int}(hI:IntsAre vs ns)
  (hnd:ns.Nodup) (hlen:vs.length<=1000000) (h:∀xs:Array Value,xs.toList.Perm vs->(xs.toList.map gI).Pairwise (· < ·)->P (.done (.ret .none)) { s with heap:=sortedHeap s.heap a vs xs }):wpAny (model prog w) A (Builtin.«list.sort» ⟨[.ref a],[]⟩) P E s:=by
 rw[list_sort_plain];have la:a<s.heap.objs.size:=lt_size ho;refine wpAny_bind (listItems_at ho rfl (wpAny_bind (listUpdate_at ho rfl ?_)));obtain⟨e,he⟩:∃e,(s.heap.update a (Obj.mapSeq fun _=>#[])).get? a=some (seqObj "list" #[] e):=⟨_,get?_update_seq ho fun _=>#[]⟩;refine wpAny_bind (seqEpoch_at he rfl (wpAny_bind (wpAny_newTuple (wpAny_bind (wpAny_newList (wpAny_holding ?_))))));have h6:(((s.heap.update a (Obj.mapSeq fun _=>#[])).push (seqObj "tuple" vs.toArray 0)).push (seqObj "list" #[] 0)).get? a=some (seqObj "list" #[] e):=by
  rw[get?_push_ne _ _ _ (by rw[size_push',size_update];exact ne_of_lt (Nat.le_succ_of_le la)),get?_push_ne _ _ _ (by rw[size_update];exact ne_of_lt la),he]
 show wpAny _ A _ P E { s with heap:=((s.heap.update a (Obj.mapSeq fun _=>#[])).push (seqObj "tuple" vs.toArray 0)).push (seqObj "list" #[] 0) };dsimp only;by_cases h2:(vs.toArray.size<2)
 ·rw[if_pos h2,if_pos h2];refine(wpAny_bind (wpAny_pure ?_));rw[StateT.run_pure];refine wpAny_bind (wpAny_pure (wpAny_bind (seqEpoch_at h6 rfl (wpAny_bind (listUpdate_at h6 rfl ?_ (hsz2:=?z))))))
  case z=>rw[size_map];show(pairsOf vs).size<=_;rw[pairsOf_size,sizeLine_eq];omega
  simp only[false_eq_true,bne_self_eq_false,if_false];have e0:((vs.toArray.zip vs.toArray).map (·.2)).toList=vs:=by rw[show(vs.toArray.zip vs.toArray).map (·.2)=(pairsOf vs).map (·.2) from rfl,nF]
  refine wpAny_pure (h _ (by rw[e0]) ?_);rw[e0]
  match vs,h2 with
  | [],_=>exact .nil
  | [v],_=>exact pairwise_singleton _ _
  | _::_::t,h2=>exact absurd h2 (by simp)
 rw[if_neg h2,if_neg h2];obtain⟨x,y,t,e2⟩:∃x y t,vs=x::y::t:=by
  cases vs with
  | nil=>simp at h2
  | cons x t=>cases t with
   | nil=>simp at h2
   | cons y t=>exact⟨x,y,t,rfl⟩
 rw[show keyKind' vs.toArray=pure oneType' by subst e2;exact keyKind_ints hI];refine(wpAny_bind (wpAny_pure ?_));refine wpAny_bind (wpAny_mono (MJ (κ:=oneType') (a₀:=pairsOf vs) (f:=fun p=>gI p.1) (st:=SortSt.mk' oneType' (vs.toArray.zip vs.toArray) #[] 7 none) (Q:=fun _ z=>(arrOf z).toList.Perm (pairsOf vs).toList/\failedOf z=none/\gJ (fun p=>gI p.1) (arrOf z) (pairsOf vs).size) (ZL hI) ⟨rfl,List.Perm.refl _,rfl,rfl⟩ fun z d1 d2 d3=>⟨d1,d2,d3⟩) ?_ fun _ _ e=>e);rintro⟨⟨⟩,z⟩ s' ⟨rfl,d1,d2,d3⟩;have hm:((arrOf z).map (·.2)).toList.Perm vs:=by
  have:=d1.map (·.2);rw[<- toList_map,<- toList_map,nF] at this;exact this
 refine wpAny_bind (seqEpoch_at h6 rfl (wpAny_bind (listUpdate_at h6 rfl ?_ (hsz2:=?z))))
 case z=>
  have:=hm.length_eq;rw[length_toList] at this;show((arrOf z).map (·.2)).size<=_;rw[this,sizeLine_eq];omega
 dsimp only;rw[d2];simp only[false_eq_true,bne_self_eq_false,if_false];have hw:=vY d1 d3;have hne:(((arrOf z).map (·.2)).toList.map gI).Pairwise (·≠·):=by
  refine(hm.map gI).nodup_iff.mpr ?_;rw[Ao hI];exact hnd
 exact wpAny_pure (h _ hm ((hw.and hne).imp fun z=>Int.lt_iff_le_and_ne.mpr z))
theorem JZ {a:Addr}{vs:List Value}{ns:List Int}{n:Nat}{P:Fin->Shared->Prop}(ho:s.heap.get? a=some (seqObj "list" vs.toArray n)) (hI:IntsAre vs ns) (hnd:ns.Nodup) (hlen:vs.length<=1000000)
  (h:∀(xs:Array Value)(ns':List Int),IntsAre xs.toList ns'->ns'.Perm ns->ns'.Pairwise (· < ·)->P (.done (.ret .none)) { s with heap:=sortedHeap s.heap a vs xs }) :
  wpAny (model prog w) A (Builtin.«list.sort» ⟨[.ref a],[]⟩) P E s:=by
 refine X5 ho hI hnd hlen fun xs hp ho=>?_;obtain⟨ns',a1,a2⟩:=yH hp hI;exact h xs ns' a1 a2 (by rw[<- Ao a1];exact ho)
end
section
variable {prog:Program}{w:World}{A:Around}{E:Value->Shared->Prop}{s:Shared}{S:Addr}{es:Array (Int×Value)}{ep:Nat}{t:SetTable}
theorem Jp {l:List Int}{Q:Value->Shared->Prop}(hh:A.handled=none)(hS:SetT (intKind prog w) (!bt w) s.heap S (fun k'=>l.any (· == k')) l.length)(hnd:l.Nodup)
  (h:∀(s':Shared)(L:Addr)(xs:List Value)(ns':List Int)(k:Nat),s'.heap.get? L=some (seqObj "list" xs.toArray k)->IntsAre xs ns'->ns'.Perm l->ns'.Pairwise (· < ·) ->
   (∀c o,s.heap.get? c=some o->s'.heap.get? c=some o)->s'.gens=s.gens->s'.os=s.os->s.heap.objs.size<=L->Q (.ref L) s'):wpAny (model prog w) A (call (.builtin "sorted") [.ref S]) Q E s:=by
 obtain⟨o,es,ep,t,ho,hex,hd,⟨hel,hmem,hb⟩,hf,hn,ht⟩:=hS;have hz:es.size<=sizeLine:=fits_of_scanBound hb;obtain⟨ks,hks,hkm⟩:=vQ hel;have hkp:ks.Perm l:=oA hnd (fun x hx=>(hkm x).mpr ((hmem x).mp (by simpa using hx))) (by rw[<- hn,<- length_toList,<- IntsAre.length hks,length_map]);refine Calls.call_function_entry kind_sorted plain_sorted entry_sorted (args_sorted1 (.ref S)) ?_;unfold Builtin.«sorted»;refine wpAny_bind (m:=checkCount "sorted" 1 1 _) (wpAny_pure (wpAny_bind (Du (by simpa using hh) ⟨o,ho,hex,hd⟩ hf ht hz fun s1 vs hp hk1 hg1 ho1 hl1=>wpAny_bind (wpAny_newList ?_ ?_))))
 ·obtain⟨ms,hms,hmp⟩:=yH hp hks;have hvl:vs.length=l.length:=by rw[IntsAre.length hms,hmp.length_eq,hkp.length_eq]
  have hL:(s1.heap.push (seqObj "list" vs.toArray 0)).get? s1.heap.objs.size=some (seqObj "list" vs.toArray 0):=get?_push_size _ rfl;show wpAny (model prog w) A.in1 _ _ E { s1 with heap:=s1.heap.push (seqObj "list" vs.toArray 0) };refine wpAny_bind (wpAny_holding (wpAny_call_entry slot_list_sort ⟨_,hL,rfl⟩ entry_list_sort (JZ hL hms ((hmp.trans hkp).nodup_iff.mpr hnd) ?_ fun xs ns' a1 a2 a3=>⟨_,rfl,wpAny_pure ⟨_,rfl,?_⟩⟩) (args_list_sort _)))
  ·rw[hvl,<- hn];exact le_trans (le_of_lt hb) δ
  obtain⟨e,he⟩:=sortedHeap_at (out:=xs) hL;refine h _ _ xs.toList ns' e (by simpa using he) a1 (a2.trans (hmp.trans hkp)) a3 (fun c o x=>?_) hg1 ho1 hl1;have lc:c<s1.heap.objs.size:=lt_size (hk1 c o x);show(sortedHeap _ _ _ _).get? c=some o;rw[sortedHeap_old (ne_of_lt lc) (by rw[size_push'];exact lt_succ_of_lt lc)];exact get?_push_of_some _ (hk1 c o x)
 rw[hp.length_eq,length_map,length_toList];exact hz
end
end SRT
set_option maxHeartbeats 4000000
namespace L2
open PySem PySem.Spec PyProof.Rows
noncomputable def Ws (K:PySem.W.Frag)(ta:TA):TE:=fun σ H Q=>ta σ H fun vs H1=>∃(l:Addr)(xs:List Int),vs=[.ref l]/\SqL K H1 l (xs.map V.int)/\xs.length<4000 /\
 ∀(p:Addr)(ys:List Int),H1 p=none->ys.Perm (SRT.ded xs)->ys.Pairwise (· < ·)->Q (.ref p) (upd H1 p (.lst (ys.map V.int)))
section
variable {X:Cx}{pins:List (Addr×Obj)}{s:Shared}{σ:St}{H:Hp}
theorem Oc {a:Expr}{ta:TA}{p p2 pos pos2:Pos}(hc:X.calm=true) (hgl:Gl X "sorted") (hml:X.mg "sorted" = none) (hg:Gl X "set") (hm:X.mg "set" = none) (ha:PA X [a] ta)
  (hs:starEach [a] X.env=[(false,eval a X.env)]:=by rfl)
  (he:starEach [.Call (.Name "set" p2) [a] [] pos2] X.env=[(false,eval (.Call (.Name "set" p2) [a] [] pos2) X.env)]:=by rfl) :
  PE X (.Call (.Name "sorted" p) [.Call (.Name "set" p2) [a] [] pos2] [] pos) (Ws X.K ta):=by
 intro pins s σ H Q I h;refine wpAny_Call_Name_kw (iH I hgl hml PyProof.Rows.boot_sorted ?_ δ δ);refine PyProof.Rows.callWith_builtin1 ?_ he rfl;rw[he];show wpAny _ _ (spliced ((false,eval (.Call (.Name "set" p2) [a] [] pos2) X.env)::[])) _ _ s;refine Calls.spliced_cons ?_;refine Call_ (iH I hg hm PyProof.Rows.boot_set (PyProof.Rows.callWith_type1 (thA (ha pos2 pins s σ H _ I h) fun us s1 vs H1 I1 r1 q1=>?_) hs rfl));obtain⟨l,xs,rfl,sq,hn,q⟩:=q1;cases r1 with
 | cons r rr=>
  cases rr;cases r;obtain⟨its,rv,pl,hz⟩:=I1.list sq;have hI:=t7 rv;have hlen:its.length=xs.length:=IntsAre.length hI;refine SRT.Kr (I1.ok.hd hc) pl.isList (by simpa using hI) (by simp [hlen,scanBound];omega) fun h2 t2 hS hk=>Calls.spliced_nil ?_;have eq:firstMet (fun i=>xs.getD i 0) its.toArray.size=SRT.ded xs:=by unfold SRT.ded;rw[size_toArray,hlen]
  rw[eq] at hS;have hk2:∀c o,s1.heap.get? c=some o->h2.get? c=some o:=fun c o e=>hk c o (lt_size e) e;refine SRT.Jp (s:={ s1 with heap:=h2,toks:=t2 }) (I1.ok.hd hc) hS (SRT.Kp xs) fun s3 L ys ns k gL iL pL oL k3 g3 o3 l3=>?_;have le:s1.heap.objs.size<=L:=by
   obtain⟨o,_,_,_,e,_⟩:=hS;exact le_trans (le_of_lt (lt_size e)) l3
  have hf:H1 L=none:=I1.hok.fresh le;obtain⟨h3,g3',d3,t3,o3'⟩:=s3;cases g3;cases o3;have hl:ns.length<=sizeLine:=by
   rw[pL.length_eq];exact le_trans (SRT.Io xs) (le_trans (le_of_lt hn) δ)
  refine⟨.ref L,_,((I1.drawn d3).laid (t':=t3) (h':=h3) (fun c o e=>k3 c o (hk2 c o e)) le (show bN X.prog X.w _ h3 _ (.lst (ns.map V.int)) from⟨by simpa using hl,ys,k,yG iL,gL⟩)),rfl,q L ns hf pL oL⟩
theorem Ny {a:Expr}{ta:TA}{p p2 pos pos2:Pos}(hc:X.calm=true) (hgl:Gl X "sorted") (hml:X.mg "sorted" = none) (hg:Gl X "set") (hm:X.mg "set" = none) (ha:QA X [a] ta)
  (hs:starEach [a] X.env=[(false,eval a X.env)]:=by rfl)
  (he:starEach [.Call (.Name "set" p2) [a] [] pos2] X.env=[(false,eval (.Call (.Name "set" p2) [a] [] pos2) X.env)]:=by rfl) :
  QE X (.Call (.Name "sorted" p) [.Call (.Name "set" p2) [a] [] pos2] [] pos) (Ws X.K ta):=⟨Oc hc hgl hml hg hm ha.h hs he⟩
end
theorem Oi {prog:Program}{w:World}{A:Around}{E:Value->Shared->Prop}{s:Shared}{d p:Addr}{kvs:List (Key×Value)}{k:Key}{u v:Value}{hd:Value->Sem (List Value)}{el:List Value->Sem Unit}{Q:Unit->Shared->Prop}(hp:IsTup s.heap p #[u,v])(hk:(bO prog w).is k u=true)(hd':s.heap.DictOf (bO prog w) d kvs)(hz:kvs.length<=sizeLine)
  (hQ:∀h',h'.DictOf (bO prog w) d (stored kvs k v)->Heap.SameBut d s.heap h'->Q () { s with heap:=h',toks:=s.toks+1 }) :
  wpAny (model prog w) A (holding [Value.ref p] (do
   let pair <- (Builtin.Dict.pairItems (Value.ref p)).tryCatch hd
   match pair with
    | [k,v]=>holding [k,v] (dictSet d k v)
    | l=>el l)) Q E s:=by
 obtain⟨o,ho,hc,n,hs⟩:=hp;refine wpAny_holding (wpAny_bind (wpAny_tryCatch ?_));unfold Builtin.Dict.pairItems;refine wpAny_bind (wpAny_typeOf (T := "tuple") ⟨_,ho,hc⟩ (wpAny_ite_true rfl ?_));refine wpAny_bind (wpAny_seqItems ho hs (wpAny_pure ?_));show wpAny _ _ (holding [u,v] (dictSet d u v)) _ _ _;exact wpAny_holding (wpAny_dictSet_pairs hk hd' hQ hz)
noncomputable def Eb (prog:Program)(w:World)(h:Heap)(rs:List (Key×Value))(ps:Array Value)(bad:List Addr):Prop:=
 ps.size=rs.length/\∀(j:Nat) kv,rs[j]?=some kv->∃p u,ps[j]?=some (.ref p)/\IsTup h p #[u,kv.2]/\(bO prog w).is kv.1 u=true/\p∉bad
theorem Eb.keep {prog:Program}{w:World}{h h':Heap}{rs:List (Key×Value)}{ps:Array Value}{bad:List Addr}(P:Eb prog w h rs ps bad)(k:∀c o,c∉bad->h.get? c=some o->h'.get? c=some o):Eb prog w h' rs ps bad:=
 ⟨P.1,fun j kv e=>by
  obtain⟨p,u,e1,e2,e3,e4⟩:=P.2 j kv e;obtain⟨o,e5,e6⟩:=e2;exact⟨p,u,e1,⟨o,k p o e4 e5,e6⟩,e3,e4⟩⟩
theorem sU {prog:Program}{w:World}{A:Around}{R:Result->Shared->Prop}{it l d:Addr}{rs:List (Key×Value)}{ps:Array Value}(hh:A.handled=none)(dit:d≠it)(dl:d≠l)(lit:l≠it) :
  ∀(m i:Nat)(s:Shared)(kvs:List (Key×Value)),rs.length-i=m->i<=rs.length->s.heap.IsListIter it l i->s.heap.IsList l ps->Eb prog w s.heap rs ps [it,d]->s.heap.DictOf (bO prog w) d kvs->kvs.length+m<=sizeLine ->
   (∀(h':Heap)(t':Nat),h'.DictOf (bO prog w) d (merged kvs (rs.drop i))->(∀c o,c≠it->c≠d->s.heap.get? c=some o->h'.get? c=some o)->R (.ok (.ret .none)) { s with heap:=h',toks:=t' }) ->
   codeAny (model prog w) A (Code.builtin "dict.update.loop" { pos:=[Value.ref d,Value.ref it,rawInt i,Value.none] }) R s
 | 0,i,s,kvs,hm,hi,hit,hls,P,hd,hl,hR=>by
  have hi':i=rs.length:=ω;subst hi';refine codeAny_builtin m7 ?_;show wpAny _ _ (pyNext (Value.ref it) >>= _) _ _ _;refine wpAny_bind (wpAny_pyNext_list_end (A:=A.under _) hh hit hls (by rw[Array.getElem?_eq_none_iff];exact le_of_eq P.1) fun h' hk=>?_);show wpAny _ _ (Builtin.Dict.addKeywords d [] >>= _) _ _ _;refine wpAny_bind ?_;show wpAny _ _ (pure ()) _ _ _;refine wpAny_pure (wpAny_pure ?_);refine hR h' s.toks ?_ fun c o c1 _ e=>hk c o c1 e;rw[List.drop_length];obtain⟨o,es,ep,e,r⟩:=hd;exact⟨o,es,ep,hk d o dit e,r⟩
 | m+1,i,s,kvs,hm,hi,hit,hls,P,hd,hl,hR=>by
  have hlt:i<rs.length:=ω;have hrs:rs[i]?=some rs[i]:=getElem?_eq_getElem hlt;obtain⟨p,u,hx,hpr,hk,hbad⟩:=P.2 i _ hrs;refine codeAny_builtin m7 ?_;show wpAny _ _ (pyNext (Value.ref it) >>= _) _ _ _;refine wpAny_bind (wpAny_pyNext_list_item hit hls hx fun h' hit' sb=>?_);have old:∀c o,c≠it->s.heap.get? c=some o->h'.get? c=some o:=fun c o c1 e=>(sb.2 c c1).trans e;have hd':h'.DictOf (bO prog w) d kvs:=by
   obtain⟨o,es,ep,e,r⟩:=hd;exact⟨o,es,ep,old d o dit e,r⟩
  have pit:p≠it:=fun z=>hbad (by rw[z];exact mem_cons_self);have hpr':IsTup h' p #[u,rs[i].2]:=by
   obtain⟨o,e5,e6⟩:=hpr;exact⟨o,old p o pit e5,e6⟩
  refine wpAny_bind (Oi (s:={ s with heap:=h' }) hpr' hk hd' ω fun h'' hd'' sb2=>?_);refine wpAny_pure ⟨Code.quiet_builtin _ ψ,?_⟩;show codeAny _ _ (Code.builtin "dict.update.loop" { pos:=[Value.ref d,Value.ref it,rawInt ((i:Int)+1),Value.none] }) _ _;rw[show((i:Int)+1)=((i+1:Nat):Int) by omega];have old2:∀c o,c≠it->c≠d->s.heap.get? c=some o->h''.get? c=some o:=fun c o c1 c2 e=>(sb2.2 c c2).trans (old c o c1 e);refine sU hh dit dl lit m (i+1) _ (stored kvs rs[i].1 rs[i].2) ω ω (hit'.at fun o e=>(sb2.2 it (Ne.symm dit)).trans e) ?_ (P.keep fun c o cb e=>old2 c o (fun z=>cb (by rw[z];exact mem_cons_self)) (fun z=>cb (by rw[z];exact mem_cons_of_mem _ mem_cons_self)) e) hd'' (by have:=Jm kvs rs[i].1 rs[i].2;omega) fun h3 t3 hd3 old3=>?_
  ·obtain⟨o,e,r⟩:=hls;exact⟨o,old2 l o lit (Ne.symm dl) e,r⟩
  refine hR h3 t3 ?_ fun c o c1 c2 e=>old3 c o c1 c2 (old2 c o c1 c2 e);rw[drop_eq_getElem_cons hlt];exact hd3
theorem Df:typeLookup (Value.type "list") (Str.ofString "keys")=pure none:=am_miss_of_fast (by rfl)
theorem vp:typeLookup (Value.type "list") (Str.ofString "__getattr__")=pure none:=am_miss_of_fast (by rfl)
theorem rF (a:Addr) (vs:Array Value) (k:Nat) (u:Tok):Meets (Builtin.«object.__getattribute__» { pos:=[Value.ref a,Value.str (Str.ofString "keys") u] }) fun A R s=>
  s.heap.get? a=some { cls:=Value.type "list",data:=Data.seq vs k }/\raisesAttr (Value.ref a) (Str.ofString "keys") A R s:=by
 refine Meets.of_wp fun prog w A R s hs=>?_;obtain⟨hp,g,d,tk,os⟩:=s;obtain⟨hx,hr⟩:=hs;have hT:(⟨hp,g,d,tk,os⟩:Shared).TypeIs (Value.ref a) "list" := ⟨_,hx,rfl⟩;unfold Builtin.«object.__getattribute__» slotArgs;refine wpAny_bind (wpAny_ite_false rfl (wpAny_ite_false rfl (wpAny_pure ?_)));refine wpAny_bind ?_;show wpAny _ _ (pure (Str.ofString "keys")) _ _ _;refine wpAny_pure ?_;refine wpAny_bind (wpAny_typeOf hT ?_);refine wpAny_bind ?_;unfold Builtin.ObjectAttr.find;refine wpAny_bind (wpAny_of_eq Df ?_);refine wpAny_bind ?_;show wpAny _ _ (pure none) _ _ _;refine wpAny_pure (wpAny_bind ?_);show wpAny _ _ (pure none) _ _ _;refine wpAny_pure ?_;show wpAny _ _ (Builtin.ObjectAttr.ownThenClass (Value.ref a) (Str.ofString "keys") none none) _ _ _;unfold Builtin.ObjectAttr.ownThenClass;refine wpAny_bind ?_;unfold Builtin.ObjectAttr.inOwnDict;refine wpAny_bind ?_;unfold Builtin.ObjectAttr.ownDict;refine wpAny_bind (wpAny_loadPart' hx ?_);show wpAny _ _ (instanceDict a false) _ _ _;unfold instanceDict;refine wpAny_bind (wpAny_loadPart' hx (wpAny_ite_true rfl (wpAny_pure ?_)));show wpAny _ _ (pure none) _ _ _;refine wpAny_pure ?_;show wpAny _ _ (Builtin.ObjectAttr.copiedAttributeGuard (Str.ofString "keys") (Value.ref a) >>= _) _ _ _;refine wpAny_bind ?_;unfold Builtin.ObjectAttr.copiedAttributeGuard;refine wpAny_ite_false δ (wpAny_pure ?_);show wpAny _ _ (rule _ >>= _) _ _ _;refine wpAny_bind (wpAny_rule (wpAny_pure ?_));refine wpAny_ite_false rfl ?_;refine wpAny_ite_false rfl ?_;show wpAny _ _ (typeNameOfCut 100 (Value.ref a) >>= _) _ _ _;refine wpAny_bind ?_;show wpAny _ _ (shownTypeOf (Value.ref a) >>= _) _ _ _;refine wpAny_bind ?_;show wpAny _ _ (typeOf (Value.ref a) >>= _) _ _ _;refine wpAny_bind (wpAny_typeOf hT ?_);refine wpAny_ite_false rfl (wpAny_pure ?_);show wpAny _ _ (pure _) _ _ _;refine wpAny_pure ?_;exact wpAny_raiseAttrError hr.1 hr.2 (attrMsg_fits δ δ)
theorem wN {prog:Program}{w:World}{A:Around}{E:Value->Shared->Prop}{s:Shared}{a:Addr}{vs:Array Value}{k:Nat}{Q:Option Value->Shared->Prop}(hh:A.handled=none) (hx:s.heap.get? a=some { cls:=Value.type "list",data:=Data.seq vs k })
  (h:∀(h':Heap)(tk:Nat),(∀c o,s.heap.get? c=some o->h'.get? c=some o)->Q none { s with heap:=h',toks:=tk }):wpAny (model prog w) A (getAttr? (Value.ref a) (Str.ofString "keys")) Q E s:=by
 obtain⟨hp,g,d,tk,os⟩:=s;have hT:∀tk,(⟨hp,g,d,tk,os⟩:Shared).TypeIs (Value.ref a) "list" := fun _=>⟨_,hx,rfl⟩;unfold getAttr? mkText;refine wpAny_bind (wpAny_bind (wpAny_fresh' (wpAny_pure ?_)));unfold getAttrBy?;refine wpAny_bind (wpAny_attempt ?_);unfold getAttrBy;refine wpAny_holding (wpAny_bind (wpAny_typeOf (hT _) ?_));refine wpAny_bind (wpAny_of_eq F.slot_list_getattribute.lookup ?_);show wpAny _ _ (ite _ _ _) _ _ _;refine wpAny_ite_false rfl ?_;unfold getAttrByItsOwn hookBefore;refine wpAny_bind (wpAny_ite_false rfl (wpAny_pure ?_));refine wpAny_bind (wpAny_attempt (wpAny_holding ?_));unfold callGetattribute;refine wpAny_ite_false rfl ?_;unfold boundAndCalled;refine wpAny_bind (wpAny_of_eq (F.slot_list_getattribute.bind (Value.ref a)) ?_);refine call_meets F.slot_list_getattribute (hT _) F.entry_list_ga (F.args_list_getattribute_2 _ _) (rF a vs k _) ⟨hx,hh,fun h' tk' e ne=>?_⟩;obtain⟨t,u,he⟩:=ne.there;have hTe:(⟨h',g,d,tk',os⟩:Shared).TypeIs (Value.ref e) "AttributeError" := ⟨_,he,rfl⟩;unfold getattributeRaised;refine wpAny_bind (wpAny_isInstance hTe sub_AttributeError (wpAny_ite_true rfl ?_));unfold hookBehind;refine wpAny_bind (wpAny_ite_false rfl (wpAny_of_eq vp ?_));show wpAny _ _ (throw (Value.ref e) >>= _) _ _ _;refine wpAny_bind (wpAny_throw ?_);show wpAny _ _ (isInstance (Value.ref e) (Value.type "AttributeError") >>= _) _ _ _;refine wpAny_bind (wpAny_isInstance hTe sub_AttributeError (wpAny_ite_true rfl (wpAny_pure ?_)));exact h h' tk' fun c o e=>ne.keeps c o e
theorem FP {prog:Program}{w:World}(d l:Addr)(dl:d≠l) :
  MeetsIn prog w (Builtin.«dict.update» ⟨[.ref d,.ref l],[]⟩) (fun A R s=>A.handled=none/\∃kvs rs ps k,s.heap.DictOf (bO prog w) d kvs/\s.heap.get? l=some { cls:=.type "list",data:=.seq ps k }/\Eb prog w s.heap rs ps [d]/\kvs.length+rs.length<=sizeLine /\
   ∀h' t',h'.DictOf (bO prog w) d (merged kvs rs)->(∀c o,c≠d->s.heap.get? c=some o->h'.get? c=some o)->R (.ok (.ret .none)) { s with heap:=h',toks:=t' }):=by
 rintro A R s ⟨hh,kvs,rs,ps,k,hd,hl,P,hz,h⟩;unfold Builtin.«dict.update» Builtin.Dict.selfAndRest;refine wpAny_bind (wpAny_bind (wpAny_notOrdered_dict hd.typeIs ?_));show wpAny _ _ (pure (d,[Value.ref l])) _ _ s;refine wpAny_pure ?_;show wpAny _ _ (Builtin.Dict.updateFrom "dict.update" d (.ref l) [] .none) _ _ s;unfold Builtin.Dict.updateFrom;refine wpAny_bind (wpAny_typeOf (T := "list") ⟨_,hl,rfl⟩ (wpAny_ite_true rfl ?_));refine wpAny_bind (wN (A:=A.in1) hh hl fun h1 t1 kp=>?_);refine wpAny_ite_true rfl ?_;refine wpAny_bind (wpAny_rule ?_);have il:h1.IsList l ps:=⟨_,kp l _ hl,rfl,k,rfl⟩;refine wpAny_bind (wpAny_pyIter_list (s:={ s with heap:=h1,toks:=t1 }) il (wpAny_pure ⟨Code.quiet_builtin _ ψ,?_⟩));have up:∀c o,s.heap.get? c=some o->(h1.push { cls:=.type "list_iterator",data:=.fields #[.ref l,.int 0 0] }).get? c=some o:=fun c o e=>get?_push_of_some _ (kp c o e);have lt:∀{c:Addr}{o:Obj},s.heap.get? c=some o->c≠h1.objs.size:=fun {c o} e q=>by
  have:=lt_size (kp c o e);rw[q] at this;exact lt_irrefl _ this
 have gd:∃o,s.heap.get? d=some o:=by obtain⟨o,_,_,e,_⟩:=hd;exact⟨o,e⟩
 obtain⟨od,ed⟩:=gd;refine sU (A:=A) (it:=h1.objs.size) (l:=l) (d:=d) (rs:=rs) (ps:=ps) hh (lt ed) dl (lt hl) rs.length 0 _ kvs rfl (zero_le _) ⟨_,get?_push_size _ rfl,rfl,rfl⟩ ⟨_,up l _ hl,rfl,k,rfl⟩ ?_ ?_ hz fun h3 t3 d3 old3=>?_
 ·refine⟨P.1,fun j kv e=>?_⟩;obtain⟨p,u,e1,e2,e3,e4⟩:=P.2 j kv e;obtain⟨o5,e5,e6⟩:=e2;refine⟨p,u,e1,⟨o5,up p o5 e5,e6⟩,e3,fun q=>?_⟩;rcases mem_cons.mp q with q|q
  ·exact lt e5 q
  exact e4 q
 ·obtain⟨o,es,ep,e,r⟩:=hd;exact⟨o,es,ep,up d o e,r⟩
 rw[List.drop_zero] at d3;exact h h3 t3 d3 fun c o c1 e=>old3 c o (lt e) c1 (up c o e)
noncomputable def putAll (kvs prs:List (Key×V)):List (Key×V):=prs.foldl (fun acc kv=>putK acc kv.1 kv.2) kvs
theorem KV.putAll:∀{prs:List (Key×V)}{rs:List (Key×Value)}{kvs:List (Key×V)}{vs:List (Key×Value)},KV kvs vs->KV prs rs->KV (putAll kvs prs) (merged vs rs)
 | [],_,_,_,r,h=>by cases h;exact r
 | kv::prs,_,kvs,vs,r,h=>by
  cases h with
  | cons e t=>
   rename_i kv' rs;obtain⟨k,v⟩:=kv;obtain⟨k',v'⟩:=kv';obtain⟨e1,e2⟩:=e;cases e1;exact KV.putAll (prs:=prs) (kvs:=putK kvs k v) (vs:=stored vs k v') (r.put k e2) t
theorem xT:∀(prs kvs:List (Key×V)),(putAll kvs prs).length<=kvs.length+prs.length
 | [],kvs=>le_refl _
 | kv::prs,kvs=>by
  have h1:=xT prs (putK kvs kv.1 kv.2);have h2:=Dg kvs kv.1 kv.2;show(putAll (putK kvs kv.1 kv.2) prs).length<=_;rw[length_cons];omega
theorem NZ {prog:Program}{w:World}{H:Hp}{h:Heap}(hok:HOk prog w H h):∀(ads:List Addr)(prs:List (Key×V)),ads.length=prs.length->(∀(j:Nat) p kv,ads[j]?=some p->prs[j]?=some kv->H p=some (.tup [kV kv.1,kv.2])) ->
  ∃rs,KV prs rs/\rs.length=prs.length/\∀(j:Nat) kv,rs[j]?=some kv->∃p u xs,ads[j]?=some p/\IsTup h p #[u,kv.2]/\(bO prog w).is kv.1 u=true/\H p=some (.tup xs)
 | [],[],_,_=>⟨[],.nil,rfl,fun j kv e=>by simp at e⟩
 | p::ads,kv::prs,hl,hp=>by
  obtain⟨rs,k1,k2,k3⟩:=NZ hok ads prs (by simpa using hl) fun j p kv e1 e2=>hp (j+1) p kv (by simpa using e1) (by simpa using e2);have e0:=hp 0 p kv rfl rfl;obtain⟨_,its,r,tp⟩:=hok p _ e0;cases r with
  | cons r1 t1=>
   cases t1 with
   | cons r2 t2=>
    cases t2;rename_i u v;refine⟨(kv.1,v)::rs,.cons ⟨rfl,r2⟩ k1,by simp [k2],fun j q e=>?_⟩;cases j with
    | zero=>
     simp only[getElem?_cons_zero,Option.some.injEq] at e;subst e;exact⟨p,u,_,rfl,tp,P0 r1,e0⟩
    | succ j=>
     rw[getElem?_cons_succ] at e;obtain⟨p',u',xs,e1,e2,e3,e4⟩:=k3 j q e;exact⟨p',u',xs,by simpa using e1,e2,e3,e4⟩
noncomputable def Lk (td ty:TE):TE:=fun σ H Q=>td σ H fun x H1=>∃a,x=.ref a/\IsD H1 a/\ty σ H1 fun y H2=>∃(l:Addr)(kvs prs:List (Key×V)) (ads:List Addr),y=.ref l/\H2 a=some (.dK kvs)/\H2 l=some (.lst (ads.map V.ref))/\ads.length=prs.length /\
 (∀(j:Nat) p kv,ads[j]?=some p->prs[j]?=some kv->H2 p=some (.tup [kV kv.1,kv.2]))/\kvs.length+prs.length<=sizeLine/\Q .non (upd H2 a (.dK (putAll kvs prs)))
theorem tZ:∀{ads:List Addr}{its:List Value},Vals (ads.map V.ref) its->its=ads.map Value.ref
 | [],_,h=>by cases h;rfl
 | a::ads,_,h=>by
  cases h with
  | cons r t=>
   rw[tZ t];cases (show _=Value.ref a from r);rfl
section
variable {X:Cx}{o e:Expr}{apos cpos:Pos}{td ty:TE}
theorem TY (hc:X.calm=true) (ho:PE X o td) (he:PE X e ty) (m:M1 X o "update" apos e cpos):PE X (.Call (.Attribute o "update" apos) [e] [] cpos) (Lk td ty):=by
 intro pins s σ H Q I h;refine wpAny_Call_method m.base m.few m.line PySem.F.plainAttrs_dict PySem.F.slot_dict_update PySem.F.type_dict_update (thn (ho pins s σ H _ I h) fun u s1 ⟨x,H1,I1,rx,a,ex,d,q1⟩=>?_);subst ex;obtain rfl:u=Value.ref a:=rx;obtain⟨t1,t2,_⟩:=Ym I1 d;refine⟨t1,t2,?_⟩;rw[m.trees];refine Calls.callWith_builtin rfl (Calls.evalArgs_plain (Calls.spliced_cons (thn (he pins s1 σ H1 _ I1 q1) fun iv s2 ⟨y,H2,I2,ry,l,kvs,prs,ads,ey,ea,el,hlen,hprs,hz,q2⟩=>Calls.spliced_nil ?_)));subst ey;obtain rfl:iv=Value.ref l:=ry;obtain⟨zz,hd,vs,rel,dd⟩:=Zy I2.hok ea;obtain⟨zl,its,n,rv,gl⟩:=I2.hok l _ el;have eits:=tZ rv;obtain⟨rs,k1,k2,k3⟩:=NZ I2.hok ads prs hlen hprs;have al:a≠l:=fun z=>by rw[z,el] at ea;cases ea
 have hvl:vs.length=kvs.length:=rel.length.symm;refine call_meetsIn PySem.F.slot_dict_update dd.typeIs PySem.F.entry_dict_update (PySem.F.args_dict_update_2 _ _) (FP a l al) ⟨I2.ok.hd hc,vs,rs,its.toArray,n,dd,gl,⟨?_,fun j kv ej=>?_⟩,by rw[hvl,k2];exact hz,fun h' t' dd' old=>?_⟩
 ·rw[size_toArray,eits,length_map,hlen,k2]
 ·obtain⟨p,u,xs,e1,e2,e3,e4⟩:=k3 j kv ej;refine⟨p,u,?_,e2,e3,fun z=>?_⟩
  ·rw[getElem?_toArray,eits,getElem?_map,e1];rfl
  rw[mem_singleton.mp z,ea] at e4;cases e4
 have he':∃q,h'.get? a=some q:=let ⟨q,_,_,hq,_⟩:=dd';⟨q,hq⟩;exact⟨.non,_,I2.write (x:=a) (e:=a) (by rw[ea];exact True.intro) (.inl rfl) (fun b q hb z=>old b q hb z) he' (Yu (le_trans (xT prs kvs) hz) hd (KV.putAll rel k1) dd'),rfl,q2⟩
theorem S7 (hc:X.calm=true) (ho:QE X o td) (he:QE X e ty) (m:M1 X o "update" apos e cpos):QE X (.Call (.Attribute o "update" apos) [e] [] cpos) (Lk td ty):=⟨TY hc ho.h he.h m⟩
end
inductive YG (H:Hp):List V->List (List (Int×Int))->Prop
 | nil:YG H [] []
 | cons {p:Addr} {us vs:List V} {c:List (Int×Int)} {cs:List (List (Int×Int))}:H p=some (.lst vs)->bf prE H vs c->YG H us cs->YG H (.ref p::us) (c::cs)
inductive Ry (w s:Int):List (List It1)->List (List (Int×Int))->Prop
 | nil:Ry w s [] []
 | cons {its:List It1} {c:List (Int×Int)} {css:List (List It1)} {cs:List (List (Int×Int))}:CSp w s its c->Ry w s css cs->Ry w s (its::css) (c::cs)
structure TSp (w s:Int)(css:List (List It1))(ys:List (Int×Int)):Prop where
 gap:Gap ys
 ins:YH w s ys
 cv:∀n,Gb w s n->(cov ys n ↔ ∃its,its∈css/\its.any (zV w n)=true)
 ln:ys.length<=128*(css.map List.length).sum
noncomputable def zJ:R2:=fun x y H Q=>∃a o,y=.ref a/\Rx H a x o/\Q (.bl (!o.isSome)) H
theorem JH {X:Cx}(hu:X.A.units+1<cLine):OpR X (compareOp .NotIn) zJ:=by
 intro pins s σ H x y v u Q I rx ry h;obtain⟨a,o,rfl,g,q⟩:=h;cases ry;exact Vx hu I g rx fun s' I'=>⟨.bl _,H,I',rfl,q⟩
theorem uK {v:V}{j:Key}:∀{bs:List Int}{kvs:List (Key×V)},fU (putAll kvs (bs.map fun b=>((Sum.inl b:Key),v))) j=if (∃b,b∈bs/\j=Sum.inl b) then some v else fU kvs j
 | [],kvs=>by
  rw[if_neg (by rintro⟨b,m,_⟩;cases m)];rfl
 | b::bs,kvs=>by
  have ih:=uK (v:=v) (j:=j) (bs:=bs) (kvs:=putK kvs (Sum.inl b) v);rw[map_cons];show fU (putAll (putK kvs (Sum.inl b) v) _) j=_;rw[ih,Lb];by_cases c:∃b',b'∈bs/\j=Sum.inl b'
  ·rw[if_pos c,if_pos];obtain⟨b',m,e⟩:=c;exact⟨b',mem_cons_of_mem _ m,e⟩
  rw[if_neg c];by_cases e:j=Sum.inl b
  ·rw[if_pos e,if_pos ⟨b,mem_cons_self ..,e⟩]
  rw[if_neg e,if_neg];rintro⟨b',m,e'⟩;rcases mem_cons.mp m with rfl|m
  ·exact e e'
  exact c ⟨b',m,e'⟩
structure Own (w:Int)(ns:List Int)(kvs:List (Key×V))(css:List (List It1)):Prop where
 vals:∀b v,fU kvs (Sum.inl b)=some v->∃k:Int,v=.int k
 own:∀(k:Nat) its it b,css[k]?=some its->it∈its->b∈ns->zV w b it=true->fU kvs (Sum.inl b)=some (.int (k:Int))
theorem NK (kvs:List (Key×V))(k:Key)(v:V):(putK kvs k v).length<=kvs.length+1:=by
 unfold putK;split
 ·rw[length_map];omega
 rw[length_append,length_singleton];omega
theorem uJ:∀{prs kvs:List (Key×V)},(putAll kvs prs).length<=kvs.length+prs.length
 | [],kvs=>le_refl _
 | p::prs,kvs=>by
  have ih:=uJ (prs:=prs) (kvs:=putK kvs p.1 p.2);have:=NK kvs p.1 p.2;show(putAll (putK kvs p.1 p.2) prs).length<=_;rw[length_cons];omega
noncomputable def Rv (k1 k2:Addr->Int)(p q:Addr):Prop:=k1 p<k1 q\/(k1 p=k1 q/\k2 p<=k2 q)
noncomputable def YT:List V->Hp->VK->Prop:=fun vs H Q=>∃(l:Addr)(ps:List Addr)(k1 k2:Addr->Int),vs=[.ref l]/\H l=some (.lst (ps.map V.ref))/\ps.length<=1000000 /\
 (∀p∈ps,H p=some (.tup [.int (k1 p),.int (k2 p)])/\-1267650600228229401496703205376<k2 p/\k2 p<1267650600228229401496703205376) /\
 ∀(d:Addr)(qs:List Addr),H d=none->qs.Perm ps->qs.Pairwise (Rv k1 k2)->Q (.ref d) (upd H d (.lst (qs.map V.ref)))
section
variable {X:Cx}
theorem Gx:cV X (.builtin "sorted") YT:=by
 intro pins s σ H xs us Q I rv h;obtain⟨l,ps,k1,k2,rfl,el,hl,hp,q⟩:=h;cases rv with
 | cons r rr=>
  cases rr;cases r;obtain⟨its,rl,pl,hz⟩:=I.list (SqL.of el);have e:=xg rl;subst e;have hR:SRT.wj s (rkP k1) (rkP k2) (rkP fun p=>k1 p*2535301200456458802993406410752+k2 p) (ps.map Value.ref):=by
   refine⟨fun v hv=>?_,fun x hx y hy=>?_⟩
   ·obtain⟨p,hm,rfl⟩:=mem_map.mp hv;obtain⟨ep,_⟩:=hp p hm;obtain⟨ts,rt,pt,_⟩:=I.tuple (SqT.of ep);obtain⟨ob,g1,g2,n,g3⟩:=pt;cases rt with
    | cons r1 rt=>
     cases rt with
     | cons r2 rt=>
      cases rt;obtain⟨t,rfl⟩:=r1;obtain⟨u,rfl⟩:=r2;exact⟨p,ob,n,t,u,rfl,g1,g2,g3⟩
   obtain⟨p,hm,rfl⟩:=mem_map.mp hx;obtain⟨p',hm',rfl⟩:=mem_map.mp hy;have b1:=(hp p hm).2;have b2:=(hp p' hm').2;show k1 p*2535301200456458802993406410752+k2 p<k1 p'*2535301200456458802993406410752+k2 p'↔k1 p<k1 p'\/k1 p=k1 p'/\k2 p<k2 p';omega
  refine SRT.R5 (g:=rkP fun p=>k1 p*2535301200456458802993406410752+k2 p) pl.isList (fun A E s' kp=>⟨SRT.ZK (hR.keep kp),fun Q hn q=>SRT.Zu (fun v hv=>⟨_,((hR.keep kp).tk v hv).tp⟩) hn q⟩) (by rw[length_map];exact hl) fun ys hy ho=>?_;obtain⟨qs,e,hq⟩:=JF hy;rw[e,map_map] at ho;have ho2:qs.Pairwise (Rv k1 k2):=by
   refine(pairwise_map.mp ho).imp_of_mem fun {p p'} hm hm' z=>?_;have b1:=(hp p (hq.mem_iff.mp hm)).2;have b2:=(hp p' (hq.mem_iff.mp hm')).2;replace z:k1 p*2535301200456458802993406410752+k2 p<=k1 p'*2535301200456458802993406410752+k2 p':=z;unfold Rv;omega
  obtain⟨n,he⟩:=sortedAll_at s.heap (ps.map Value.ref) ys;have le:s.heap.objs.size<=s.heap.objs.size+1:=le_succ _;have hf:H (s.heap.objs.size+1)=none:=I.hok.fresh le;refine⟨.ref (s.heap.objs.size+1),_,I.laid (t':=s.toks) (fun c o z=>sortedAll_old z) le (show bN X.prog X.w _ _ _ (.lst (qs.map V.ref)) from⟨aK (by rw[length_map,hq.length_eq];omega),qs.map Value.ref,n,xQ qs,?_⟩),rfl,q _ qs hf hq ho2⟩;rw[he];have:ys=(qs.map Value.ref).toArray:=by rw[<- e]
  rw[this]
end
structure DA (K:PySem.W.Frag)(x:Str)(st:Stmt)(f:Addr)(od an:Option Addr)(sl:Array (Option Value))(oc kV dc pm cd ct:Value):Prop where
 a:nsIn K mainGlobals x=some (some (.ref f))
 l:K.lookup f=some ⟨oc,od,.func (fnOf x x (gD st) (eF st) (ak st) .none kV dc pm an cd ct),sl⟩
 c:codeIn K cd x=true
 k:keepIn K (.ref f)=true
theorem DA.d {K:PySem.W.Frag}{h:Heap}{mg:Str->Option Value}{x:Str}{st:Stmt}{f:Addr}{od an:Option Addr}{sl:Array (Option Value)}{oc kV dc pm cd ct:Value}(D:DA K x st f od an sl oc kV dc pm cd ct)(ps:List Str)(X:K.In h)(G:h.Ns mainGlobals mg)
  (hb:∀(kV doc pm:Value)(an:Option Addr)(cdv ct:Value)(us:List Value),us.length=ps.length->bindArgs (fnOf x x (gD st) (eF st) (ak st) .none kV doc pm an cdv ct) ⟨us,[]⟩=pure (ps.zip us)):V0 K mg x st ps f (fnOf x x (gD st) (eF st) (ak st) .none kV dc pm an cd ct):=
 Yv X G D.a D.l D.c D.k hb
end L2
local macro_rules | `(tactic| push_cast) => `(tactic| ((try dsimp only [L2.tV, L2.Jl, L2.Lx, L2.rQ, L2.tOp, L2.tC, L2.Lp, L2.G4, L2.uh, L2.rR, L2.BJ, L2.tCB, L2.tIf, L2.RV, L2.tB, L2.RW, L2.tOr, L2.Ls, L2.Ln, L2.wB, L2.j6, L2.rI0, getElem?_cons_zero, getElem?_cons_succ, set_cons_zero, set_cons_succ]); try simp only [↓L2.rdy, L2.rdy, ↓reduceIte, reduceCtorEq, Nat.reduceAdd, Nat.reduceSub]))
local macro_rules | `(tactic| push_cast [$ls,*]) => `(tactic| ((try dsimp only [L2.tV, L2.Jl, L2.Lx, L2.rQ, L2.tOp, L2.tC, L2.Lp, L2.G4, L2.uh, L2.rR, L2.BJ, L2.tCB, L2.tIf, L2.RV, L2.tB, L2.RW, L2.tOr, L2.Ls, L2.Ln, L2.wB, L2.j6, L2.rI0, getElem?_cons_zero, getElem?_cons_succ, set_cons_zero, set_cons_succ]); try simp only [↓L2.rdy, L2.rdy, ↓reduceIte, reduceCtorEq, Nat.reduceAdd, Nat.reduceSub, $ls,*]))
namespace K16
open PySem L2 PyProof.Rows
noncomputable abbrev q0_:List Str:=["_law_rows_here","_law_low","_law_high"]
noncomputable abbrev q1_:List Str:=["_law_tape_here","_law_many"]
noncomputable abbrev q2_:List Str:=["rows","low","high"]
noncomputable abbrev q3_:List Str:=["_law_script","_law_k"]
noncomputable abbrev q4_:List Str:=["_law_rows_here","_law_number"]
noncomputable abbrev q5_:List Str:=["_law_rows_here","_law_at","_law_number"]
noncomputable abbrev q6_:List Str:=["_law_found","_law_due"]
noncomputable abbrev q7_:List Str:=["row","at","low","high"]
noncomputable abbrev q8_:List Str:=["reached","spans","ways"]
noncomputable def top (i:Nat):Stmt:=PySem.Challenge.pw_caseways_k16_first_beyond_and_never_done.main.body.getD i (.Pass ⟨0,0,0,0⟩)
noncomputable abbrev BLs:List Str:=["abs","all","bool","enumerate","int","isinstance","len","list","max","min","range","repr","set","sorted","str","tuple","zip"]
theorem Pu:("abs" : Str)∈BLs:=by decide +kernel
theorem XS:("all" : Str)∈BLs:=by decide +kernel
theorem Al:("bool" : Str)∈BLs:=by decide +kernel
theorem gq:("enumerate" : Str)∈BLs:=by decide +kernel
theorem Pr:("int" : Str)∈BLs:=by decide +kernel
theorem bD:("isinstance" : Str)∈BLs:=by decide +kernel
theorem jK:("len" : Str)∈BLs:=by decide +kernel
theorem tR:("list" : Str)∈BLs:=by decide +kernel
theorem Ak:("max" : Str)∈BLs:=by decide +kernel
theorem vo:("min" : Str)∈BLs:=by decide +kernel
theorem fj:("range" : Str)∈BLs:=by decide +kernel
theorem HY:("repr" : Str)∈BLs:=by decide +kernel
theorem XR:("set" : Str)∈BLs:=by decide +kernel
theorem yx:("sorted" : Str)∈BLs:=by decide +kernel
theorem FT:("str" : Str)∈BLs:=by decide +kernel
theorem qj:("tuple" : Str)∈BLs:=by decide +kernel
theorem XQ:("zip" : Str)∈BLs:=by decide +kernel
noncomputable abbrev wk:List Str:=["_law_script","_law_k"]
noncomputable abbrev GI_ (s:Stmt)(x:Str):Prop:=(ak s).names.lookup x=some .globalImplicit
noncomputable abbrev NM_ (N:List Str)(s:Stmt)(i:Nat)(x:Str):Prop:=Nm N (ak s) i x
noncomputable abbrev jR:Stmt:=top 15
theorem Jt:bB wk q3_ (ak jR):=⟨rfl,rfl,rfl,ψ,rfl,ψ,ψ⟩
theorem uZ:NM_ wk jR 0 "_law_script" := .of ψ
theorem uY:NM_ wk jR 1 "_law_k" := .of ψ
theorem Ba:GI_ jR "len" := by decide +kernel
theorem KN:Bn "_law_cell_at" := ⟨ψ,ψ⟩
noncomputable abbrev Br:List Str:=["_law_script","_law_k","_law_cell"]
noncomputable abbrev kE:Stmt:=top 16
theorem Hq:bB Br q3_ (ak kE):=⟨rfl,rfl,rfl,ψ,rfl,ψ,ψ⟩
theorem O3:NM_ Br kE 0 "_law_script" := .of ψ
theorem uT:NM_ Br kE 1 "_law_k" := .of ψ
theorem qd:NM_ Br kE 2 "_law_cell" := .of ψ
theorem vC:GI_ kE "_law_cell_at" := by decide +kernel
theorem vB:GI_ kE "abs" := by decide +kernel
theorem Gf:GI_ kE "int" := by decide +kernel
theorem VF:Bn "_law_tape" := ⟨ψ,ψ⟩
noncomputable abbrev rN:List Str:=["_law_tape_here","_law_many","_law_found","_law_prime","_law_once"]
noncomputable abbrev kI:Stmt:=top 17
theorem pN:bB rN q1_ (ak kI):=⟨rfl,rfl,rfl,ψ,rfl,ψ,ψ⟩
theorem cH:NM_ rN kI 0 "_law_tape_here" := .of ψ
theorem mK:NM_ rN kI 1 "_law_many" := .of ψ
theorem mJ:NM_ rN kI 2 "_law_found" := .of ψ
theorem CG:NM_ rN kI 3 "_law_prime" := .of ψ
theorem uU:NM_ rN kI 4 "_law_once" := .of ψ
theorem Ar:GI_ kI "_law_take" := by decide +kernel
theorem bR:Bn "_law_take" := ⟨ψ,ψ⟩
section
variable {P:Program}{w:World}{K:PySem.W.Frag}{mg:Str->Option Value}{base:Heap}{f:Addr}{fd:FuncData}{bs:List Str}
theorem Uu (hB:∀x:Str,x∈BLs->mg x=none) (F:Fun K "_law_cell_at" "_law_cell_at" jR f fd):dF P w K mg base CX0 1 f fd q3_ (Mq K):=by
 refine F.okq Jt (fun vs H Q E h=>?_) (fun cdv A outer s H vs Q E hr h=>?_)
 ·obtain⟨a,ns,k,rfl,_⟩:=h;rfl
 obtain⟨a,ns,k,rfl,hS,h0,q⟩:=h;refine⟨_,(aG (aW (jT (aQ mD (ao uY) (bY iU Ba (hB "len" jK) PySem.boot_len jM (aj (ao uZ) aA rfl) rfl rfl) (aP _)) (aJ Ie (ao uZ) (ao uY) (fun _ _=>rfl)) aq))),?_⟩;push_cast;refine⟨_,.inl hS,?_⟩;split
 ·rename_i c;rw[length_map] at c;have hk:k.toNat<ns.length:=ω;have ek:k=((k.toNat:Nat):Int):=ω;have z:atI (ns.map V.int) ((k.toNat:Nat):Int)=some (.int ns[k.toNat]):=bM (by rw[getElem?_map,getElem?_eq_getElem hk];rfl);rw[<- ek] at z;unfold YX;exact⟨a,_,k,_,rfl,rfl,hS,z,q _⟩
 exact q _
theorem Ug (hB:∀x:Str,x∈BLs->mg x=none) (CZCellAt:Cal P w K mg base "_law_cell_at" 1 q3_ (Mq K)) (F:Fun K "_law_tape" "_law_tape" kE f fd):dF P w K mg base CX0 2 f fd q3_ (Mf K):=by
 refine F.okq Hq (fun vs H Q E h=>?_) (fun cdv A outer s H vs Q E hr h=>?_)
 ·obtain⟨a,ns,k,rfl,_⟩:=h;rfl
 obtain⟨a,ns,k,rfl,hS,h0,h1,q⟩:=h;refine⟨_,(aD (bU qd Hq.nd (bw CZCellAt (hr.mono δ) vC KN (aj (ao O3) (aj (ao uT) aA rfl) rfl) rfl rfl) rfl (.inl rfl))
  (aG (aW (cD (aj (aL eE (bY Dy vB (hB "abs" Pu) PyProof.Rows.Boot.«abs» Ra (aj (ao qd) aA rfl) rfl rfl) (V6 Gy Gf (hB "int" Pr) boot_int Q9 (aj (uH V8 (bY Dy vB (hB "abs" Pu) PyProof.Rows.Boot.«abs» Ra (aj (ao qd) aA rfl) rfl rfl) (aL uL aq aq) (aP _)) aA rfl) rfl rfl)) (aj (aL jf (aL eE (aL aU (aL aU (aL jf (ao qd) aq) (aL eE (aL eE aq (ao uT)) (ao uT))) aq) aq) aq) (aj aq aA rfl) rfl) rfl))))),?_⟩
 push_cast;refine⟨a,ns,k,rfl,hS,h0,fun v=>?_⟩;push_cast;refine⟨⟨δ,δ,δ⟩,?_,δ,.inl δ,.inr ω,.inr δ,δ,aK δ,fun p hp=>q p _ hp (au hp) ⟨_,_,_,aB,?_,?_,?_,Int.le_refl _,Int.le_refl _⟩⟩
 ·right;generalize (if v<0 then -v else v)=u;split <;> decide
 ·refine Int.mul_nonneg ?_ ?_
  ·split <;> omega
  generalize (if v<0 then -v else v)=u;split <;> decide
 ·exact emod_nonneg _ δ
 exact emod_lt_of_pos _ δ
theorem HF {n:Nat}(hB:∀x:Str,x∈BLs->mg x=none) (hn:n<=10) (CZTake:Cal P w K mg base "_law_take" n q1_ (oW n)) (F:Fun K "_law_take" "_law_take" kI f fd):dF P w K mg base CX0 (n+1) f fd q1_ (oW (n+1)):=by
 refine F.okq pN (fun vs H Q E h=>?_) (fun cdv A outer s H vs Q E hr h=>?_)
 ·obtain⟨p,m,B,rfl,_⟩:=h;rfl
 obtain⟨p,m,B,rfl,⟨a,b,c,hp,ha,hb0,hb1,hc0,hc1⟩,hB0,hm0,hm1,hn1,hn2,q⟩:=h;refine⟨_,(aD (bH (aQ V7 (aJ aR (ao cH) aq (fun _ _=>rfl)) aq (aP _)) (aD (bU mJ pN.nd (aL jf (aJ aR (ao cH) aq (fun _ _=>rfl)) (ao mK)) rfl (.inl rfl))
  (aD (fK (aL p8 (aJ aR (ao cH) aq (fun _ _=>rfl)) (ao mK)) (zP (ao cH) aq uE) rfl rfl rfl)
  (aG (aW (ao mJ))))) bK)
  (aD (fK (aL aU (aJ aR (ao cH) aq (fun _ _=>rfl)) aq) (zP (ao cH) aq uE) rfl rfl rfl)
  (aD (bU CG pN.nd (aJ aR (cD (aj aq (aj aq (aj aq (aj aq (aj aq (aj aq (aj aq aA rfl) rfl) rfl) rfl) rfl) rfl) rfl)) (aL jf (aJ aR (ao cH) aq (fun _ _=>rfl)) aq) (fun _ _=>rfl)) rfl (.inl rfl))
  (aD (bU uU pN.nd (aL jf (aL eE (aL aU (aJ aR (ao cH) aq (fun _ _=>rfl)) (aL eE aq (aJ aR (ao cH) aq (fun _ _=>rfl)))) (aL aU aq (aJ aR (ao cH) aq (fun _ _=>rfl)))) (ao CG)) rfl (.inl rfl))
  (aD (fK (aL jf (aL aU (aL eE (ao uU) (aL aU (aL jf (ao uU) aq) aq)) (aJ aR (ao cH) aq (fun _ _=>rfl))) aq) (zP (ao cH) aq uE) rfl rfl rfl)
  (aD (bU mJ pN.nd (aL p8 (aL jf (aL eE (aJ aR (ao cH) aq (fun _ _=>rfl)) (aL aU (aL jf (aJ aR (ao cH) aq (fun _ _=>rfl)) aq) aq)) aq) aq) rfl (.inl rfl))
  (aG (aW (jT (aQ mD (ao mK) (aL uL aq aq) (aP _)) (aL jf (ao mJ) (ao mK)) (aL jf (aL aU (aL eE (ao mJ) aq) (bw CZTake (hr.mono ω) Ar bR (aj (ao cH) (aj aq aA rfl) rfl) rfl rfl)) (ao mK))))))))))),?_⟩
 push_cast [hp];split
 ·refine⟨hm0,⟨hm0,hm1⟩,?_⟩;refine q _ _ (emod_nonneg _ ω) (emod_lt_of_pos _ hm0) cF.upd ⟨_,_,_,aB,Int.ediv_nonneg ha ω,hb0,hb1,hc0,ω⟩
 refine⟨aK δ,fun p1 hp1=>?_⟩;have np:p≠p1:=fun z=>by rw[<- z,aB] at hp1;cases hp1
 obtain⟨v,hv,v0⟩:=Xg (c+1);push_cast [hp,aH np,ne_eq,np,not_false_eq_true,hv];have m1:∀x:Int,0<=x%40009/\x%40009<40009:=fun x=>⟨emod_nonneg _ δ,emod_lt_of_pos _ δ⟩;have m2:∀x:Int,0<=x%1009/\x%1009<1009:=fun x=>⟨emod_nonneg _ δ,emod_lt_of_pos _ δ⟩;have m3:∀x:Int,0<=x%2147483629/\x%2147483629<2147483629:=fun x=>⟨emod_nonneg _ δ,emod_lt_of_pos _ δ⟩;refine⟨δ,.inl δ,.inr ω,v0,δ,.inr ?_,δ,δ,.inr ?_,δ,δ,δ,?_⟩
 ·have:=m1 ((b+39373*(c+1))*(48271+(c+1))%v);omega
 ·have:=m2 (((b+39373*(c+1))*(48271+(c+1))%v*((b+39373*(c+1))*(48271+(c+1))%v%40009+7)+(c+1))%2147483629);omega
 have e3:=m3 ((b+39373*(c+1))*(48271+(c+1))%v*((b+39373*(c+1))*(48271+(c+1))%v%40009+7)+(c+1));generalize ((b+39373*(c+1))*(48271+(c+1))%v*((b+39373*(c+1))*(48271+(c+1))%v%40009+7)+(c+1))%2147483629=y at e3 |-;have sx:cF p H (upd (upd (upd H p (HO.lst [V.int a,V.int b,V.int (c+1)])) p1 (HO.lst [V.int 2147483587,V.int 2147483579,V.int 2147483563,V.int 2147483549,V.int 2147483543,V.int 2147483497,V.int 2147483489])) p (HO.lst [V.int a,V.int y,V.int (c+1)])):=
  (cF.upd.trans (au hp1).x).trans cF.upd
 have tp:bT (upd (upd (upd H p (HO.lst [V.int a,V.int b,V.int (c+1)])) p1 (HO.lst [V.int 2147483587,V.int 2147483579,V.int 2147483563,V.int 2147483549,V.int 2147483543,V.int 2147483497,V.int 2147483489])) p (HO.lst [V.int a,V.int y,V.int (c+1)])) p (B+1):=
  ⟨a,y,c+1,aB,ha,e3.1,e3.2,ω,ω⟩
 generalize upd (upd (upd H p (HO.lst [V.int a,V.int b,V.int (c+1)])) p1 (HO.lst [V.int 2147483587,V.int 2147483579,V.int 2147483563,V.int 2147483549,V.int 2147483543,V.int 2147483497,V.int 2147483489])) p (HO.lst [V.int a,V.int y,V.int (c+1)])=H2 at sx tp |-;split
 ·refine⟨hm0,q _ _ (emod_nonneg _ ω) (emod_lt_of_pos _ hm0) sx ?_⟩;obtain⟨a',b',c',z1,z2,z3,z4,z5,z6⟩:=tp;exact⟨a',b',c',z1,z2,z3,z4,z5,ω⟩
 rename_i hm;have hm':1000000<=m:=by
  rw[show(10:Int)^Int.toNat 6=1000000 from by decide] at hm;omega
 have hn3:=hn2 hm';refine⟨.inr δ,p,99991,B+1,rfl,tp,ω,δ,δ,ω,fun z=>absurd z δ,fun r H3 r0 r1 s3 t3=>?_⟩;push_cast;refine⟨hm0,q _ _ (emod_nonneg _ ω) (emod_lt_of_pos _ hm0) (sx.trans s3) ?_⟩;obtain⟨a',b',c',z1,z2,z3,z4,z5,z6⟩:=t3;exact⟨a',b',c',z1,z2,z3,z4,z5,ω⟩
theorem Jk:dF P w K mg base CX0 0 f fd q1_ (oW 0):=by
 have no:∀vs H Q E,¬oW 0 vs H Q E:=fun vs H Q E h=>by
  obtain⟨p,m,B,_,_,_,_,_,h1,_⟩:=h;omega
 exact⟨fun vs H Q E h=>absurd h (no vs H Q E),fun A outer s H args us vs Q E _ _ _ _ h=>absurd h (no vs H Q E)⟩
noncomputable abbrev j8:List Str:=["_law_rows_here","_law_at","_law_number","_law_row","_law_place"]
noncomputable abbrev fZ:Stmt:=top 20
theorem qP:bB j8 q5_ (ak fZ):=⟨rfl,rfl,rfl,ψ,rfl,ψ,ψ⟩
theorem FJ:NM_ j8 fZ 0 "_law_rows_here" := .of ψ
theorem jl:NM_ j8 fZ 1 "_law_at" := .of ψ
theorem lq:NM_ j8 fZ 2 "_law_number" := .of ψ
theorem bx:NM_ j8 fZ 3 "_law_row" := .of ψ
theorem jk:NM_ j8 fZ 4 "_law_place" := .of ψ
theorem Bc:GI_ fZ "len" := by decide +kernel
theorem KR:Bn "_law_behind" := ⟨ψ,ψ⟩
noncomputable abbrev Ec:List Str:=["_law_rows_here","_law_number","_law_done","_law_after"]
noncomputable abbrev rW:Stmt:=top 21
theorem Eo:bB Ec q4_ (ak rW):=⟨rfl,rfl,rfl,ψ,rfl,ψ,ψ⟩
theorem Ac:NM_ Ec rW 0 "_law_rows_here" := .of ψ
theorem UJ:NM_ Ec rW 1 "_law_number" := .of ψ
theorem kW:NM_ Ec rW 2 "_law_done" := .of ψ
theorem Ab:NM_ Ec rW 3 "_law_after" := .of ψ
theorem wQ:GI_ rW "_law_behind" := by decide +kernel
theorem GC:Bn "_law_run" := ⟨ψ,ψ⟩
theorem Fl (hB:∀x:Str,x∈BLs->mg x=none) (F:Fun K "_law_behind" "_law_behind" fZ f fd):dF P w K mg base CX0 1 f fd q5_ xJ:=by
 refine F.okq qP (fun vs H Q E h=>?_) (fun cdv A outer s H vs Q E hr h=>?_)
 ·obtain⟨l,ok,cs,j,n,c,rfl,_⟩:=h;rfl
 obtain⟨l,ok,cs,j,n,c,rfl,tr,rows,hc,hp,q⟩:=h;refine⟨_,(aD (bU bx qP.nd (aJ aR (ao FJ) (ao jl) (fun _ _=>rfl)) rfl (.inl rfl))
  (aD (bH (aQ (b7 hr.bA) (aJ aR (ao bx) aq (fun _ _=>rfl)) bG (aP _)) (aG (aW (jT (aQ (b7 hr.bA) (ao lq) (aJ aR (ao bx) aq (fun _ _=>rfl)) (aP _)) (aJ aR (ao bx) aq (fun _ _=>rfl)) (aL aU (ao jl) aq)))) bK)
  (aD (bH (aQ (b7 hr.bA) (aJ aR (ao bx) aq (fun _ _=>rfl)) bG (aP _)) (aG (aW (jT (Cj xW xW (aJ aR (ao bx) aq (fun _ _=>rfl)) (ao lq) (aJ aR (ao bx) aq (fun _ _=>rfl))) (aJ aR (ao bx) aq (fun _ _=>rfl)) (aL aU (ao jl) aq)))) bK)
  (aD (bH (aQ (b7 hr.bA) (aJ aR (ao bx) aq (fun _ _=>rfl)) bG (aP _)) (aG (aW (jT (aQ mD (ao lq) (aJ aR (ao bx) aq (fun _ _=>rfl)) (aP _)) (aJ aR (ao bx) aq (fun _ _=>rfl)) (aL aU (ao jl) aq)))) bK)
  (aD (bU jk qP.nd (aL eO (ao lq) (aJ aR (ao bx) aq (fun _ _=>rfl))) rfl (.inl rfl))
  (aD (bH (Ci (Hu (aQ mD (ao jk) aq (aP _)) (zK (aQ V8 (ao jk) (jT (aQ (b7 hr.bA) (aJ aR (ao bx) aq (fun _ _=>rfl)) bG (aP _)) (aJ aR (ao bx) aq (fun _ _=>rfl)) (bY dY Bc (hB "len" jK) PySem.boot_len jM (aj (aJ aR (ao bx) aq (fun _ _=>rfl)) aA rfl) rfl rfl)) (aP _))))) (aG (aW gh)) bK)
  (aD (bH (aQ (b7 hr.bA) (aJ aR (ao bx) aq (fun _ _=>rfl)) bG (aP _)) (aG (aW (aJ aR (aJ aR (ao bx) aq (fun _ _=>rfl)) (ao jk) (fun _ _=>rfl)))) bK)
  (aG (aW (jT (aQ (b7 hr.bA) (aL Om (aL Oj (aJ aR (ao bx) aq (fun _ _=>rfl)) (ao jk)) aq) aq (aP _)) (aJ aR (ao bx) aq (fun _ _=>rfl)) (aL aU (ao jl) aq))))))))))),?_⟩
 replace q:=q _ (Same.refl _);cases tr with
 | lst o el zl tsl=>
  rename_i xs;obtain⟨x,hx,⟨a,g,rfl,e,eg⟩⟩:=tsl.row hc;have hat:=bM hx;refine aO fun k hk=>?_;push_cast [el,hat];subst hk;cases c with
  | one a' t'=>
   replace q:Q (.int (if n=a' then t' else (j:Int)+1)) H:=q;refine aO fun k hk=>?_;push_cast [e,cu,rdW];split
   ·rename_i c1;rw[if_pos c1] at q;exact q
   rename_i c1;rw[if_neg c1] at q;exact q
  | rng a' b' t'=>
   replace q:Q (.int (if a'<=n/\n<=b' then t' else (j:Int)+1)) H:=q;refine aO fun k hk=>?_;push_cast [e,cu,rdW];subst hk;refine aO fun k hk=>?_;push_cast [e,cu,rdW];by_cases c1:a'<=n
   ·rw[if_pos c1];by_cases c2:n<=b'
    ·rw[if_pos c2];rw[if_pos ⟨c1,c2⟩] at q
     first|exact q|exact⟨_,rfl,q⟩
    rw[if_neg c2];rw[if_neg fun z=>c2 z.2] at q;exact q
   rw[if_neg c1];rw[if_neg fun z=>c1 z.1] at q;exact q
  | low a' t'=>
   replace q:Q (.int (if n<a' then t' else (j:Int)+1)) H:=q;refine aO fun k hk=>?_;push_cast [e,cu,rdW];subst hk;refine aO fun k hk=>?_;push_cast [e,cu,rdW];subst hk;refine aO fun k hk=>?_;push_cast [e,cu,rdW];split
   ·rename_i c1;rw[if_pos c1] at q;exact q
   rename_i c1;rw[if_neg c1] at q;exact q
  | msk lo wd bits t'=>
   replace q:Q (qU (if 0<=n-lo/\n-lo<wd then some (if bitAt bits (n-lo)=true then t' else (j:Int)+1) else none)) H:=q;refine aO fun k hk=>?_;push_cast [e,cu,rdW];subst hk;refine aO fun k hk=>?_;push_cast [e,cu,rdW];subst hk;refine aO fun k hk=>?_;push_cast [e,cu,rdW];subst hk;refine aO fun k hk=>?_;push_cast [e,cu,rdW];subst hk;refine aO fun k hk=>?_;push_cast [e,cu,rdW];by_cases c1:n-lo<0
   ·rw[if_pos c1];rw[if_neg ω] at q;exact q
   rw[if_neg c1];by_cases c2:wd<=n-lo
   ·rw[if_pos c2];rw[if_neg ω] at q;exact q
   rw[if_neg c2];rw[if_pos ω] at q;subst hk;refine aO fun k hk=>?_;push_cast [e,cu,rdW];subst hk;push_cast [e,cu,rdW];refine⟨ω,?_⟩;by_cases c3:Builtin.bitAnd (bits/2^(n-lo).toNat) 1=1
   ·rw[if_pos c3];rw[if_pos (show bitAt bits (n-lo)=true from decide_eq_true c3)] at q
    first|exact q|exact⟨_,rfl,q⟩
   rw[if_neg c3];rw[if_neg (by rw[show bitAt bits (n-lo)=false from decide_eq_false c3];decide)] at q;exact q
  | tab lo gs=>
   have eg:=eg _ _ rfl;replace q:Q (qU (if 0<=n-lo/\n-lo<gs.length then gs[(n-lo).toNat]? else none)) H:=q;refine aO fun k hk=>?_;push_cast [e,cu,rdW];subst hk;refine aO fun k hk=>?_;push_cast [e,cu,rdW];subst hk;refine aO fun k hk=>?_;push_cast [e,cu,rdW];subst hk;refine aO fun k hk=>?_;push_cast [e,cu,rdW];subst hk;refine aO fun k hk=>?_;push_cast [e,cu,rdW,eg,length_map];by_cases c1:n-lo<0
   ·rw[if_pos c1];rw[if_neg ω] at q;exact q
   rw[if_neg c1];by_cases c2:(gs.length:Int)<=n-lo
   ·rw[if_pos c2];rw[if_neg ω] at q;exact q
   rw[if_neg c2];rw[if_pos ω] at q;have hj:(n-lo).toNat<gs.length:=ω;have h3:(gs.map V.int)[(n-lo).toNat]?=some (V.int gs[(n-lo).toNat]):=by rw[getElem?_map,getElem?_eq_getElem hj];rfl
   have h4:=bM h3;rw[show(((n-lo).toNat:Nat):Int)=n-lo by omega] at h4;rw[getElem?_eq_getElem hj] at q;subst hk;refine aO fun k hk=>?_;push_cast [e,cu,rdW,eg,h4];exact q
  | pik l=>cases hp
theorem Ul (hB:∀x:Str,x∈BLs->mg x=none) (CZBehind:Cal P w K mg base "_law_behind" 1 q5_ xJ) (F:Fun K "_law_run" "_law_run" rW f fd):dF P w K mg base CX0 2 f fd q4_ (G8 false):=by
 refine F.okq Eo (fun vs H Q E h=>?_) (fun cdv A outer s H vs Q E hr h=>?_)
 ·obtain⟨l,ok,cs,n,rfl,_⟩:=h;rfl
 obtain⟨l,ok,cs,n,rfl,tr,rows,_,q⟩:=h;refine⟨_,(aD (bU kW Eo.nd (cD (aj aq aA rfl)) rfl (.inl rfl))
  (aD (Ck PassesOwn.never (aQ (qW hr.bA) (aJ aR (aJ aR (ao Ac) (aJ aR (ao kW) (eZ cN aq) (fun _ _=>rfl)) (fun _ _=>rfl)) aq (fun _ _=>rfl)) bG (aP _)) (aD (bU Ab Eo.nd (bw CZBehind (hr.mono δ) wQ KR (aj (ao Ac) (aj (aJ aR (ao kW) (eZ cN aq) (fun _ _=>rfl)) (aj (ao UJ) aA rfl) rfl) rfl) rfl rfl) rfl (.inl rfl))
  (aD (bH (aQ uM (ao Ab) gh (aP _)) (aG (aW (aY (aj gh (aj (ao kW) aA rfl) rfl)))) bK)
  (aG (cB (cJ (ao kW) (ao Ab) rfl rfl rfl rfl rfl) rfl)))))
  (aG (aW (aY (aj (aJ aR (aJ aR (ao Ac) (aJ aR (ao kW) (eZ cN aq) (fun _ _=>rfl)) (fun _ _=>rfl)) aq (fun _ _=>rfl)) (aj (ao kW) aA rfl) rfl)))))),?_⟩
 have tr0:=tr;cases tr with
 | lst o el zl tsl=>
  rename_i xs;have hxl:=tsl.length;rw[length_map] at hxl;refine aO fun k hk=>?_;push_cast;refine⟨aK δ,fun ld hld=>?_⟩;have s0:=au (o:=HO.lst [V.int 0]) hld;have e0:upd H ld (HO.lst [V.int 0]) ld=_:=aB;generalize upd H ld (HO.lst [V.int 0])=H0 at s0 e0 |-;subst hk;refine aO fun k hk=>?_;obtain⟨Pv,hPv⟩:∃Pv:Nat->L2.St->Hp->Prop,Pv=fun(j:Nat) σ H'=>∃(pre:List Int)(kf:Nat)(o3:Option V),Same H H'/\H' ld=some (.lst ((pre++[(j:Int)]).map V.int))/\pre.length<=j/\j<cs.length/\cs.length<=j+kf/\runOf cs n=((runC cs n kf j).1,pre++(runC cs n kf j).2)/\σ=[some (.ref l),some (.int n),some (.ref ld),o3]:=⟨_,rfl⟩;refine RJ cs.length Pv 0 (by rw[hPv];exact⟨[],cs.length,_,s0,e0,le_refl _,rows.1,ω,rfl,rfl⟩) ?_;intro j σ H1 pv;rw[hPv] at pv;obtain⟨pre,kf,o3,s1,e1,hpj,hj,hkf,hrun,rfl⟩:=pv;have hc:cs[j]?=some cs[j]:=getElem?_eq_getElem hj;have el1:=s1 _ _ el;obtain⟨x,hx,rx⟩:=(tsl.same s1).row hc;have hat:=bM hx;have rx':=rx;obtain⟨a,g,rfl,e,eg⟩:=rx;obtain⟨kf,rfl⟩:∃k',kf=k'+1:=⟨kf-1,ω⟩;have hlast:atI ((pre++[(j:Int)]).map V.int) (-1)=some (V.int (j:Int)):=J1 pre (j:Int);generalize hcj:cs[j]=c at hc rx' e eg;cases hp:gC c with
  | true=>
   cases c with
   | pik lb=>
    have hr0:=uG (n:=n) (k:=kf) (a:=(j:Int)) (l:=lb) (by rw[toNat_natCast];exact hc);rw[hr0] at hrun;push_cast [e1,hlast,el1,hat,e,cu,rdW];subst hk;push_cast [e1,hlast,el1,hat,e,cu,rdW];refine⟨aK δ,fun t ht=>?_⟩;have st:=au (o:=HO.tup [V.int lb,V.ref ld]) ht;refine q t ld _ (s1.trans st) (s1.none ht) hld (aF e1 ht).symm ?_ ?_ ?_
    ·rw[hrun];exact aB
    ·rw[hrun];exact st _ _ e1
    rw[hrun,length_append,length_singleton];omega
   | _=>cases hp
  | false=>
   push_cast [e1,hlast,el1,hat,e];refine⟨_,lX c g,?_⟩;push_cast;rw[decide_eq_false (K4 hp),Bool.not_false,if_pos rfl];refine⟨fun σ' H'=>∃j',j<j'/\j'<cs.length/\Pv j' σ' H',fun σ' H' ⟨j',h1,h2,h3⟩=>⟨_,ω,j',rfl,h3⟩,?_⟩;have hc':cs[((j:Nat):Int).toNat]?=some c:=by rw[toNat_natCast];exact hc
   push_cast [e1,hlast];refine⟨l,ok,cs,j,n,c,rfl,tr0.same s1,rows,hc,hp,fun H2 s2=>?_⟩;have e2:=s2 _ _ e1;cases hst:dN c (j:Int) n with
   | none=>
    rw[zE hc' hp hst] at hrun;unfold qU;push_cast [e2];refine⟨aK δ,fun t ht=>?_⟩;have st:=au (o:=HO.tup [V.non,V.ref ld]) ht;refine q t ld _ ((s1.trans s2).trans st) ((s1.trans s2).none ht) hld (aF e2 ht).symm ?_ ?_ ?_
    ·rw[hrun];exact aB
    ·rw[hrun];exact st _ _ e2
    rw[hrun,length_append,length_singleton];omega
   | some t=>
    have hb:=jO rows hc hst;obtain⟨tn,rfl⟩:=Int.eq_ofNat_of_zero_le (show 0<=t by omega);rw[zF hc' hp hst] at hrun;unfold qU;push_cast [e2];refine⟨lt_of_le_of_lt (pl9 hpj hj (by rw[<- hxl];exact zl)) δ,tn,ω,ω,?_⟩;rw[hPv];refine⟨pre++[(j:Int)],kf,_,jQ (s1.trans s2) hld,?_,by rw[length_append,length_singleton];omega,ω,ω,?_,rfl⟩
    ·rw[aB,map_append (l₁:=pre++[(j:Int)])];rfl
    rw[hrun,append_assoc];rfl
noncomputable abbrev ni:List Str:=["_law_rows_here","_law_low","_law_high","_law_come_here","_law_number","_law_at"]
noncomputable abbrev iC:Stmt:=top 22
theorem tL:bB ni q0_ (ak iC):=⟨rfl,rfl,rfl,ψ,rfl,ψ,ψ⟩
theorem CQ:NM_ ni iC 0 "_law_rows_here" := .of ψ
theorem O7:NM_ ni iC 1 "_law_low" := .of ψ
theorem O6:NM_ ni iC 2 "_law_high" := .of ψ
theorem jh:NM_ ni iC 3 "_law_come_here" := .of ψ
theorem jY:NM_ ni iC 4 "_law_number" := .of ψ
theorem jX:NM_ ni iC 5 "_law_at" := .of ψ
theorem Dk:GI_ iC "_law_run" := by decide +kernel
theorem Az:GI_ iC "range" := by decide +kernel
theorem VH:Bn "_law_come" := ⟨ψ,ψ⟩
theorem Ou (hB:∀x:Str,x∈BLs->mg x=none) (CZRun:Cal P w K mg base "_law_run" 2 q4_ (G8 false)) (F:Fun K "_law_come" "_law_come" iC f fd):dF P w K mg base CX0 3 f fd q0_ Hi:=by
 refine F.okq tL (fun vs H Q E h=>?_) (fun cdv A outer s H vs Q E hr h=>?_)
 ·obtain⟨l,ok,cs,low,high,rfl,_⟩:=h;rfl
 obtain⟨l,ok,cs,low,high,rfl,tr,rows,hlh,hlt,hb1,hb2,q⟩:=h;refine⟨_,(aD (pY (NX:=ni) (kX:=(ak iC).names) ["_law_row"] [none] jh tL.nd rfl rfl ⟨rfl,ψ,ψ,ψ,ψ⟩ rfl (fD (ao CQ)) (fun _ _ _ _ _=>(cZ 0 (show List.Nodup (["_law_row"]:List Str) from by decide +kernel) rfl (Or.inl rfl))) (fun _ _ _ _ _=>mj) (fun _ _ _ _ _=>(cD aA)))
  (aD (fJ PassesOwn.never rfl (xR Az (hB "range" fj) (aj (ao O7) (aj (aL aU (ao O6) aq) aA rfl) rfl) rfl rfl) (bV jY tL.nd (.inl rfl))
  (aG (fJ PassesOwn.never rfl (fD (aJ aR (bw CZRun (hr.mono δ) Dk GC (aj (ao CQ) (aj (ao jY) aA rfl) rfl) rfl rfl) aq (fun _ _=>rfl))) (bV jX tL.nd (.inl rfl))
  (aG (bH (Ci (zL (aQ (Fi hr.bA) (aJ aR (ao jh) (ao jX) (fun _ _=>rfl)) (cD aA) (aP _)) (tM (aQ (b7 hr.bA) (aJ aR (aJ aR (aJ aR (ao jh) (ao jX) (fun _ _=>rfl)) (eZ cN aq) (fun _ _=>rfl)) aq (fun _ _=>rfl)) (aL eO (ao jY) aq) (aP _))))) (aG (fK (aY (aj (aJ aR (aJ aR (aJ aR (ao jh) (ao jX) (fun _ _=>rfl)) (eZ cN aq) (fun _ _=>rfl)) aq (fun _ _=>rfl)) (aj (ao jY) aA rfl) rfl)) (zO (aJ aR (ao jh) (ao jX) (fun _ _=>rfl)) (eZ cN aq) uE) rfl rfl rfl)) (aG (cB (cJ (aJ aR (ao jh) (ao jX) (fun _ _=>rfl)) (aY (aj (ao jY) (aj (ao jY) aA rfl) rfl)) rfl rfl rfl rfl rfl) rfl)))) (fun _=>rfl))) (fun _=>rfl))
  (aG (aW (ao jh))))),?_⟩
 have tr0:=tr;cases tr with
 | lst o el zl tsl=>
  rename_i xs;have hxl:=tsl.length;rw[length_map] at hxl;refine aO fun k hk=>?_;refine gR fun R hR=>?_;push_cast [el];obtain⟨Pc,hPc⟩:∃Pv:Nat->List V->L2.St->Hp->Prop,Pv=fun(i:Nat) acc τ H'=>∃(ps:List Addr),Same H H'/\acc=ps.map V.ref/\ps.length=i/\ps.Nodup/\(∀p,p∈ps->H p=none/\H' p=some (.lst [])):=⟨_,rfl⟩;refine rK hR (aK ω) Pc (by rw[hPc];exact⟨[],Same.refl _,rfl,rfl,.nil,fun p m=>(by cases m)⟩) ?_ ?_ ?_ ?_
  ·intro i acc τ H5 pc;rw[hPc] at pc;obtain⟨ps,_,rfl,h1,_⟩:=pc;rw[length_map];omega
  ·intro i acc τ H5 pc;rw[hPc] at pc;obtain⟨ps,s,_⟩:=pc;exact SqL.of (s _ _ el)
  ·intro i x acc τ H5 hx pc;rw[hPc] at pc;obtain⟨ps,s5,rfl,hi5,nd5,hp5⟩:=pc;push_cast;refine⟨aK δ,fun p hp=>?_⟩;rw[hPc];have np:p∉ps:=fun m=>by rw[(hp5 p m).2] at hp;cases hp
   refine⟨ps++[p],s5.trans (au hp),by rw[map_append];rfl,by rw[length_append,hi5];rfl,nodup_append.mpr ⟨nd5,nodup_cons.mpr ⟨not_mem_nil,.nil⟩,fun a ma b mb=>?_⟩,fun b mb=>?_⟩
   ·rw[mem_singleton.mp mb];exact fun z=>np (z ▸ ma)
   rcases mem_append.mp mb with mb|mb
   ·exact⟨(hp5 b mb).1,au hp _ _ (hp5 b mb).2⟩
   rw[mem_singleton.mp mb];exact⟨s5.none hp,aB⟩
  intro acc τ H5 d pc hd;rw[hPc] at pc;obtain⟨ps,s5,rfl,hi5,nd5,hp5⟩:=pc;push_cast;have ra:RAt (upd H5 d (.lst (ps.map V.ref))) d ps fun _=>[]:=⟨aB,fun m=>(by rw[(hp5 d m).2] at hd;cases hd),nd5,fun j p hp=>⟨[],au hd _ _ (hp5 p (mem_of_getElem? hp)).2,.nil⟩⟩;have s6:Same H (upd H5 d (.lst (ps.map V.ref))):=s5.trans (au hd);have hd0:=s5.none hd;have hps:∀p,p∈ps->H p=none:=fun p m=>(hp5 p m).1;generalize upd H5 d (.lst (ps.map V.ref))=H6 at ra s6 |-;subst hk;refine aO fun k hk=>?_;refine jr fun R hR=>?_;push_cast [Ih];refine⟨⟨ω,ω,ω,ω⟩,?_⟩;obtain⟨n,hn⟩:∃n:Nat,n=(high+1-low).toNat:=⟨_,rfl⟩;rw[<- hn];have hpl:ps.length=cs.length:=ω;obtain⟨Pv,hPv⟩:∃Pv:Nat->L2.St->Hp->Prop,Pv=fun(i:Nat) σ H'=>∃(X:Nat->List (Int×Int)) (o4 o5:Option V),Same H H'/\RAt H' d ps X/\LC cs low (low+(i:Int)) (low+(i:Int)) [] X/\LN i [] X/\σ=[some (.ref l),some (.int low),some (.int high),some (.ref d),o4,o5]:=⟨_,rfl⟩;refine yJ hR Pv ?_ ?_ ?_
  ·rw[hPv];exact⟨_,_,_,s6,ra,by rw[show low+((0:Nat):Int)=low by omega];exact LC.start cs low low,fun j=>.inl (le_refl _),rfl⟩
  ·intro i σ H2 hi pv;rw[hPv] at pv;obtain⟨X,o4,o5,s2,ra2,lc,ln,rfl⟩:=pv;push_cast;refine jr fun R2 hR2=>?_;push_cast;refine⟨l,ok,cs,_,rfl,tr0.same s2,rows,fun z=>(by cases z),fun t ld H3 s3 ht hld htl et ep hlen=>?_⟩;have nld:ld∉ps:=fun m=>by
    obtain⟨g,hg⟩:=mem_iff_getElem?.mp m;obtain⟨u',e',_⟩:=ra2.el g _ hg;rw[e'] at hld;cases hld
   have pnd:=WL (n:=low+(i:Int)) rows;have prg:=(p7 (n:=low+(i:Int)) rows).rg;generalize hL:(runOf cs (low+(i:Int))).2=L at ep pnd prg hlen;push_cast [et,ep];obtain⟨Pw,hPw⟩:∃Pw:Nat->L2.St->Hp->Prop,Pw=fun(p:Nat) σ H'=>∃(X:Nat->List (Int×Int)) (o5:Option V),Same H H'/\H' ld=some (.lst (L.map V.int))/\RAt H' d ps X/\LC cs low (low+(i:Int)) (low+(i:Int)) (L.take p) X/\LN i (L.take p) X/\σ=[some (.ref l),some (.int low),some (.int high),some (.ref d),some (.int (low+(i:Int))),o5]:=⟨_,rfl⟩;refine yK (xs:=L.map V.int) hR2 Pw ?_ ?_ ?_ ?_
   ·rw[hPw];exact⟨X,_,s2.trans s3,ep,ra2.same s3,lc,ln,rfl⟩
   ·intro p σ H' _ pw;rw[hPw] at pw;obtain⟨_,_,_,e,_⟩:=pw;exact SqL.of e
   ·intro p x σ Hz hx pw;rw[hPw] at pw;obtain⟨X4,o5',s4,ep4,ra4,lc4,ln4,rfl⟩:=pw;obtain⟨jj,hjj,rfl⟩:∃y,L[p]?=some y/\x=.int y:=by
     rw[getElem?_map] at hx;cases hy:L[p]? with
     | none=>rw[hy] at hx;cases hx
     | some y=>rw[hy] at hx;cases hx;exact⟨y,rfl,rfl⟩
    obtain⟨j0,j1⟩:=prg jj (mem_of_getElem? hjj);obtain⟨j,rfl⟩:=Int.eq_ofNat_of_zero_le (show 0<=jj by omega);have htk:L.take (p+1)=L.take p++[(j:Int)]:=gZ hjj;have hnew:(j:Int)∉L.take p:=fun m=>by
     have:=(nodup_append.mp (htk ▸ pnd.sublist (take_sublist (p+1) L))).2.2 _ m _ (.head _);exact this rfl
    have hpj:ps[j]?=some ps[j]:=getElem?_eq_getElem ω;generalize ps[j]'ω=pj at hpj;have haj:atI (ps.map V.ref) (j:Int)=some (V.ref pj):=bM (by rw[getElem?_map,hpj];rfl);have elrz:=ra4.e;push_cast [elrz,haj];refine⟨aK δ,fun p1 hp1=>?_⟩;have s5:Same Hz (upd Hz p1 (.lst [])):=au hp1;have ep1:upd Hz p1 (.lst []) p1=some (.lst []):=aB;replace s4:=s4.trans s5;replace ep4:=s5 _ _ ep4;replace ra4:=ra4.same s5;generalize upd Hz p1 (.lst [])=H4 at s4 ep4 ra4 ep1 |-;obtain⟨uj,ej,tj⟩:=ra4.el j pj hpj;have elr:=ra4.e;have mpj:=mem_of_getElem? hpj;have llj:=ln4.le j;have fin:∀(q1:Addr)(o:HO)(vs:List V),H4 q1=none->bf prE (upd H4 q1 o) vs (v8 (X4 j) (low+(i:Int)) (low+(i:Int)))->Pw (p+1) [some (.ref l),some (.int low),some (.int high),some (.ref d),some (.int (low+(i:Int))),some (.int (j:Int))] (upd (upd H4 q1 o) pj (.lst vs)):=fun q1 o vs hq1 tv=>by
     rw[hPw];have e5:upd H4 q1 o pj=some (.lst uj):=by rw[aH (aF ej hq1)];exact ej
     have l1:=lc4.grow (Int.le_refl _) hnew;have l2:=ln4.grow (a:=low+(i:Int)) (b:=low+(i:Int)) hnew;rw[<- htk] at l1 l2;exact⟨_,_,fX s4 (hps pj mpj) hq1,uc ep4 (fun z=>nld (z ▸ mpj)) hq1,(ra4.same (au hq1)).chg hpj e5 tv,l1,l2,rfl⟩
    rcases eq_nil_or_concat (X4 j) with hX|⟨pre,t0,hX⟩
    ·rw[hX] at tj fin;cases tj;refine⟨pj,p1,[],rfl,rfl,ej,ep1,_,rfl,?_⟩;push_cast [elr,haj,ej];rw[if_neg (show ¬(!([]:List V).isEmpty)=true by decide)];refine⟨aK δ,fun q1 hq1=>?_⟩;have e5:upd H4 q1 (HO.tup [V.int (low+(i:Int)),V.int (low+(i:Int))]) pj=some (.lst []):=by rw[aH (aF ej hq1)];exact ej
     push_cast [e5];refine⟨δ,?_⟩;exact fin q1 _ _ hq1 ((bf.nil (en:=prE)).snoc (x:=(low+(i:Int),low+(i:Int))) aB)
    rw[concat_eq_append] at hX;rw[hX] at tj fin;obtain⟨vs,pt,rfl,tv,et0⟩:=tj.split;have hal:atI (vs++[V.ref pt]) (-1)=some (V.ref pt):=qI vs _;refine⟨pj,p1,_,rfl,rfl,ej,ep1,_,rfl,?_⟩;push_cast [elr,haj,ej,hal,et0,prE,Aa];have lv:vs.length<=1001:=by
     have:=tv.length;rw[hX,length_append,length_singleton] at llj;omega
    by_cases c1:t0.2=low+(i:Int)-1
    ·rw[if_pos c1];rw[v7 c1] at fin;refine⟨aK δ,fun q1 hq1=>?_⟩;have e5:upd H4 q1 (HO.tup [V.int t0.1,V.int (low+(i:Int))]) pj=some (.lst (vs++[.ref pt])):=by rw[aH (aF ej hq1)];exact ej
     have elr5:upd H4 q1 (HO.tup [V.int t0.1,V.int (low+(i:Int))]) d=some (.lst (ps.map V.ref)):=by rw[aH (aF elr hq1)];exact elr
     push_cast [elr5,haj,e5];refine⟨vs.length,Am vs _,?_⟩;rw[uD];exact fin q1 _ _ hq1 ((tv.yZ hq1).snoc (x:=(t0.1,low+(i:Int))) aB)
    rw[if_neg c1];rw[vZ c1] at fin;refine⟨aK δ,fun q1 hq1=>?_⟩;have e5:upd H4 q1 (HO.tup [V.int (low+(i:Int)),V.int (low+(i:Int))]) pj=some (.lst (vs++[.ref pt])):=by rw[aH (aF ej hq1)];exact ej
    push_cast [e5];refine⟨lt_of_le_of_lt (show(vs++[V.ref pt]).length<=1002 by rw[length_append,length_singleton];omega) δ,?_⟩;exact fin q1 _ _ hq1 ((tj.yZ hq1).snoc (x:=(low+(i:Int),low+(i:Int))) aB)
   intro σ H4 pw;rw[hPw] at pw;obtain⟨X4,o5',s4,ep4,ra4,lc4,ln4,rfl⟩:=pw;rw[length_map,take_length] at lc4 ln4;rw[hPv];refine⟨X4,_,_,s4,ra4,?_,ln4.turn,rfl⟩;rw[<- hL] at lc4;have:=lc4.turn (b':=low+(i:Int)+1) ω (Int.le_refl _) fun n h1 h2=>by rw[show n=low+(i:Int) by omega]
   rw[show low+((i+1:Nat):Int)=low+(i:Int)+1 by omega];exact this
  intro σ H2 pv;rw[hPv] at pv;obtain⟨X,o4,o5,s2,ra2,lc,ln,rfl⟩:=pv;subst hk;push_cast;rw[show low+(n:Int)=high+1 by omega] at lc;exact q d ps X n H2 s2 hd0 hps ra2 hpl lc ln ω
noncomputable abbrev iB:List Str:=["_law_rows_here","_law_low","_law_high","_law_found","_law_number","_law_label","_law_done"]
noncomputable abbrev cR:Stmt:=top 23
theorem jP:bB iB q0_ (ak cR):=⟨rfl,rfl,rfl,ψ,rfl,ψ,ψ⟩
theorem Fz:NM_ iB cR 0 "_law_rows_here" := .of ψ
theorem Fy:NM_ iB cR 1 "_law_low" := .of ψ
theorem Fx:NM_ iB cR 2 "_law_high" := .of ψ
theorem kZ:NM_ iB cR 3 "_law_found" := .of ψ
theorem pB:NM_ iB cR 4 "_law_number" := .of ψ
theorem u6:NM_ iB cR 5 "_law_label" := .of ψ
theorem u5:NM_ iB cR 6 "_law_done" := .of ψ
theorem wV:GI_ cR "_law_run" := by decide +kernel
theorem Bb:GI_ cR "min" := by decide +kernel
theorem vI:GI_ cR "range" := by decide +kernel
theorem KQ:Bn "_law_beyond" := ⟨ψ,ψ⟩
theorem Um (hB:∀x:Str,x∈BLs->mg x=none) (CZRun:Cal P w K mg base "_law_run" 2 q4_ (G8 false)) (F:Fun K "_law_beyond" "_law_beyond" cR f fd):dF P w K mg base CX0 3 f fd q0_ Mh:=by
 refine F.okq jP (fun vs H Q E h=>?_) (fun cdv A outer s H vs Q E hr h=>?_)
 ·obtain⟨l,ok,cs,low,high,rfl,_⟩:=h;rfl
 obtain⟨l,ok,cs,low,high,rfl,tr,rows,hlh,hh,hb1,hb2,q⟩:=h;refine⟨_,(aD (bU kZ jP.nd (cD aA) rfl (.inl rfl))
  (aD (fJ PassesOwn.never rfl (xR vI (hB "range" fj) (aj (ao Fy) (aj (aL aU (ao Fx) aq) aA rfl) rfl) rfl rfl) (bV pB jP.nd (.inl rfl))
  (aD (fK (bw CZRun (hr.mono δ) wV GC (aj (ao Fz) (aj (ao pB) aA rfl) rfl) rfl rfl) (eN (n:=2) rfl (aV (bV u6 jP.nd (.inl rfl)) (aV (bV u5 jP.nd (.inl rfl)) cQ rfl) rfl) rfl rfl) rfl rfl rfl)
  (aG (bH (aQ uM (ao u6) gh (aP _)) (aG (cB (cJ (ao kZ) (aY (aj (aJ aR (ao u5) (eZ cN aq) (fun _ _=>rfl)) (aj (ao pB) aA rfl) rfl)) rfl rfl rfl rfl rfl) rfl)) bK))) (fun _=>rfl))
  (aG (aW (jT (aQ (Fi hr.bA) (ao kZ) (cD aA) (aP _)) (bY (yP rfl hr.Zn) Bb (hB "min" vo) boot_min vW (aj (ao kZ) aA rfl) rfl rfl) gh))))),?_⟩
 refine aO fun k hk=>?_;push_cast;refine⟨aK δ,fun r hr0=>?_⟩;have s0:=au (o:=HO.lst []) hr0;have e0:upd H r (HO.lst []) r=_:=aB;generalize upd H r (HO.lst [])=H0 at s0 e0 |-;subst hk;refine aO fun k hk=>?_;refine jr fun R hR=>?_;push_cast [Ih];refine⟨⟨ω,ω,ω,ω⟩,?_⟩;obtain⟨n,hn⟩:∃n:Nat,n=(high+1-low).toNat:=⟨_,rfl⟩;rw[<- hn];obtain⟨Pv,hPv⟩:∃Pv:Nat->L2.St->Hp->Prop,Pv=fun(i:Nat) σ H'=>∃(L:List (Int×Int)) (us:List V) (o4 o5 o6:Option V),Same H H'/\H' r=some (.lst us)/\bf prE H' us L/\L.length<=i/\BLi cs (fun m=>low<=m/\m<low+(i:Int)) L/\σ=[some (.ref l),some (.int low),some (.int high),some (.ref r),o4,o5,o6]:=⟨_,rfl⟩;refine yJ hR Pv ?_ ?_ ?_
 ·rw[hPv];exact⟨[],[],_,_,_,s0,e0,.nil,le_refl _,⟨fun s m=>(by cases m),fun m j h=>ω⟩,rfl⟩
 ·intro i σ H2 hi pv;rw[hPv] at pv;obtain⟨L,us,o4,o5,o6,s2,er,te,hl,bl,rfl⟩:=pv;refine aO fun k2 hk2=>?_;push_cast;refine⟨l,ok,cs,_,rfl,tr.same s2,rows,fun z=>(by cases z),fun t ld H3 s3 ht hld htl et ep hlen=>?_⟩;push_cast [et];subst hk2;have er3:=s3 _ _ er;have hst:∀m:Int,(low<=m/\m<low+((i+1:Nat):Int))↔(low<=m/\m<low+(i:Int))\/m=low+(i:Int):=fun m=>by omega
  cases hrun:(runOf cs (low+(i:Int))).1 with
  | some lab=>
   push_cast [qU];rw[hPv];exact⟨L,us,_,_,_,s2.trans s3,er3,te.same s3,ω,bl.no rows hrun hst,rfl⟩
  | none=>
   obtain⟨j,hj⟩:=GF rows hrun;have hjl:=(hj.run rows).2;have hla:atI ((runOf cs (low+(i:Int))).2.map V.int) (-1)=some (V.int (j:Int)):=by
    obtain⟨ys,e⟩:=List.getLast?_eq_some_iff.mp hjl;rw[e,map_append];exact qI _ _
   push_cast [qU,er3,ep,hla];refine⟨aK δ,fun p hp=>?_⟩;have er4:=au (o:=HO.tup [V.int (j:Int),V.int (low+(i:Int))]) hp _ _ er3;push_cast [er4];have:=te.length;refine⟨lt_of_le_of_lt (show us.length<=10000 by omega) δ,?_⟩;rw[hPv];exact⟨L++[((j:Int),low+(i:Int))],_,_,_,_,fX (s2.trans s3) hr0 hp,aB,bf.push (te.same s3) ((j:Int),low+(i:Int)) er3 hp,by rw[length_append,length_singleton];omega,bl.yes rows hj hst,rfl⟩
 intro σ H2 pv;rw[hPv] at pv;obtain⟨L,us,o4,o5,o6,s2,er,te,hl,bl,rfl⟩:=pv;subst hk;push_cast [er];refine⟨aK δ,fun p hp=>?_⟩;have s3:=au (o:=HO.lst []) hp;refine⟨r,p,us,rfl,rfl,s3 _ _ er,aB,_,rfl,?_⟩;have er3:=s3 _ _ er;have te3:=te.same s3;have sF:=s2.trans s3;generalize upd H2 p (HO.lst [])=H3 at s3 er3 te3 sF |-;obtain⟨b0,b1⟩:=bl.bey (low:=low) (high:=high) (fun m hm=>ω) (fun n' j h1 h2 b=>⟨n',⟨h1,ω⟩,Int.le_refl _,b⟩);obtain⟨ads,rfl⟩:=te3.refs;cases ads with
 | nil=>
  cases te3;exact q _ _ none sF .non (b0 rfl)
 | cons a0 ads=>
  refine⟨a0::ads,er3,L,by have:=te3.length;rwa [length_map] at this,fun j t c h1 h2=>te3.pr h1 h2,List.cons_ne_nil _ _,fun m t c h1 h2 h3=>?_⟩;exact q _ _ (some c) sF (.tup trivial (te3.pr h1 h2) (by show 2<=1000000;decide) (.cons (.int _) (.cons (.int _) .nil))) (b1 c (mem_of_getElem? h2) h3)
noncomputable abbrev pI:List Str:=["_law_rows_here","_law_low","_law_high","_law_found","_law_row","_law_wide"]
noncomputable abbrev fY:Stmt:=top 25
theorem nu:bB pI q0_ (ak fY):=⟨rfl,rfl,rfl,ψ,rfl,ψ,ψ⟩
theorem O5:NM_ pI fY 0 "_law_rows_here" := .of ψ
theorem O4:NM_ pI fY 1 "_law_low" := .of ψ
theorem jg:NM_ pI fY 3 "_law_found" := .of ψ
theorem dz:NM_ pI fY 4 "_law_row" := .of ψ
theorem CP:NM_ pI fY 5 "_law_wide" := .of ψ
theorem Gk:GI_ fY "len" := by decide +kernel
theorem Dj:GI_ fY "list" := by decide +kernel
theorem Ay:GI_ fY "range" := by decide +kernel
theorem Gj:GI_ fY "set" := by decide +kernel
theorem wU:GI_ fY "sorted" := by decide +kernel
theorem VG:Bn "_law_cuts" := ⟨ψ,ψ⟩
theorem Us (hB:∀x:Str,x∈BLs->mg x=none) (F:Fun K "_law_cuts" "_law_cuts" fY f fd):dF P w K mg base CX0 1 f fd q0_ Mp:=by
 refine F.okq nu (fun vs H Q E h=>?_) (fun cdv A outer s H vs Q E hr h=>?_)
 ·obtain⟨l,ok,cs,low,high,rfl,_⟩:=h;rfl
 obtain⟨l,ok,cs,low,high,rfl,tr,rows,hcs,hc9,ht9,hlh,hb1,hb2,q⟩:=h;refine⟨_,(aD (bU jg nu.nd (cD (aj (ao O4) aA rfl)) rfl (.inl rfl))
  (aD (fJ PassesOwn.never rfl (fD (ao O5)) (bV dz nu.nd (.inl rfl))
  (aG (bH (aQ Ol (aJ aR (ao dz) aq (fun _ _=>rfl)) (aY (aj bG (aj bG aA rfl) rfl)) (by with_unfolding_all rfl)) (aG (bU jg nu.nd (aL aU (ao jg) (cD (aj (aJ aR (ao dz) aq (fun _ _=>rfl)) (aj (aL aU (aJ aR (ao dz) (eZ cN aq) (fun _ _=>rfl)) aq) aA rfl) rfl))) rfl (.inl rfl))) (aG (bH (aQ (b7 hr.bA) (aJ aR (ao dz) aq (fun _ _=>rfl)) bG (aP _)) (aG (cB (cJ (ao jg) (aJ aR (ao dz) aq (fun _ _=>rfl)) rfl rfl rfl rfl rfl) rfl)) (aG (bH (aQ (qW hr.bA) (aJ aR (ao dz) aq (fun _ _=>rfl)) bG (aP _)) (aD (bU CP nu.nd (jT (aQ (b7 hr.bA) (aJ aR (ao dz) aq (fun _ _=>rfl)) bG (aP _)) (aJ aR (ao dz) aq (fun _ _=>rfl)) (bY dY Gk (hB "len" jK) PySem.boot_len jM (aj (aJ aR (ao dz) aq (fun _ _=>rfl)) aA rfl) rfl rfl)) rfl (.inl rfl))
  (aG (bU jg nu.nd (aL aU (ao jg) (S8 rfl Dj (hB "list" tR) Ay (hB "range" fj) (aj (aJ aR (ao dz) aq (fun _ _=>rfl)) (aj (aL aU (aL aU (aJ aR (ao dz) aq (fun _ _=>rfl)) (ao CP)) aq) aA rfl) rfl))) rfl (.inl rfl)))) bK)))))) (fun _=>rfl))
  (aG (aW (Ny rfl wU (hB "sorted" yx) Gj (hB "set" XR) (aj (kJ (NX:=pI) (kX:=(ak fY).names) ["_law_number","_law_low","_law_high"] [none,some 1,some 2] rfl rfl ⟨rfl,ψ,ψ,ψ,ψ⟩ rfl (fD (ao jg)) (fun _ _ _ _ _=>(cZ 0 (show List.Nodup (["_law_number","_law_low","_law_high"]:List Str) from by decide +kernel) rfl (Or.inl rfl))) (fun _ _ _ _ _=>(zR (Cj xW xW (cO 1) (cO 0) (cO 2)))) (fun _ _ _ _ _=>(cO 0))) aA rfl)))))),?_⟩
 cases tr with
 | lst o el zl tsl=>
  rename_i xs;have hxl:=tsl.length;rw[length_map] at hxl;refine aO fun k hk=>?_;push_cast;refine⟨aK δ,fun r0 hr0=>?_⟩;have s0:=au (o:=HO.lst [V.int low]) hr0;have e0:upd H r0 (HO.lst [V.int low]) r0=_:=aB;generalize upd H r0 (HO.lst [V.int low])=H0 at s0 e0 |-;subst hk;refine aO fun k hk=>?_;refine jr fun R hR=>?_;have el0:=s0 _ _ el;push_cast [el0];obtain⟨Pv,hPv⟩:∃Pv:Nat->L2.St->Hp->Prop,Pv=fun(i:Nat) σ H'=>∃(r:Addr)(ns:List Int)(o4 o5:Option V),Same H H'/\H r=none/\H' r=some (.lst (ns.map V.int))/\low∈ns/\ns.length<=1+202*i/\(∀c,c∈cs.take i->∀m,ctC c m->m∈ns)/\σ=[some (.ref l),some (.int low),some (.int high),some (.ref r),o4,o5]:=⟨_,rfl⟩;refine yK (xs:=xs) hR Pv ?_ ?_ ?_ ?_
  ·rw[hPv];exact⟨r0,[low],_,_,s0,hr0,e0,.head _,by simp,fun c m=>(by cases m),rfl⟩
  ·intro i σ H' _ pv;rw[hPv] at pv;obtain⟨_,_,_,_,s,_⟩:=pv;exact SqL.of (s _ _ el)
  ·intro i x σ H2 hx pv;rw[hPv] at pv;obtain⟨r,ns,o4,o5,s2,hr0',er,hlo,hnl,hct,rfl⟩:=pv;have li:i<cs.length:=by have:=(List.getElem?_eq_some_iff.mp hx).1;omega
   have hc:cs[i]?=some cs[i]:=getElem?_eq_getElem li;have hin:cs[i]∈cs:=getElem_mem li;obtain⟨x',hx',rx⟩:=(tsl.same s2).row hc;rw[hx] at hx';cases hx';have htk:cs.take (i+1)=cs.take i++[cs[i]]:=gZ hc;generalize cs[i]=c at hc hin rx htk;obtain⟨a,g,rfl,e,eg⟩:=rx;have fin:∀(ns':List Int),(∀m,m∈ns->m∈ns')->(∀m,ctC c m->m∈ns')->ns'.length<=ns.length+202->low∈ns'/\ns'.length<=1+202*(i+1)/\∀c',c'∈cs.take (i+1)->∀m,ctC c' m->m∈ns':=fun ns' k1 k2 k3=>by
    refine⟨k1 _ hlo,ω,fun c' mc m cm=>?_⟩;rw[htk] at mc;rcases mem_append.mp mc with mc|mc
    ·exact k1 m (hct c' mc m cm)
    rw[mem_singleton.mp mc] at cm;exact k2 m cm
   cases c with
   | one b t=>
    push_cast [e,cu,rdW];refine⟨aK δ,fun p1 hp1=>⟨δ,δ,?_⟩⟩;rw[if_pos δ];have s3:=au (o:=HO.tup [V.str (Str.ofString "is"),V.str (Str.ofString "within")]) hp1;have e3:=s3 _ _ e;have er3:=s3 _ _ er;generalize upd H2 p1 (HO.tup [V.str (Str.ofString "is"),V.str (Str.ofString "within")])=H3 at s3 e3 er3 |-;push_cast [e3,cu,rdW];have hm2:atI [V.str (Str.ofString "is"),V.int b,V.int t] (-2)=some (V.int b):=rfl;push_cast [hm2];refine⟨aK δ,fun p2 hp2=>?_⟩;have s4:=au (o:=HO.lst [V.int b,V.int (b+1)]) hp2;have er4:=s4 _ _ er3;generalize upd H3 p2 (HO.lst [V.int b,V.int (b+1)])=H4 at s4 er4 |-;push_cast [er4];refine⟨aK (by rw[length_map];omega),fun p3 hp3=>?_⟩;have s24:=(s2.trans s3).trans s4;obtain⟨f1,f2,f3⟩:=fin (ns++[b,b+1]) (fun m h=>mem_append_left _ h) (fun m h=>mem_append_right _ (h.elim (fun z=>by rw[z];exact .head _) fun z=>by rw[z];exact .tail _ (.head _))) (by rw[length_append];simp);rw[hPv];exact⟨p3,_,_,_,s24.trans (au hp3),s24.none hp3,by rw[aB,map_append];rfl,f1,f2,f3,rfl⟩
   | rng b b' t=>
    push_cast [e,cu,rdW];refine⟨aK δ,fun p1 hp1=>⟨δ,δ,?_⟩⟩;rw[if_pos δ];have s3:=au (o:=HO.tup [V.str (Str.ofString "is"),V.str (Str.ofString "within")]) hp1;have e3:=s3 _ _ e;have er3:=s3 _ _ er;generalize upd H2 p1 (HO.tup [V.str (Str.ofString "is"),V.str (Str.ofString "within")])=H3 at s3 e3 er3 |-;push_cast [e3,cu,rdW];have hm2:atI [V.str (Str.ofString "within"),V.int b,V.int b',V.int t] (-2)=some (V.int b'):=rfl;push_cast [hm2];refine⟨aK δ,fun p2 hp2=>?_⟩;have s4:=au (o:=HO.lst [V.int b,V.int (b'+1)]) hp2;have er4:=s4 _ _ er3;generalize upd H3 p2 (HO.lst [V.int b,V.int (b'+1)])=H4 at s4 er4 |-;push_cast [er4];refine⟨aK (by rw[length_map];omega),fun p3 hp3=>?_⟩;have s24:=(s2.trans s3).trans s4;obtain⟨f1,f2,f3⟩:=fin (ns++[b,b'+1]) (fun m h=>mem_append_left _ h) (fun m h=>mem_append_right _ (h.elim (fun z=>by rw[z];exact .head _) fun z=>by rw[z];exact .tail _ (.head _))) (by rw[length_append];simp);rw[hPv];exact⟨p3,_,_,_,s24.trans (au hp3),s24.none hp3,by rw[aB,map_append];rfl,f1,f2,f3,rfl⟩
   | low b t=>
    push_cast [e,cu,rdW];refine⟨aK δ,fun p1 hp1=>⟨δ,δ,?_⟩⟩;rw[if_neg δ];have s3:=au (o:=HO.tup [V.str (Str.ofString "is"),V.str (Str.ofString "within")]) hp1;have e3:=s3 _ _ e;have er3:=s3 _ _ er;generalize upd H2 p1 (HO.tup [V.str (Str.ofString "is"),V.str (Str.ofString "within")])=H3 at s3 e3 er3 |-;push_cast [e3,cu,rdW,er3];refine⟨lt_of_le_of_lt (show(ns.map V.int).length<=5000 by rw[length_map];omega) δ,?_⟩;obtain⟨f1,f2,f3⟩:=fin (ns++[b]) (fun m h=>mem_append_left _ h) (fun m h=>mem_append_right _ (by cases h;exact .head _)) (by rw[length_append];simp);rw[hPv];exact⟨r,_,_,_,jQ (s2.trans s3) hr0',hr0',by rw[aB,map_append];rfl,f1,f2,f3,rfl⟩
   | pik b=>
    push_cast [e,cu,rdW];refine⟨aK δ,fun p1 hp1=>⟨δ,δ,?_⟩⟩;rw[if_neg δ];have s3:=au (o:=HO.tup [V.str (Str.ofString "is"),V.str (Str.ofString "within")]) hp1;have e3:=s3 _ _ e;have er3:=s3 _ _ er;generalize upd H2 p1 (HO.tup [V.str (Str.ofString "is"),V.str (Str.ofString "within")])=H3 at s3 e3 er3 |-;push_cast [e3,cu,rdW];obtain⟨f1,f2,f3⟩:=fin ns (fun m h=>h) (fun m h=>h.elim) ω;rw[hPv];exact⟨r,_,_,_,s2.trans s3,hr0',er3,f1,f2,f3,rfl⟩
   | msk b wd bits t=>
    push_cast [e,cu,rdW];refine⟨aK δ,fun p1 hp1=>⟨δ,δ,?_⟩⟩;rw[if_neg δ];have s3:=au (o:=HO.tup [V.str (Str.ofString "is"),V.str (Str.ofString "within")]) hp1;have e3:=s3 _ _ e;have er3:=s3 _ _ er;generalize upd H2 p1 (HO.tup [V.str (Str.ofString "is"),V.str (Str.ofString "within")])=H3 at s3 e3 er3 |-;push_cast [e3,cu,rdW];have w1:1<=wd/\wd<=64:=by have:=rows.2 i _ hc;exact⟨this.2.1,this.2.2.1⟩
    have w2:-(2^61)<=b/\b<2^61:=ht9 _ hin;rw[show(b+wd+1-b).toNat=(wd+1).toNat by omega];refine⟨⟨ω,ω,ω,ω⟩,aK ω,fun p2 hp2=>?_⟩;rw[Ca];have s4:=au (o:=HO.lst ((n6 b (wd+1).toNat).map V.int)) hp2;have er4:=s4 _ _ er3;generalize upd H3 p2 (HO.lst ((n6 b (wd+1).toNat).map V.int))=H4 at s4 er4 |-;have rl:=lZ b (wd+1).toNat;push_cast [er4];refine⟨aK (by rw[length_map,length_map];omega),fun p3 hp3=>?_⟩;have s24:=(s2.trans s3).trans s4;obtain⟨f1,f2,f3⟩:=fin (ns++n6 b (wd+1).toNat) (fun m h=>mem_append_left _ h) (fun m h=>mem_append_right _ (lY h.1 (by have:=h.2;omega))) (by rw[length_append];omega);rw[hPv];exact⟨p3,_,_,_,s24.trans (au hp3),s24.none hp3,by rw[aB,map_append],f1,f2,f3,rfl⟩
   | tab b gs=>
    have eg:=eg _ _ rfl;push_cast [e,cu,rdW];refine⟨aK δ,fun p1 hp1=>⟨δ,δ,?_⟩⟩;rw[if_neg δ];have s3:=au (o:=HO.tup [V.str (Str.ofString "is"),V.str (Str.ofString "within")]) hp1;have e3:=s3 _ _ e;have er3:=s3 _ _ er;generalize upd H2 p1 (HO.tup [V.str (Str.ofString "is"),V.str (Str.ofString "within")])=H3 at s3 e3 er3 |-;have eg3:=s3 _ _ eg;push_cast [e3,cu,rdW,eg3];have w2:-(2^61)<=b/\b<2^61/\gs.length<=200:=ht9 _ hin;rw[length_map];rw[show(b+(gs.length:Int)+1-b).toNat=((gs.length:Int)+1).toNat by omega];refine⟨⟨ω,ω,ω,ω⟩,aK ω,fun p2 hp2=>?_⟩;rw[Ca];have s4:=au (o:=HO.lst ((n6 b ((gs.length:Int)+1).toNat).map V.int)) hp2;have er4:=s4 _ _ er3;generalize upd H3 p2 (HO.lst ((n6 b ((gs.length:Int)+1).toNat).map V.int))=H4 at s4 er4 |-;have rl:=lZ b ((gs.length:Int)+1).toNat;push_cast [er4];refine⟨aK (by rw[length_map,length_map];omega),fun p3 hp3=>?_⟩;have s24:=(s2.trans s3).trans s4;obtain⟨f1,f2,f3⟩:=fin (ns++n6 b ((gs.length:Int)+1).toNat) (fun m h=>mem_append_left _ h) (fun m h=>mem_append_right _ (lY h.1 (by have:=h.2;omega))) (by rw[length_append];omega);rw[hPv];exact⟨p3,_,_,_,s24.trans (au hp3),s24.none hp3,by rw[aB,map_append],f1,f2,f3,rfl⟩
  intro σ H2 pv;rw[hPv] at pv;obtain⟨r,ns,o4,o5,s2,hr0',er,hlo,hnl,hct,rfl⟩:=pv;subst hk;rw[hxl,take_length] at hct;push_cast [Ws];refine gR fun R2 hR2=>?_;push_cast [er];obtain⟨Pc,hPc⟩:∃Pv:Nat->List V->L2.St->Hp->Prop,Pv=fun(i:Nat) acc τ H'=>∃(us:List Int)(o1:Option V),Same H2 H'/\acc=us.map V.int/\us=(ns.take i).filter (fun b=>decide (low<=b)&&decide (b<=high))/\τ=[o1,some (.int low),some (.int high)]:=⟨_,rfl⟩;refine rK hR2 (xs:=ns.map V.int) (aK (by rw[length_map];omega)) Pc (by rw[hPc];exact⟨[],none,Same.refl _,rfl,rfl,rfl⟩) ?_ ?_ ?_ ?_
  ·intro i9 acc τ H10 pc;rw[hPc] at pc;obtain⟨us,o1,_,rfl,hus,rfl⟩:=pc;rw[length_map,hus];exact le_trans (length_filter_le _ _) (length_take_le _ _)
  ·intro i9 acc τ H10 pc;rw[hPc] at pc;obtain⟨us,o1,s10,rfl,hus,rfl⟩:=pc;exact SqL.of (s10 _ _ er)
  ·intro i9 x acc τ H10 hx pc;rw[hPc] at pc;obtain⟨us,o1,s10,rfl,hus,rfl⟩:=pc;rw[getElem?_map] at hx;obtain⟨n,hn,rfl⟩:=map_eq_some_iff.mp hx;have hst:(ns.take (i9+1)).filter (fun b=>decide (low<=b)&&decide (b<=high))=us++if low<=n/\n<=high then [n] else []:=by
    rw[List.take_add_one,hn,filter_append,<- hus];congr 1;by_cases c:low<=n <;> by_cases c2:n<=high <;> simp [c,c2]
   push_cast;rw[hPc];by_cases c1:low<=n
   ·rw[if_pos c1];by_cases c2:n<=high
    ·rw[if_pos c2];rw[if_pos ⟨c1,c2⟩] at hst;exact⟨us++[n],_,s10,by rw[map_append];rfl,hst.symm,rfl⟩
    rw[if_neg c2];rw[if_neg fun z=>c2 z.2,append_nil] at hst;exact⟨us,_,s10,rfl,hst.symm,rfl⟩
   rw[if_neg c1];rw[if_neg fun z=>c1 z.1,append_nil] at hst;exact⟨us,_,s10,rfl,hst.symm,rfl⟩
  intro acc τ H10 d pc hd;rw[hPc] at pc;obtain⟨us,o1,s10,rfl,hus,rfl⟩:=pc;rw[length_map,take_length] at hus;have hul:us.length<=ns.length:=by rw[hus];exact length_filter_le _ _
  push_cast;refine⟨us,SqL.of aB,ω,fun pR ys hpR hperm hup=>?_⟩;have sF:=s2.trans (s10.trans (au (o:=HO.lst (us.map V.int)) hd));have hle:=hperm.length_eq;have:=SRT.Io us;exact q pR ys _ (sF.trans (au hpR)) (sF.none hpR) aB (Cuts.of hlh hlo hct hus hperm hup) ω
noncomputable abbrev iI:List Str:=["_law_tape_here","_law_many","_law_rows_here","_law_at","_law_goal","_law_n","_law_way","_law_low","_law_wide","_law_bits"]
noncomputable abbrev dO:Stmt:=top 19
theorem ig:bB iI q1_ (ak dO):=⟨rfl,rfl,rfl,ψ,rfl,ψ,ψ⟩
theorem dW:NM_ iI dO 0 "_law_tape_here" := .of ψ
theorem CK:NM_ iI dO 1 "_law_many" := .of ψ
theorem iz:NM_ iI dO 2 "_law_rows_here" := .of ψ
theorem uV:NM_ iI dO 3 "_law_at" := .of ψ
theorem qg:NM_ iI dO 4 "_law_goal" := .of ψ
theorem jW:NM_ iI dO 5 "_law_n" := .of ψ
theorem jV:NM_ iI dO 6 "_law_way" := .of ψ
theorem qe:NM_ iI dO 7 "_law_low" := .of ψ
theorem mL:NM_ iI dO 8 "_law_wide" := .of ψ
theorem CJ:NM_ iI dO 9 "_law_bits" := .of ψ
theorem bQ:GI_ dO "_law_take" := by decide +kernel
theorem qm:GI_ dO "range" := by decide +kernel
theorem Av:GI_ dO "tuple" := by decide +kernel
theorem IW:Bn "_law_rows" := ⟨ψ,ψ⟩
theorem Uj (hB:∀x:Str,x∈BLs->mg x=none) (CZTake:Cal P w K mg base "_law_take" 2 q1_ (oW 2)) (F:Fun K "_law_rows" "_law_rows" dO f fd):dF P w K mg base CX0 3 f fd q1_ zf:=by
 refine F.okq ig (fun vs H Q E h=>?_) (fun cdv A outer s H vs Q E hr h=>?_)
 ·obtain⟨p,m,B,rfl,_⟩:=h;rfl
 obtain⟨p,m,B,rfl,tp,hB0,hB1,hm1,hm2,q⟩:=h;refine⟨_,(aD (bU iz ig.nd (cD aA) rfl (.inl rfl))
  (aD (fJ PassesOwn.never rfl (gM qm (hB "range" fj) (aj (aL eO (ao CK) aq) aA rfl) rfl) (bV uV ig.nd (.inl rfl))
  (aD (Nu (i:=4) (j:=5) rfl ig.nd rfl rfl δ rfl rfl (aj (aL aU (aL aU (ao uV) aq) (bw CZTake (hr.mono δ) bQ bR (aj (ao dW) (aj (aL eO (aL eO (ao CK) (ao uV)) aq) aA rfl) rfl) rfl rfl)) (aj (aL eO (bw CZTake (hr.mono δ) bQ bR (aj (ao dW) (aj aq aA rfl) rfl) rfl rfl) aq) aA rfl) rfl) (by rfl))
  (aD (bU jV ig.nd (bw CZTake (hr.mono δ) bQ bR (aj (ao dW) (aj aq aA rfl) rfl) rfl rfl) rfl (.inl rfl))
  (aG (bH (aQ (b7 hr.bA) (ao jV) aq (aP _)) (aG (cB (cJ (ao iz) (aY (aj bG (aj (ao jW) (aj (ao qg) aA rfl) rfl) rfl)) rfl rfl rfl rfl rfl) rfl)) (aG (bH (aQ mD (ao jV) aq (aP _)) (aG (cB (cJ (ao iz) (aY (aj bG (aj (ao jW) (aj (aL aU (ao jW) (bw CZTake (hr.mono δ) bQ bR (aj (ao dW) (aj aq aA rfl) rfl) rfl rfl)) (aj (ao qg) aA rfl) rfl) rfl) rfl)) rfl rfl rfl rfl rfl) rfl)) (aG (bH (aQ mD (ao jV) aq (aP _)) (aG (cB (cJ (ao iz) (aY (aj bG (aj (ao jW) (aj (ao qg) aA rfl) rfl) rfl)) rfl rfl rfl rfl rfl) rfl)) (aG (bH (aQ mD (ao jV) aq (aP _)) (aD (fK (aJ aR (cD (aj (aY (aj (aL eO (ao jW) aq) (aj (aL aU aq (bw CZTake (hr.mono δ) bQ bR (aj (ao dW) (aj aq aA rfl) rfl) rfl rfl)) aA rfl) rfl)) (aj (aY (aj (eZ cN aq) (aj aq aA rfl) rfl)) aA rfl) rfl)) (aL p8 (bw CZTake (hr.mono δ) bQ bR (aj (ao dW) (aj aq aA rfl) rfl) rfl rfl) aq) (fun _ _=>rfl)) (eN (n:=2) rfl (aV (bV qe ig.nd (.inl rfl)) (aV (bV mL ig.nd (.inl rfl)) cQ rfl) rfl) rfl rfl) rfl rfl rfl)
  (aD (bU CJ ig.nd (bw CZTake (hr.mono δ) bQ bR (aj (ao dW) (aj (aL Xv aq (ao mL)) aA rfl) rfl) rfl rfl) rfl (.inl rfl))
  (aG (cB (cJ (ao iz) (aY (aj bG (aj (ao qe) (aj (ao mL) (aj (ao CJ) (aj (ao qg) aA rfl) rfl) rfl) rfl) rfl)) rfl rfl rfl rfl rfl) rfl)))) (aG (bH (aQ (b7 hr.bA) (ao jV) aq (aP _)) (aD (fK (aJ aR (cD (aj (aY (aj (aL eO (ao jW) aq) (aj (aL aU aq (bw CZTake (hr.mono δ) bQ bR (aj (ao dW) (aj aq aA rfl) rfl) rfl rfl)) aA rfl) rfl)) (aj (aY (aj (eZ cN aq) (aj aq aA rfl) rfl)) (aj (aY (aj (eZ cN aq) (aj aq aA rfl) rfl)) aA rfl) rfl) rfl)) (aL p8 (bw CZTake (hr.mono δ) bQ bR (aj (ao dW) (aj aq aA rfl) rfl) rfl rfl) aq) (fun _ _=>rfl)) (eN (n:=2) rfl (aV (bV qe ig.nd (.inl rfl)) (aV (bV mL ig.nd (.inl rfl)) cQ rfl) rfl) rfl rfl) rfl rfl rfl)
  (aG (cB (cJ (ao iz) (aY (aj bG (aj (ao qe) (aj (V6 wX Av (hB "tuple" qj) boot_tuple qH (aj (kJ (NX:=iI) (kX:=(ak dO).names) ["_law_k","_law_at","_law_tape_here","_law_many"] [none,some 3,some 0,some 1] rfl rfl ⟨rfl,ψ,ψ,ψ,ψ⟩ rfl (gM qm (hB "range" fj) (aj (ao mL) aA rfl) rfl) (fun _ _ _ _ _=>(cZ 0 (show List.Nodup (["_law_k","_law_at","_law_tape_here","_law_many"]:List Str) from by decide +kernel) rfl (Or.inl rfl))) (fun _ _ _ _ _=>mj) (fun _ _ _ _ _=>(aL aU (aL aU (cO 1) aq) (bw CZTake (hr.mono δ) rfl bR (aj (cO 2) (aj (aL eO (aL eO (cO 3) (cO 1)) aq) aA rfl) rfl) rfl rfl)))) aA rfl) rfl rfl) aA rfl) rfl) rfl)) rfl rfl rfl rfl rfl) rfl))) (aG (cB (cJ (ao iz) (aY (aj bG (aj (bw CZTake (hr.mono δ) bQ bR (aj (ao dW) (aj aq aA rfl) rfl) rfl rfl) aA rfl) rfl)) rfl rfl rfl rfl rfl) rfl)))))))))))))) (fun _=>rfl))
  (aG (aW (aL aU (ao iz) (cD (aj (aY (aj bG (aj (bw CZTake (hr.mono δ) bQ bR (aj (ao dW) (aj aq aA rfl) rfl) rfl rfl) aA rfl) rfl)) aA rfl))))))),?_⟩
 refine aO fun k hk=>?_;push_cast;refine⟨aK δ,fun l hl=>?_⟩;have hlp:l≠p:=tp.ne hl;have s6:=au (o:=HO.lst []) hl;have tp6:=tp.same s6;have e6:upd H l (HO.lst []) l=_:=aB;generalize upd H l (HO.lst [])=H6 at s6 tp6 e6 |-;subst hk;obtain⟨OD,hOD⟩:∃OD:Addr->Prop,OD=fun a=>a≠p/\a≠l:=⟨_,rfl⟩;have kd:∀{H H':Hp},cF p H H'->∀a o,OD a->H a=some o->OD a/\H' a=some o:=fun {H H'} sx a o h e=>by
  refine⟨h,sx a o ?_ e⟩;rw[hOD] at h;exact h.1
 refine aO fun k hk=>?_;refine jr fun R hR=>?_;push_cast [oN];refine⟨ω,ω,?_⟩;obtain⟨Pv,hPv⟩:∃Pv:Nat->L2.St->Hp->Prop,Pv=fun(i:Nat) σ H'=>∃(xs:List V)(rs:List m9)(o3 o4 o5 o6 o7 o8 o9:Option V),cF p H H'/\bT H' p (B+2+500*(i:Int))/\H' l=some (.lst xs)/\aM OD H' xs (rs.map wI)/\rs.length=i/\(∀r,r∈rs->lG r)/\(∀(j:Nat) r,rs[j]?=some r->iM m j r) /\
  σ=[some (.ref p),some (.int m),some (.ref l),o3,o4,o5,o6,o7,o8,o9]:=⟨_,rfl⟩
 refine yJ hR Pv (by rw[hPv];exact⟨[],[],_,_,_,_,_,_,_,s6.x,tp6.le (by show B<=B+2+500*((0:Nat):Int);omega),e6,.nil,rfl,fun r h=>(by cases h),fun j r h=>(by cases h),rfl⟩) ?_ ?_
 ·intro i σ H7 hi pv;rw[hPv] at pv;obtain⟨xs,rs,o3,o4,o5,o6,o7,o8,o9,sx7,tp7,e7,ts7,hrl,nrs,rok,rfl⟩:=pv;have hi20:(i:Int)<m-1:=ω;have hx:B+2+500*(i:Int)<=1000000:=ω;refine aO fun k2 hk2=>?_;push_cast;refine⟨p,m-(0+(i:Int))-1,B+2+500*(i:Int),rfl,tp7,tk1 hx,ω,ω,δ,fun z=>absurd z ω,fun g8 H8 g80 g81 s8 tp8=>?_⟩;push_cast;refine⟨p,24,B+2+500*(i:Int)+2,rfl,tp8,tk2 hx,δ,δ,δ,fun z=>absurd z δ,fun n9 H9 n90 n91 s9 tp9=>?_⟩;push_cast;subst hk2;refine aO fun k2 hk2=>?_;push_cast;refine⟨p,9,B+2+500*(i:Int)+2+2,rfl,tp9,tk3 hx,δ,δ,δ,fun z=>absurd z δ,fun way H10 way0 way1 s10 tp10=>?_⟩;push_cast;have s710:=(s8.trans s9).trans s10;have e10:=s710 _ _ hlp e7;have ts10:=ts7.keep (kd s710);have sx10:=sx7.trans s710;have hgoal:btw (i:Int) m (0+(i:Int)+1+g8)=true:=by rw[Int.zero_add];exact DG g80 ω
  have bgoal:(0+(i:Int)+1+g8).natAbs<=2^64:=ω;generalize 0+(i:Int)+1+g8=goal at hgoal bgoal |-;have bn:-4<=n9-4/\n9-4<20:=ω;generalize n9-4=n at bn |-;have fin:∀(t:Addr)(r:m9)(H16:Hp)(o7 o8 o9:Option V),cF p H H16->H16 l=some (.lst xs)->aM OD H16 xs (rs.map wI)->aN OD H16 (.ref t) (wI r)->bT H16 p (B+2+500*(i:Int)+490)->iM m i r->lG r ->
    apq (H16 l) l (.ref t) H16 fun _ H1=>Pv (i+1) [some (.ref p),some (.int m),some (.ref l),some (.int (0+(i:Int))),some (.int goal),some (.int n),some (.int way),o7,o8,o9] H1:=by
   intro t r H16 o7 o8 o9 sx16 e16 ts16 tt tp16 rk nk;have hxl:=ts16.length;rw[length_map] at hxl;rw[e16,Bl];refine⟨lt_of_lt_of_le (show xs.length<1000 by omega) (aK δ),?_⟩;have sx18:cF p H (upd H16 l (HO.lst (xs++[V.ref t]))):=xM sx16 hl;have tp18:bT (upd H16 l (HO.lst (xs++[V.ref t]))) p (B+2+500*(i:Int)+490):=tp16.upd hlp;have e18:upd H16 l (HO.lst (xs++[V.ref t])) l=_:=aB;have kk:∀a o,OD a->H16 a=some o->OD a/\upd H16 l (HO.lst (xs++[V.ref t])) a=some o:=fun a o h e=>by
    refine⟨h,?_⟩;rw[hOD] at h;rw[aH h.2];exact e
   have ts18:=(ts16.keep kk).append (.cons (tt.keep kk) .nil);rw[hPv];exact⟨_,rs++[r],_,_,_,_,_,_,_,sx18,tp18.le (Zt _ i),e18,by rw[map_append];exact ts18,by rw[length_append,length_singleton,hrl],yc nrs nk,xP rok (by rw[hrl];exact rk),rfl⟩
  have new:∀{H16:Hp}{t:Addr}{B':Int},bT H16 p B'->H16 l=some (.lst xs)->H16 t=none->OD t:=fun tp e ht=>by
   rw[hOD];exact⟨tp.ne ht,(aF e ht).symm⟩
  subst hk2;refine jA fun kt ke hkt hke=>?_;push_cast;by_cases c0:way=0
  ·rw[if_pos c0];subst hkt;push_cast [e10];refine⟨aK δ,fun t ht=>?_⟩;have s11:=au (o:=HO.tup [V.str "is",V.int n,V.int goal]) ht;exact fin t (.ins "is" [n,goal]) _ _ _ _ (sx10.trans s11.x) (s11 _ _ e10) (ts10.same s11) (.tup (new tp10 e10 ht) aB (by show 3<=1000000;decide) (.cons (.str _) (.cons (.int _) (.cons (.int _) .nil)))) ((tp10.same s11).le tu3) (V9 ω bgoal hgoal).1 (nG ω)
  rw[if_neg c0];subst hke;refine jA fun kt ke hkt hke=>?_;push_cast;by_cases c1:way<3
  ·rw[if_pos c1];subst hkt;push_cast [e10];refine⟨p,8,B+2+500*(i:Int)+2+2+2,rfl,tp10,tk4 hx,δ,δ,δ,fun z=>absurd z δ,fun u H11 u0 u1 s11 tp11=>?_⟩;push_cast;refine⟨aK δ,fun t ht=>?_⟩;have e11:=s11 _ _ hlp e10;have ts11:=ts10.keep (kd s11);have s12:=au (o:=HO.tup [V.str "within",V.int n,V.int (n+u),V.int goal]) ht;exact fin t (.ins "within" [n,n+u,goal]) _ _ _ _ ((sx10.trans s11).trans s12.x) (s12 _ _ e11) (ts11.same s12) (.tup (new tp11 e11 ht) aB (by show 4<=1000000;decide) (.cons (.str _) (.cons (.int _) (.cons (.int _) (.cons (.int _) .nil))))) ((tp11.same s12).le tu4) (JL ω ω ω bgoal hgoal) (nG ω)
  rw[if_neg c1];subst hke;refine jA fun kt ke hkt hke=>?_;push_cast;by_cases c2:way<5
  ·rw[if_pos c2];subst hkt;push_cast [e10];refine⟨aK δ,fun t ht=>?_⟩;have s11:=au (o:=HO.tup [V.str "below",V.int n,V.int goal]) ht;exact fin t (.ins "below" [n,goal]) _ _ _ _ (sx10.trans s11.x) (s11 _ _ e10) (ts10.same s11) (.tup (new tp10 e10 ht) aB (by show 3<=1000000;decide) (.cons (.str _) (.cons (.int _) (.cons (.int _) .nil)))) ((tp10.same s11).le tu3) (V9 ω bgoal hgoal).2 (nG ω)
  rw[if_neg c2];subst hke;refine jA fun kt ke hkt hke=>?_;push_cast;by_cases c3:way<7
  ·rw[if_pos c3];subst hkt;push_cast;refine⟨p,12,B+2+500*(i:Int)+2+2+2,rfl,tp10,tk4 hx,δ,δ,δ,fun z=>absurd z δ,fun u H11 u0 u1 s11 tp11=>?_⟩;push_cast;refine⟨aK δ,fun t1 ht1=>⟨aK δ,fun t2 ht2=>⟨aK δ,fun t3 ht3=>?_⟩⟩⟩;have e11:=s11 _ _ hlp e10;have ts11:=ts10.keep (kd s11);have v1:=au (o:=HO.tup [V.int (n-3),V.int (1+u)]) ht1;have v2:=au (o:=HO.tup [V.int (-20),V.int 64]) ht2;have v3:=au (o:=HO.lst [V.ref t1,V.ref t2]) ht3;have f1:=(v2.trans v3) _ _ (show upd H11 t1 (HO.tup [V.int (n-3),V.int (1+u)]) t1=_ from aB);have f2:=v3 _ _ (show upd (upd H11 t1 (HO.tup [V.int (n-3),V.int (1+u)])) t2 (HO.tup [V.int (-20),V.int 64]) t2=_ from aB);have f3:upd (upd (upd H11 t1 (HO.tup [V.int (n-3),V.int (1+u)])) t2 (HO.tup [V.int (-20),V.int 64])) t3 (HO.lst [V.ref t1,V.ref t2]) t3=_:=aB;have v:=(v1.trans v2).trans v3;have n1:=tp11.ne ht1;have n2:=(tp11.same v1).ne ht2;have n3:=(tp11.same (v1.trans v2)).ne ht3;have tp12:=tp11.same v;have e12:=v _ _ e11;have ts12:=ts11.same v;generalize upd (upd (upd H11 t1 (HO.tup [V.int (n-3),V.int (1+u)])) t2 (HO.tup [V.int (-20),V.int 64])) t3 (HO.lst [V.ref t1,V.ref t2])=H12 at v3 f1 f2 f3 v tp12 e12 ts12 |-;refine⟨p,4,B+2+500*(i:Int)+2+2+2+2,rfl,tp12,tk5 hx,δ,δ,δ,fun z=>absurd z δ,fun u4 H13 u40 u41 s13 tp13=>?_⟩;have f1:=s13 _ _ n1 f1;have f2:=s13 _ _ n2 f2;have f3:=s13 _ _ n3 f3;have e13:=s13 _ _ hlp e12;have ts13:=ts12.keep (kd s13);have sx13:=((sx10.trans s11).trans v.x).trans s13;obtain⟨tk,lo,wd,hat,etk,blo,bwd⟩:∃(tk:Addr)(lo wd:Int),atI [V.ref t1,V.ref t2] (u4/2)=some (V.ref tk)/\H13 tk=some (.tup [V.int lo,V.int wd])/\lo.natAbs<=100/\(1<=wd/\wd<=64):=by
    have:u4/2=0\/u4/2=1:=by omega
    rcases this with z|z
    ·rw[z];exact⟨t1,n-3,1+u,rfl,f1,ω,ω⟩
    rw[z];exact⟨t2,-20,64,rfl,f2,δ,δ⟩
   push_cast [f3,hat,etk,Int.one_mul];have pw1:=two_pow_pos wd.toNat;have pw2:=xU (k:=wd.toNat) ω;refine⟨⟨δ,δ⟩,⟨ω,ω,δ⟩,p,2^wd.toNat,B+2+500*(i:Int)+2+2+2+2+2,rfl,tp13,tk6 hx,pw1,ω,δ,fun _=>by decide,fun bits H14 bits0 bits1 s14 tp14=>?_⟩;have e14:=s14 _ _ hlp e13;have ts14:=ts13.keep (kd s14);push_cast [e14];refine⟨aK δ,fun t ht=>?_⟩;have s15:=au (o:=HO.tup [V.str "mask",V.int lo,V.int wd,V.int bits,V.int goal]) ht;exact fin t (.ins "mask" [lo,wd,bits,goal]) _ _ _ _ ((sx13.trans s14).trans s15.x) (s15 _ _ e14) (ts14.same s15) (.tup (new tp14 e14 ht) aB (by show 5<=1000000;decide) (.cons (.str _) (.cons (.int _) (.cons (.int _) (.cons (.int _) (.cons (.int _) .nil)))))) ((tp14.same s15).le tu6) (Uk bwd ⟨bits0,bits1⟩ ω bgoal hgoal) (nG ω)
  rw[if_neg c3];subst hke;refine jA fun kt ke hkt hke=>?_;push_cast;by_cases c4:way=7
  ·rw[if_pos c4];subst hkt;push_cast;refine⟨p,12,B+2+500*(i:Int)+2+2+2,rfl,tp10,tk4 hx,δ,δ,δ,fun z=>absurd z δ,fun u H11 u0 u1 s11 tp11=>?_⟩;push_cast;refine⟨aK δ,fun t1 ht1=>⟨aK δ,fun t2 ht2=>⟨aK δ,fun t4 ht4=>⟨aK δ,fun t3 ht3=>?_⟩⟩⟩⟩;have e11:=s11 _ _ hlp e10;have ts11:=ts10.keep (kd s11);have v1:=au (o:=HO.tup [V.int (n-3),V.int (1+u)]) ht1;have v2:=au (o:=HO.tup [V.int (-20),V.int 64]) ht2;have v4:=au (o:=HO.tup [V.int (-100),V.int 200]) ht4;have v3:=au (o:=HO.lst [V.ref t1,V.ref t2,V.ref t4]) ht3;have f1:=((v2.trans v4).trans v3) _ _ (show upd H11 t1 (HO.tup [V.int (n-3),V.int (1+u)]) t1=_ from aB);have f2:=(v4.trans v3) _ _ (show upd (upd H11 t1 (HO.tup [V.int (n-3),V.int (1+u)])) t2 (HO.tup [V.int (-20),V.int 64]) t2=_ from aB);have f4:=v3 _ _ (show upd (upd (upd H11 t1 (HO.tup [V.int (n-3),V.int (1+u)])) t2 (HO.tup [V.int (-20),V.int 64])) t4 (HO.tup [V.int (-100),V.int 200]) t4=_ from aB);have f3:upd (upd (upd (upd H11 t1 (HO.tup [V.int (n-3),V.int (1+u)])) t2 (HO.tup [V.int (-20),V.int 64])) t4 (HO.tup [V.int (-100),V.int 200])) t3 (HO.lst [V.ref t1,V.ref t2,V.ref t4]) t3=_:=aB;have v:=((v1.trans v2).trans v4).trans v3;have n1:=tp11.ne ht1;have n2:=(tp11.same v1).ne ht2;have n4:=(tp11.same (v1.trans v2)).ne ht4;have n3:=(tp11.same ((v1.trans v2).trans v4)).ne ht3;have tp12:=tp11.same v;have e12:=v _ _ e11;have ts12:=ts11.same v;generalize upd (upd (upd (upd H11 t1 (HO.tup [V.int (n-3),V.int (1+u)])) t2 (HO.tup [V.int (-20),V.int 64])) t4 (HO.tup [V.int (-100),V.int 200])) t3 (HO.lst [V.ref t1,V.ref t2,V.ref t4])=H12 at v3 f1 f2 f4 f3 v tp12 e12 ts12 |-;refine⟨p,6,B+2+500*(i:Int)+2+2+2+2,rfl,tp12,tk5 hx,δ,δ,δ,fun z=>absurd z δ,fun u4 H13 u40 u41 s13 tp13=>?_⟩;have f1:=s13 _ _ n1 f1;have f2:=s13 _ _ n2 f2;have f4:=s13 _ _ n4 f4;have f3:=s13 _ _ n3 f3;have e13:=s13 _ _ hlp e12;have ts13:=ts12.keep (kd s13);have sx13:=((sx10.trans s11).trans v.x).trans s13;obtain⟨tk,lo,wd,hat,etk,blo,bwd⟩:∃(tk:Addr)(lo wd:Int),atI [V.ref t1,V.ref t2,V.ref t4] (u4/2)=some (V.ref tk)/\H13 tk=some (.tup [V.int lo,V.int wd])/\lo.natAbs<=100/\(1<=wd/\wd<=200):=by
    have:u4/2=0\/u4/2=1\/u4/2=2:=by omega
    rcases this with z|z|z
    ·rw[z];exact⟨t1,n-3,1+u,rfl,f1,ω,ω⟩
    ·rw[z];exact⟨t2,-20,64,rfl,f2,δ,δ⟩
    rw[z];exact⟨t4,-100,200,rfl,f4,δ,δ⟩
   push_cast [f3,hat,etk,e13];refine⟨⟨δ,δ⟩,?_⟩;refine gR fun R2 hR2=>?_;push_cast [oN];refine⟨ω,ω,?_⟩;obtain⟨Pc,hPc⟩:∃Pv:Nat->List V->L2.St->Hp->Prop,Pv=fun(j:Nat) acc τ H'=>∃(gs:List Int)(o0:Option V),cF p H13 H'/\bT H' p (B+2+500*(i:Int)+10+2*(j:Int))/\acc=gs.map V.int/\gs.length=j/\gs.all (btw (i:Int) m)=true/\τ=[o0,some (V.int (0+(i:Int))),some (V.ref p),some (V.int m)]:=⟨_,rfl⟩;refine Gv hR2 (aK ω) Pc (by rw[hPc];exact⟨[],_,cF.refl _ _,tp13.le (Z7 _),rfl,rfl,rfl,rfl⟩) ?_ ?_ ?_
   ·intro j acc τ H14 pc;rw[hPc] at pc;obtain⟨gs,_,_,_,rfl,hg,_⟩:=pc;rw[length_map];omega
   ·intro j acc τ H14 hj pc;rw[hPc] at pc;obtain⟨gs,o0,s14,tp14,rfl,hgl,hga,rfl⟩:=pc;push_cast;refine⟨p,m-(0+(i:Int))-1,B+2+500*(i:Int)+10+2*(j:Int),rfl,tp14,by show B+2+500*(i:Int)+10+2*(j:Int)+2<=1000100;omega,ω,ω,δ,fun z=>absurd z ω,fun g H15 g0 g1 s15 tp15=>?_⟩;push_cast;rw[hPc];have hb:btw (i:Int) m (0+(i:Int)+1+g)=true:=by rw[Int.zero_add];exact DG g0 ω
    refine⟨gs++[0+(i:Int)+1+g],_,s14.trans s15,tp15.le (Z6 _ j),by rw[map_append];rfl,by rw[length_append,length_singleton,hgl],by rw[List.all_append,hga,all_cons,hb];rfl,rfl⟩
   intro acc τ H14 d14 pc hd14;rw[hPc] at pc;obtain⟨gs,o0,s14,tp14,rfl,hgl,hga,rfl⟩:=pc;have s15:=au (o:=HO.lst (gs.map V.int)) hd14;have e15:upd H14 d14 (HO.lst (gs.map V.int)) d14=_:=aB;have el:=s15 _ _ (s14 _ _ hlp e13);have ts15:=(ts13.keep (kd s14)).same s15;have tp15:=tp14.same s15;have sx15:=(sx13.trans s14).trans s15.x;generalize upd H14 d14 (HO.lst (gs.map V.int))=H15 at s15 e15 el ts15 tp15 sx15 |-;push_cast [e15];refine⟨gs.map V.int,.inl ⟨SqL.of e15,fun lt hlt=>⟨aK δ,fun t ht=>?_⟩⟩⟩;have w1:=au (o:=HO.tup (gs.map V.int)) hlt;have w2:=au (o:=HO.tup [V.str "table",V.int lo,V.ref lt]) ht;have g1:=w2 _ _ (show upd H15 lt (HO.tup (gs.map V.int)) lt=_ from aB);have w:=w1.trans w2;have okl:OD lt:=new tp15 el hlt;have okt:OD t:=new (tp15.same w1) (w1 _ _ el) ht;have glen:gs.length<=200:=ω;refine fin t (.tab lo gs) _ _ _ _ (sx15.trans w.x) (w _ _ el) (ts15.same w) (.tup okt aB (by show 3<=1000000;decide) (.cons (.str _) (.cons (.int _) (.cons (.tup okl g1 (by rw[length_map];omega) (xG gs)) .nil)))) ((tp15.same w).le ω) ⟨fun z=>?_,glen,hga,ω⟩ trivial;rw[z] at hgl;simp at hgl;omega
  rw[if_neg c4];subst hke;push_cast [e10];refine⟨p,5,B+2+500*(i:Int)+2+2+2,rfl,tp10,tk4 hx,δ,δ,δ,fun z=>absurd z δ,fun u H11 u0 u1 s11 tp11=>?_⟩;push_cast;refine⟨aK δ,fun t ht=>?_⟩;have e11:=s11 _ _ hlp e10;have ts11:=ts10.keep (kd s11);have s12:=au (o:=HO.tup [V.str "pick",V.int u]) ht;exact fin t (.ins "pick" [u]) _ _ _ _ ((sx10.trans s11).trans s12.x) (s12 _ _ e11) (ts11.same s12) (.tup (new tp11 e11 ht) aB (by show 2<=1000000;decide) (.cons (.str _) (.cons (.int _) .nil))) ((tp11.same s12).le tu4) (HJ u0 ω) (nG ω)
 intro σ H7 pv;rw[hPv] at pv;obtain⟨xs,rs,o3,o4,o5,o6,o7,o8,o9,sx7,tp7,e7,ts7,hrl,nrs,rok,rfl⟩:=pv;show k _ _;subst hk;have hxl:=ts7.length;rw[length_map] at hxl;push_cast;refine⟨p,5,B+2+500*(((m-1).toNat:Nat):Int),rfl,tp7,by show B+2+500*(((m-1).toNat:Nat):Int)+2<=1000100;omega,δ,δ,δ,fun z=>absurd z δ,fun u H8 u0 u1 s8 tp8=>?_⟩;have e8:=s8 _ _ hlp e7;have ts8:=ts7.keep (kd s8);push_cast;refine⟨aK δ,fun t ht=>⟨aK δ,fun l9 hl9=>?_⟩⟩;have v1:=au (o:=HO.tup [V.str "pick",V.int u]) ht;have v2:=au (o:=HO.lst [V.ref t]) hl9;have f1:=v2 _ _ (show upd H8 t (HO.tup [V.str "pick",V.int u]) t=_ from aB);have v:=v1.trans v2;have e9:=v _ _ e8;have ts9:=ts8.same v;have tp9:=tp8.same v;have sx9:=(sx7.trans s8).trans v.x;have okt:OD t:=by
  rw[hOD];exact⟨tp8.ne ht,(aF e8 ht).symm⟩
 push_cast [e9];generalize upd (upd H8 t (HO.tup [V.str "pick",V.int u])) l9 (HO.lst [V.ref t])=H9 at v2 f1 v e9 ts9 tp9 sx9 |-;refine⟨aK ω,fun l10 hl10=>?_⟩;have v3:=au (o:=HO.lst (xs++[V.ref t])) hl10;have tall:aM OD H9 (xs++[V.ref t]) ((rs++[m9.ins "pick" [u]]).map wI):=by
  rw[map_append];exact ts9.append (.cons (.tup okt f1 (by show 2<=1000000;decide) (.cons (.str _) (.cons (.int _) .nil))) .nil)
 refine q l10 (rs++[m9.ins "pick" [u]]) _ (sx9.trans v3.x) ((tp9.same v3).le ω) (.lst (tp9.ne hl10) aB (by rw[length_append,length_singleton];omega) ((tall.same v3).keep fun a o h e=>?_)) (by rw[length_append,length_singleton];omega) (xP rok (HJ u0 ω)) (yc nrs (nG ω));rw[hOD] at h;exact⟨h.1,e⟩
noncomputable abbrev iY:List Str:=["_law_tape_here","_law_many","_law_found","_law_times","_law_row"]
noncomputable abbrev dB:Stmt:=top 24
theorem je:bB iY q1_ (ak dB):=⟨rfl,rfl,rfl,ψ,rfl,ψ,ψ⟩
theorem su:NM_ iY dB 0 "_law_tape_here" := .of ψ
theorem CN:NM_ iY dB 1 "_law_many" := .of ψ
theorem rZ:NM_ iY dB 2 "_law_found" := .of ψ
theorem mO:NM_ iY dB 3 "_law_times" := .of ψ
theorem bL:NM_ iY dB 4 "_law_row" := .of ψ
theorem tG:GI_ dB "_law_rows" := by decide +kernel
theorem tE:GI_ dB "_law_take" := by decide +kernel
theorem GD:Bn "_law_far_rows" := ⟨ψ,ψ⟩
theorem Uo (hB:∀x:Str,x∈BLs->mg x=none) (CZRows:Cal P w K mg base "_law_rows" 3 q1_ zf) (CZTake:Cal P w K mg base "_law_take" 2 q1_ (oW 2)) (F:Fun K "_law_far_rows" "_law_far_rows" dB f fd):dF P w K mg base CX0 4 f fd q1_ Mi:=by
 refine F.okq je (fun vs H Q E h=>?_) (fun cdv A outer s H vs Q E hr h=>?_)
 ·obtain⟨p,m,B,rfl,_⟩:=h;rfl
 obtain⟨p,m,B,rfl,tp,hB0,hB1,hm1,hm2,q⟩:=h;refine⟨_,(aD (Nu (i:=2) (j:=3) rfl je.nd rfl rfl δ rfl rfl (aj (cD aA) (aj (aL uL aq aq) aA rfl) rfl) (by rfl))
  (aD (fJ PassesOwn.never rfl (fD (bw CZRows (hr.mono δ) tG IW (aj (ao su) (aj (ao CN) aA rfl) rfl) rfl rfl)) (bV bL je.nd (.inl rfl))
  (aD (bH (aQ Ol (aJ aR (ao bL) aq (fun _ _=>rfl)) (aY (aj bG (aj bG (aj bG (aj bG aA rfl) rfl) rfl) rfl)) (by with_unfolding_all rfl)) (aG (bU bL je.nd (aL Uc (aY (aj (aJ aR (ao bL) aq (fun _ _=>rfl)) (aj (aL eE (aJ aR (ao bL) aq (fun _ _=>rfl)) (ao mO)) aA rfl) rfl)) (Cp YQ (ao bL) (Hv aq) Hw)) rfl (.inl rfl))) (aG (bH (aQ (b7 hr.bA) (aJ aR (ao bL) aq (fun _ _=>rfl)) bG (aP _)) (aG (bU bL je.nd (aY (aj (aJ aR (ao bL) aq (fun _ _=>rfl)) (aj (aL eE (aJ aR (ao bL) aq (fun _ _=>rfl)) (ao mO)) (aj (aL aU (aL eE (aJ aR (ao bL) aq (fun _ _=>rfl)) (ao mO)) (bw CZTake (hr.mono δ) tE bR (aj (ao su) (aj aq aA rfl) rfl) rfl rfl)) (aj (aJ aR (ao bL) aq (fun _ _=>rfl)) aA rfl) rfl) rfl) rfl)) rfl (.inl rfl))) bK)))
  (aG (cB (cJ (ao rZ) (ao bL) rfl rfl rfl rfl rfl) rfl))) (fun _=>rfl))
  (aG (aW (ao rZ))))),?_⟩
 refine aO fun k hk=>?_;push_cast;refine⟨aK δ,fun l hl=>⟨⟨δ,δ,δ⟩,?_⟩⟩;have hlp:l≠p:=tp.ne hl;have s1:=au (o:=HO.lst []) hl;have tp1:=tp.same s1;have e1:upd H l (HO.lst []) l=_:=aB;generalize upd H l (HO.lst [])=H1 at s1 tp1 e1 |-;subst hk;refine aO fun k hk=>?_;refine jr fun R hR=>?_;push_cast;refine⟨p,m,B,rfl,tp1,hB0,hB1,hm1,ω,fun lr rs H2 s2 tp2 t2 hrl rok nrs=>?_⟩;obtain⟨cs,ecs,hcl,hrows,hrb,hsm,hnh⟩:=MN hrl hm1 rok nrs;rw[ecs] at t2;have e2:=s2 _ _ hlp e1;cases t2 with
 | lst o el zl tsl=>
  rename_i xs;have hxl:=tsl.length;rw[length_map] at hxl;have hlr:lr≠l:=fun z=>by
   rw[z,e2] at el;have:=HO.lst.inj (Option.some.inj el);rw[<- this] at hxl;have:=hrows.1;simp at hxl;omega
  push_cast [el];obtain⟨Pv,hPv⟩:∃Pv:Nat->L2.St->Hp->Prop,Pv=fun(i:Nat) σ H'=>∃(es:Nat->Int)(us:List V)(o4:Option V),cF p H H'/\bT H' p (B+20000+2*(i:Int))/\H' lr=some (.lst xs)/\aM (·≠p) H' xs (cs.map bJ)/\H' l=some (.lst us)/\aM (·≠p) H' us ((qy (10^9) es (cs.take i)).map bJ)/\(∀j,0<=es j) /\
   σ=[some (.ref p),some (.int m),some (.ref l),some (.int (10^Int.toNat 9)),o4]:=⟨_,rfl⟩
  refine yK (xs:=xs) hR Pv ?_ ?_ ?_ ?_
  ·rw[hPv];exact⟨fun _=>0,[],_,s1.x.trans s2,tp2.le ω,el,tsl,e2,.nil,fun _=>Int.le_refl _,rfl⟩
  ·intro i σ H' _ pv;rw[hPv] at pv;obtain⟨_,_,_,_,_,e,_⟩:=pv;exact SqL.of e
  ·intro i x σ H3 hx pv;rw[hPv] at pv;obtain⟨es,us,o4,s3,tp3,elr,ts3,el3,tu3,he0,rfl⟩:=pv;have li:i<cs.length:=by have:=(List.getElem?_eq_some_iff.mp hx).1;omega
   have hc:cs[i]?=some cs[i]:=getElem?_eq_getElem li;have hin:cs[i]∈cs:=getElem_mem li;obtain⟨d,hd,td⟩:=ts3.get hx;rw[getElem?_map,hc] at hd;cases hd;generalize hcc:cs[i]=c at hc hin td;have hul:=tu3.length;rw[length_map,qx,length_take] at hul;have fin:∀(v:V)(e:Int)(H4:Hp),cF p H3 H4->0<=e->bT H4 p (B+20000+2*(i:Int)+2)->aN (·≠p) H4 v (bJ (vP (10^9) e c)) ->
     isq (H4 l)/\apq (H4 l) l v H4 fun _ H5=>Pv (i+1) [some (.ref p),some (.int m),some (.ref l),some (.int (10^Int.toNat 9)),some v] H5:=by
    intro v e H4 s4 he tp4 tv;have el4:=s4 _ _ hlp el3;rw[el4,Bl];refine⟨trivial,lt_of_lt_of_le (show us.length<1000 by omega) (aK δ),?_⟩;have hlrp:lr≠p:=o;have kk:∀{vs:List V}{ds:List PyData},aM (·≠p) H3 vs ds->aM (·≠p) H4 vs ds:=fun t=>t.keep fun a o n e=>⟨n,s4 _ _ n e⟩;rw[hPv];refine⟨fun j=>if j=i then e else es j,us++[v],_,xM (s3.trans s4) hl,(tp4.upd hlp).le (by show B+20000+2*(i:Int)+2<=B+20000+2*((i+1:Nat):Int);omega),by rw[aH hlr];exact s4 _ _ hlrp elr,(kk ts3).put (qY _) el4,aB,?_,fun j=>?_,rfl⟩
    ·rw[Ke hc,map_append];rw[Kg (fs:=es) fun j hj=>by rw[length_take] at hj;exact if_neg ω];refine aM.append ((kk tu3).put (qY _) el4) (.cons ?_ .nil);show aN _ _ v (bJ (vP (10^9) (if i=i then e else es i) c));rw[if_pos rfl];exact tv.put (Cz _) el4
    show 0<=if j=i then e else es j;split
    ·exact he
    exact he0 j
   refine aO fun k2 hk2=>?_;refine jA fun kt ke hkt hke=>?_;rcases Qx (10^9) 0 c (hsm c hin) with⟨w,a,d,ds,e5,hw,e6,ha,hds⟩|⟨a,b,t,rfl⟩|⟨lab,rfl⟩
   ·have tc:=td;rw[e5] at td;cases td with
    | tup o5 et zt tt=>
     rename_i pt ys;cases tt with
     | cons t1 tt=>
      cases t1;cases tt with
      | cons t2 tt=>
       cases t2;rename_i ys;push_cast [et,rdW];refine⟨aK δ,fun p1 hp1=>⟨rfl,δ,?_⟩⟩;rw[if_pos (by rcases hw with rfl|rfl|rfl|rfl <;> decide)]
       have s4:=au (o:=HO.tup [V.str (Str.ofString "is"),V.str (Str.ofString "below"),V.str (Str.ofString "mask"),V.str (Str.ofString "table")]) hp1;have et4:=s4 _ _ et;generalize upd H3 p1 (HO.tup [V.str (Str.ofString "is"),V.str (Str.ofString "below"),V.str (Str.ofString "mask"),V.str (Str.ofString "table")])=H4 at s4 et4 |-;subst hkt;push_cast [et4];refine⟨.inr ⟨δ,δ⟩,aK δ,fun p2 hp2=>?_⟩;have s5:=au (o:=HO.tup [V.str w,V.int (a*10^Int.toNat 9)]) hp2;have et5:=s5 _ _ et4;have ep2:upd H4 p2 (HO.tup [V.str w,V.int (a*10^Int.toNat 9)]) p2=_:=aB;generalize upd H4 p2 (HO.tup [V.str w,V.int (a*10^Int.toNat 9)])=H5 at s5 et5 ep2 |-;have yl:=tt.length;rw[length_cons] at yl;have c6:tK (V.str w::V.int a::ys) (some 2) none=ys:=by
        unfold tK HT.sIx;simp
       push_cast [et5];refine⟨?_,fun p3 hp3=>?_⟩
       ·unfold HT.sIx;simp
       rw[c6];have s6:=au (o:=HO.tup ys) hp3;have ep3:upd H5 p3 (HO.tup ys) p3=_:=aB;have ep26:=s6 _ _ ep2;generalize upd H5 p3 (HO.tup ys)=H6 at s6 ep3 ep26 |-;push_cast [ep26,ep3,SJ,Yx];refine⟨by simp,aK (by show 2+ys.length<=_;omega),fun z=>?_,fun _ p4 hp4=>?_⟩
       ·rw[z] at yl;simp at yl
       have s36:=(s4.trans s5).trans s6;have s7:=au (o:=HO.tup ([V.str w,V.int (a*10^Int.toNat 9)]++ys)) hp4;have s37:=s36.trans s7;subst hk2;have e8:=s37 _ _ el3;push_cast;refine fin (.ref p4) 0 _ s37.x (Int.le_refl _) ((tp3.same s37).le ω) ?_;rw[e6];exact .tup ((tp3.same s36).ne hp4) aB (by show ys.length+2<=1000000;omega) (.cons (.str _) (.cons (.int _) (tt.same s37)))
   ·have td0:=td;obtain⟨pt,g,rfl,et,_⟩:=td.row;have npt:pt≠p:=by cases td0 with|tup o5 _ _ _=>exact o5
    push_cast [et,cu,rdW];refine⟨aK δ,fun p1 hp1=>⟨δ,δ,?_⟩⟩;rw[if_neg δ];have s4:=au (o:=HO.tup [V.str (Str.ofString "is"),V.str (Str.ofString "below"),V.str (Str.ofString "mask"),V.str (Str.ofString "table")]) hp1;have et4:=s4 _ _ et;generalize upd H3 p1 (HO.tup [V.str (Str.ofString "is"),V.str (Str.ofString "below"),V.str (Str.ofString "mask"),V.str (Str.ofString "table")])=H4 at s4 et4 |-;subst hke;have tp4:=tp3.same s4;push_cast [et4,cu,rdW];refine⟨.inr ⟨δ,δ⟩,.inr ⟨δ,δ⟩,p,3,B+20000+2*(i:Int),rfl,tp4,ω,δ,δ,δ,fun z=>absurd z δ,fun u H5 u0 u1 s5 tp5=>?_⟩;have et5:=s5 _ _ npt et4;push_cast [et5,cu,rdW];refine⟨aK δ,fun p6 hp6=>?_⟩;have s6:=au (o:=HO.tup [V.str (Str.ofString "within"),V.int (a*10^Int.toNat 9),V.int (b*10^Int.toNat 9+u),V.int t]) hp6;subst hk2;push_cast;exact fin (.ref p6) u _ ((s4.x.trans s5).trans s6.x) u0 ((tp5.same s6).le ω) (.tup (tp5.ne hp6) aB (by show 4<=1000000;decide) (.cons (.str _) (.cons (.int _) (.cons (.int _) (.cons (.int _) .nil)))))
   obtain⟨pt,g,rfl,et,_⟩:=td.row;push_cast [et,cu,rdW];refine⟨aK δ,fun p1 hp1=>⟨δ,δ,?_⟩⟩;rw[if_neg δ];have s4:=au (o:=HO.tup [V.str (Str.ofString "is"),V.str (Str.ofString "below"),V.str (Str.ofString "mask"),V.str (Str.ofString "table")]) hp1;have et4:=s4 _ _ et;generalize upd H3 p1 (HO.tup [V.str (Str.ofString "is"),V.str (Str.ofString "below"),V.str (Str.ofString "mask"),V.str (Str.ofString "table")])=H4 at s4 et4 |-;subst hke;push_cast [et4,cu,rdW];subst hk2;push_cast;exact fin (.ref pt) 0 _ s4.x (Int.le_refl _) ((tp3.same s4).le ω) (td.same s4)
  intro σ H3 pv;rw[hPv] at pv;obtain⟨es,us,o4,s3,tp3,elr,ts3,el3,tu3,he0,rfl⟩:=pv;subst hk;push_cast;rw[hxl,take_length] at tu3;have fl:=qx (10^9) es cs;have ul:=tu3.length;rw[length_map] at ul;have mem:∀c,c∈qy (10^9) es cs->(iJ c/\bdC c)/\nrC c:=fun c m=>by
   obtain⟨j,hj⟩:=mem_iff_getElem?.mp m;obtain⟨c',h1,rfl⟩:=Ij hj;have mc:=mem_of_getElem? h1;exact Kd (he0 j) (hrb c' mc).1 (hnh c' mc)
  exact q l (qy (10^9) es cs) H3 s3 (tp3.le ω) (.lst hlp el3 ω tu3) ω (Kf hrows) (fun c m=>(mem c m).1) fun c m=>(mem c m).2
noncomputable abbrev dZ:List Str:=["_law_rows_here","_law_low","_law_high","_law_beyond_here","_law_seen","_law_begin","_law_label","_law_done"]
noncomputable abbrev bW:Stmt:=top 26
theorem iV:bB dZ q0_ (ak bW):=⟨rfl,rfl,rfl,ψ,rfl,ψ,ψ⟩
theorem pA:NM_ dZ bW 0 "_law_rows_here" := .of ψ
theorem Fw:NM_ dZ bW 1 "_law_low" := .of ψ
theorem Fv:NM_ dZ bW 2 "_law_high" := .of ψ
theorem kY:NM_ dZ bW 3 "_law_beyond_here" := .of ψ
theorem uX:NM_ dZ bW 4 "_law_seen" := .of ψ
theorem pq:NM_ dZ bW 5 "_law_begin" := .of ψ
theorem uW:NM_ dZ bW 6 "_law_label" := .of ψ
theorem oZ:NM_ dZ bW 7 "_law_done" := .of ψ
theorem vH:GI_ bW "_law_cuts" := by decide +kernel
theorem wR:GI_ bW "_law_run" := by decide +kernel
theorem Ax:GI_ bW "len" := by decide +kernel
theorem Aw:GI_ bW "min" := by decide +kernel
theorem vG:GI_ bW "range" := by decide +kernel
theorem KJ:Bn "_law_far_due" := ⟨ψ,ψ⟩
theorem Uq (hB:∀x:Str,x∈BLs->mg x=none) (CZCuts:Cal P w K mg base "_law_cuts" 1 q0_ Mp) (CZRun:Cal P w K mg base "_law_run" 2 q4_ (G8 false)) (F:Fun K "_law_far_due" "_law_far_due" bW f fd):dF P w K mg base CX0 3 f fd q0_ Mj:=by
 refine F.okq iV (fun vs H Q E h=>?_) (fun cdv A outer s H vs Q E hr h=>?_)
 ·obtain⟨l,ok,cs,low,high,rfl,_⟩:=h;rfl
 obtain⟨l,ok,cs,low,high,rfl,tr,rows,hcs,h15,hnr,hlh,hb1,hb2,q⟩:=h;refine⟨_,(aD (fK (aY (aj (cD aA) (aj W4 aA rfl) rfl)) (eN (n:=2) rfl (aV (bV kY iV.nd (.inl rfl)) (aV (bV uX iV.nd (.inl rfl)) cQ rfl) rfl) rfl rfl) rfl rfl rfl)
  (aD (fJ PassesOwn.never rfl (fD (bw CZCuts (hr.mono δ) vH VG (aj (ao pA) (aj (ao Fw) (aj (ao Fv) aA rfl) rfl) rfl) rfl rfl)) (bV pq iV.nd (.inl rfl))
  (aD (fK (bw CZRun (hr.mono δ) wR GC (aj (ao pA) (aj (ao pq) aA rfl) rfl) rfl rfl) (eN (n:=2) rfl (aV (bV uW iV.nd (.inl rfl)) (aV (bV oZ iV.nd (.inl rfl)) cQ rfl) rfl) rfl rfl) rfl rfl rfl)
  (aD (cB (S7 rfl (ao uX) (kJ (NX:=dZ) (kX:=(ak bW).names) ["_law_at"] [none] rfl rfl ⟨rfl,ψ,ψ,ψ,ψ⟩ rfl (fD (ao oZ)) (fun _ _ _ _ _=>(cZ 0 (show List.Nodup (["_law_at"]:List Str) from by decide +kernel) rfl (Or.inl rfl))) (fun _ _ _ _ _=>mj) (fun _ _ _ _ _=>(aY (aj (cO 0) (aj uI aA rfl) rfl)))) ⟨rfl,rfl,rfl,rfl⟩) rfl)
  (aG (bH (aQ uM (ao uW) gh (aP _)) (aG (cB (cJ (ao kY) (aY (aj (aJ aR (ao oZ) (eZ cN aq) (fun _ _=>rfl)) (aj (ao pq) aA rfl) rfl)) rfl rfl rfl rfl rfl) rfl)) bK)))) (fun _=>rfl))
  (aG (aW (aY (aj (jT (aQ (Fi hr.bA) (ao kY) (cD aA) (aP _)) (bY (yP rfl hr.Zn) Aw (hB "min" vo) boot_min vW (aj (ao kY) aA rfl) rfl rfl) gh) (aj (kJ (NX:=dZ) (kX:=(ak bW).names) ["_law_at","_law_seen"] [none,some 4] rfl rfl ⟨rfl,ψ,ψ,ψ,ψ⟩ rfl (gM vG (hB "range" fj) (aj (bY dY Ax (hB "len" jK) PySem.boot_len jM (aj (ao pA) aA rfl) rfl rfl) aA rfl) rfl) (fun _ _ _ _ _=>(cZ 0 (show List.Nodup (["_law_at","_law_seen"]:List Str) from by decide +kernel) rfl (Or.inl rfl))) (fun _ _ _ _ _=>(zR (aQ (JH hr.Wk) (cO 0) (cO 1) (by with_unfolding_all rfl)))) (fun _ _ _ _ _=>(cO 0))) aA rfl) rfl)))))),?_⟩
 refine aO fun k hk=>?_;push_cast [El];refine⟨aK δ,fun rb hrb rs hrs=>⟨aK δ,fun pt hpt=>?_⟩⟩;have v1:=au (o:=HO.lst []) hrb;have v2:=au (o:=HO.dK []) hrs;have v3:=au (o:=HO.tup [V.ref rb,V.ref rs]) hpt;have eb0:=v3 _ _ (v2 _ _ (show upd H rb (HO.lst []) rb=_ from aB));have es0:=v3 _ _ (show upd (upd H rb (HO.lst [])) rs (HO.dK []) rs=_ from aB);have ep0:upd (upd (upd H rb (HO.lst [])) rs (HO.dK [])) pt (HO.tup [V.ref rb,V.ref rs]) pt=_:=aB;have s0:=(v1.trans v2).trans v3;have hrs0:H rs=none:=v1.none hrs;generalize upd (upd (upd H rb (HO.lst [])) rs (HO.dK [])) pt (HO.tup [V.ref rb,V.ref rs])=H0 at v3 eb0 es0 ep0 s0 |-;push_cast [ep0];subst hk;refine aO fun k hk=>?_;refine jr fun R hR=>?_;push_cast;refine⟨l,ok,cs,low,high,rfl,tr.same s0,rows,hcs,h15,hnr,hlh,hb1,hb2,fun lc ns H1 s1 hlc elc cuts hnl=>?_⟩;have nsb:rs≠rb:=fun z=>by rw[z,eb0] at es0;cases es0
 have ncb:lc∉[rb,rs]:=fun m=>by
  rcases mem_cons.mp m with z|m
  ·rw[z,eb0] at hlc;cases hlc
  rw[mem_singleton.mp m,es0] at hlc;cases hlc
 have hold:∀{H':Hp},fB [rb,rs] H1 H'->Same H H':=fun s b o e=>s b o (fun m=>by
  rcases mem_cons.mp m with z|m
  ·rw[z,hrb] at e;cases e
  rw[mem_singleton.mp m,hrs0] at e;cases e) (s1 _ _ (s0 _ _ e))
 push_cast [elc];obtain⟨Pv,hPv⟩:∃Pv:Nat->L2.St->Hp->Prop,Pv=fun(i:Nat) σ H'=>∃(L:List (Int×Int)) (us:List V) (kvs:List (Key×V)) (o5 o6 o7:Option V),fB [rb,rs] H1 H'/\H' rb=some (.lst us)/\bf prE H' us L/\L.length<=i/\BLi cs (fun m=>m∈ns.take i) L/\H' rs=some (.dK kvs)/\kvs.length<=15*i/\(∀j:Nat,(fU kvs (Sum.inl (j:Int):Key)).isSome=true ↔ ∃a,a∈ns.take i/\Cm cs a j)/\σ=[some (.ref l),some (.int low),some (.int high),some (.ref rb),some (.ref rs),o5,o6,o7]:=⟨_,rfl⟩;refine yK (xs:=ns.map V.int) hR Pv ?_ ?_ ?_ ?_
 ·rw[hPv];exact⟨[],[],[],_,_,_,fB.refl _ _,s1 _ _ eb0,.nil,le_refl _,⟨fun s m=>(by cases m),fun m j h=>(by cases h)⟩,s1 _ _ es0,le_refl _,fun j=>⟨fun z=>(by cases z),fun⟨_,m,_⟩=>(by cases m)⟩,rfl⟩
 ·intro i σ H' _ pv;rw[hPv] at pv;obtain⟨_,_,_,_,_,_,s,_⟩:=pv;exact SqL.of (s _ _ ncb elc)
 ·intro i x σ H2 hx pv;rw[hPv] at pv;obtain⟨L,us,kvs,o5,o6,o7,s2,eb,te,hl,bl,es,hkl,hkv,rfl⟩:=pv;rw[getElem?_map] at hx;obtain⟨n,hn,rfl⟩:=map_eq_some_iff.mp hx;have hin:i<ns.length:=(List.getElem?_eq_some_iff.mp hn).1;refine aO fun k2 hk2=>?_;push_cast;refine⟨l,ok,cs,n,rfl,tr.same (hold s2),rows,fun z=>(by cases z),fun t ld H3 s3 ht hld htl et eld hlen=>?_⟩;push_cast [et];subst hk2;have eb3:=s3 _ _ eb;have es3:=s3 _ _ es;have te3:=te.same s3;refine aO fun k2 hk2=>?_;push_cast [Lk];refine⟨.inl ⟨_,.inl es3⟩,?_⟩;refine gR fun R2 hR2=>?_;push_cast [eld];obtain⟨Pc,hPc⟩:∃Pv:Nat->List V->L2.St->Hp->Prop,Pv=fun(g:Nat) acc τ H'=>∃(o1:Option V),Same H3 H'/\bf atE H' acc ((runOf cs n).2.take g)/\τ=[o1]:=⟨_,rfl⟩;refine rK hR2 (xs:=(runOf cs n).2.map V.int) (aK (by rw[length_map];omega)) Pc (by rw[hPc];exact⟨none,Same.refl _,.nil,rfl⟩) ?_ ?_ ?_ ?_
  ·intro g acc τ H4 pc;rw[hPc] at pc;obtain⟨o1,s4,t4,rfl⟩:=pc;rw[t4.length];exact length_take_le _ _
  ·intro g acc τ H4 pc;rw[hPc] at pc;obtain⟨o1,s4,t4,rfl⟩:=pc;exact SqL.of (s4 _ _ eld)
  ·intro g x acc τ H4 hx pc;rw[hPc] at pc;obtain⟨o1,s4,t4,rfl⟩:=pc;rw[getElem?_map] at hx;obtain⟨b,hb,rfl⟩:=map_eq_some_iff.mp hx;push_cast;refine⟨aK δ,fun a6 ha6=>?_⟩;rw[hPc];refine⟨_,s4.trans (au ha6),?_,rfl⟩;rw[gZ hb];exact(t4.yZ ha6).snoc (x:=b) aB
  intro acc τ H4 d4 pc hd4;rw[hPc] at pc;obtain⟨o1,s4,t4,rfl⟩:=pc;rw[length_map,take_length] at t4;have v5:=au (o:=HO.lst acc) hd4;have e5:upd H4 d4 (HO.lst acc) d4=_:=aB;have t5:=t4.same v5;have s35:=s4.trans v5;generalize upd H4 d4 (HO.lst acc)=H5 at v5 e5 t5 s35 |-;obtain⟨ads,rfl⟩:=t5.refs;have hal:=t5.length;rw[length_map] at hal;refine⟨d4,rfl,kvs,s35 _ _ es3,(runOf cs n).2.map fun b=>((Sum.inl b:Key),V.bl true),ads,e5,by rw[length_map,hal],fun j a kv hj hkv'=>?_,by rw[length_map];exact aK ω,?_⟩
  ·rw[getElem?_map] at hkv';obtain⟨b,hb,rfl⟩:=map_eq_some_iff.mp hkv';obtain⟨p',z,e1,e2,e3⟩:=t5.got (i:=j) (u:=V.ref a) (by rw[getElem?_map,hj];rfl);cases e1;rw[hb] at e2;cases e2;exact e3
  clear hR2 hPc;obtain⟨kvs',hkvs'⟩:∃z,z=putAll kvs ((runOf cs n).2.map fun b=>((Sum.inl b:Key),V.bl true)):=⟨_,rfl⟩;rw[<- hkvs'];have hkl':kvs'.length<=15*(i+1):=by
   have:=uJ (prs:=(runOf cs n).2.map fun b=>((Sum.inl b:Key),V.bl true)) (kvs:=kvs);rw[<- hkvs',length_map] at this;omega
  have hkv':∀j:Nat,(fU kvs' (Sum.inl (j:Int):Key)).isSome=true ↔ ∃a,a∈ns.take (i+1)/\Cm cs a j:=fun j=>by
   rw[hkvs',uK,gZ hn];constructor
   ·intro z;split at z
    ·rename_i c;obtain⟨b,mb,e⟩:=c;cases e;exact⟨n,mem_append_right _ (.head _),mb⟩
    obtain⟨a,ma,ca⟩:=(hkv j).mp z;exact⟨a,mem_append_left _ ma,ca⟩
   rintro⟨a,ma,ca⟩;split
   ·rfl
   rename_i c;rcases mem_append.mp ma with ma|ma
   ·exact(hkv j).mpr ⟨a,ma,ca⟩
   rw[mem_singleton.mp ma] at ca;exact absurd ⟨(j:Int),ca,rfl⟩ c
  have eb6:upd H5 rs (HO.dK kvs') rb=some (.lst us):=by rw[aH nsb.symm];exact s35 _ _ eb3
  have es6:upd H5 rs (HO.dK kvs') rs=_:=aB;have te6:bf prE (upd H5 rs (HO.dK kvs')) us L:=bf.Wb (s35 _ _ es3) (te3.same s35);have s6:fB [rb,rs] H1 (upd H5 rs (HO.dK kvs')):=(s2.trans (s3.trans s35).p).trans (fB.upd (.tail _ (.head _)));have eld6:upd H5 rs (HO.dK kvs') ld=some (.lst ((runOf cs n).2.map V.int)):=by rw[aH (fun z=>by rw[z,es] at hld;cases hld)];exact s35 _ _ eld
  generalize upd H5 rs (HO.dK kvs')=H6 at eb6 es6 te6 s6 eld6 |-;subst hk2;have hst:∀m:Int,m∈ns.take (i+1)↔m∈ns.take i\/m=n:=fun m=>by rw[gZ hn,mem_append,mem_singleton]
  cases hrun:(runOf cs n).1 with
  | some lab=>
   push_cast [qU];rw[hPv];exact⟨L,us,kvs',_,_,_,s6,eb6,te6,ω,bl.no rows hrun hst,es6,hkl',hkv',rfl⟩
  | none=>
   obtain⟨j,hj⟩:=GF rows hrun;have hla:atI ((runOf cs n).2.map V.int) (-1)=some (V.int (j:Int)):=by
    obtain⟨ys,e⟩:=List.getLast?_eq_some_iff.mp (hj.run rows).2;rw[e,map_append];exact qI _ _
   push_cast [qU,eb6,eld6,hla];refine⟨aK δ,fun p hp=>?_⟩;have er4:=au (o:=HO.tup [V.int (j:Int),V.int n]) hp _ _ eb6;push_cast [er4];have:=te6.length;refine⟨lt_of_le_of_lt (show us.length<=10000 by omega) δ,?_⟩;rw[hPv];refine⟨L++[((j:Int),n)],_,kvs',_,_,_,(s6.trans (au hp).p).trans (fB.upd (.head _)),aB,bf.push te6 ((j:Int),n) eb6 hp,by rw[length_append,length_singleton];omega,bl.yes rows hj hst,?_,hkl',hkv',rfl⟩;rw[aH nsb];exact au hp _ _ es6
 intro σ H2 pv;rw[hPv] at pv;obtain⟨L,us,kvs,o5,o6,o7,s2,eb,te,hl,bl,es,hkl,hkv,rfl⟩:=pv;subst hk;rw[length_map,take_length] at bl hkv;have tr2:=tr.same (hold s2);push_cast [eb];refine⟨aK δ,fun p hp=>?_⟩;have s3:=au (o:=HO.lst []) hp;refine⟨rb,p,us,rfl,rfl,s3 _ _ eb,aB,_,rfl,?_⟩;have eb3:=s3 _ _ eb;have es3:=s3 _ _ es;have te3:=te.same s3;have tr3:=tr2.same s3;have sF:=(hold s2).trans s3;generalize upd H2 p (HO.lst [])=H3 at s3 eb3 es3 te3 tr3 sF |-;obtain⟨b0,b1⟩:=bl.bey (low:=low) (high:=high) (fun m hm=>cuts.rg m hm) (fun n' j h1 h2 b=>by
  obtain⟨a,ma,ha,e⟩:=cuts.find (n'-low).toNat n' ω h2;exact⟨a,ma,ha,b.like rows e⟩)
 have fin:∀(v:V)(o:Option (Int×Int)),aN (fun _=>True) H3 v (Fg o)->nj cs low high o->uf [none,some 4] (oN (rR (tCB Hs (rR (tV 0) BJ)) BJ)) (j6 0) (rQ (tOp zJ (tV 0) (tV 1))) (tV 0) [some (V.ref l),some (V.int low),some (V.int high),some (V.ref rb),some (V.ref rs),o5,o6,o7] H3 fun x H1=>2<=sizeLine/\∀(p:Addr),H1 p=none->Q (V.ref p) (upd H1 p (HO.tup [v,x])):=by
  intro v o tv bo;refine gR fun R2 hR2=>?_;cases tr3 with
  | lst ok3 el zl tsl=>
   have hxl:=tsl.length;rw[length_map] at hxl;push_cast [oN,el];refine⟨ω,ω,?_⟩;obtain⟨pn,hpn⟩:∃pn:Nat->Bool,pn=fun(j:Nat)=>!(fU kvs (Sum.inl (j:Int):Key)).isSome:=⟨_,rfl⟩;obtain⟨Pc,hPc⟩:∃Pv:Nat->List V->L2.St->Hp->Prop,Pv=fun(g:Nat) acc τ H'=>∃(o1:Option V),H'=H3/\acc=kO ((List.range g).filter pn)/\τ=[o1,some (.ref rs)]:=⟨_,rfl⟩;refine Gv hR2 (aK ω) Pc (by rw[hPc];exact⟨none,rfl,rfl,rfl⟩) ?_ ?_ ?_
   ·intro g acc τ H4 pc;rw[hPc] at pc;obtain⟨o1,rfl,rfl,rfl⟩:=pc;rw[mH];have:=length_filter_le pn (List.range g);rwa [length_range] at this
   ·intro g acc τ H4 hg pc;rw[hPc] at pc;obtain⟨o1,rfl,rfl,rfl⟩:=pc;rw[Int.zero_add];push_cast [zJ];refine⟨_,Rx.k (k:=(Sum.inl (g:Int):Key)) es3,?_⟩;have hst:=iD pn g;have hpg:pn g=!(fU kvs (Sum.inl (g:Int):Key)).isSome:=by rw[hpn]
    rw[<- hpg];cases hb:pn g with
    | true=>
     rw[if_pos hb] at hst;push_cast;rw[hPc];exact⟨_,rfl,by rw[hst,qZ],rfl⟩
    | false=>
     rw[if_neg (by rw[hb];decide),append_nil] at hst;push_cast;rw[hPc];exact⟨_,rfl,by rw[hst],rfl⟩
   intro acc τ H4 d4 pc hd4;rw[hPc] at pc;obtain⟨o1,rfl,rfl,rfl⟩:=pc;rw[toNat_natCast,hxl];have nev:=cuts.nev (p:=pn) fun j=>by
    rw[hpn];show(!(fU kvs (Sum.inl (j:Int):Key)).isSome)=true↔_;rw[Bool.not_eq_true',<- Bool.not_eq_true,hkv j];exact⟨fun z a ma ca=>z ⟨a,ma,ca⟩,fun z ⟨a,ma,ca⟩=>z a ma ca⟩
   have s5:=au (o:=HO.lst (kO ((List.range cs.length).filter pn))) hd4;have e5:upd H4 d4 (HO.lst (kO ((List.range cs.length).filter pn))) d4=_:=aB;have tv5:=tv.same s5;generalize upd H4 d4 (HO.lst (kO ((List.range cs.length).filter pn)))=H5 at s5 e5 tv5 |-;refine⟨aK δ,fun p6 hp6=>?_⟩;have s6:=au (o:=HO.tup [v,V.ref d4]) hp6;have:=zZ nev;exact q _ _ o _ ((sF.trans s5).trans s6) (.tup trivial aB (by show 2<=1000000;decide) (.cons (tv5.same s6) (.cons ((tQ e5 ω).same s6) .nil))) bo nev
 obtain⟨ads,rfl⟩:=te3.refs;cases ads with
 | nil=>
  cases te3;exact fin _ none .non (b0 rfl)
 | cons a0 ads=>
  refine⟨a0::ads,eb3,L,by have:=te3.length;rwa [length_map] at this,fun j t c h1 h2=>te3.pr h1 h2,List.cons_ne_nil _ _,fun m t c h1 h2 h3=>?_⟩;exact fin _ (some c) (.tup trivial (te3.pr h1 h2) (by show 2<=1000000;decide) (.cons (.int _) (.cons (.int _) .nil))) (b1 c (mem_of_getElem? h2) h3)
noncomputable abbrev qL:List Str:=["spans","told","low","high"]
noncomputable abbrev iR:Stmt:=top 3
theorem pQ:bB qL ["spans"] (ak iR):=⟨rfl,rfl,rfl,ψ,rfl,ψ,ψ⟩
theorem JS:NM_ qL iR 0 "spans" := .of ψ
theorem fP:NM_ qL iR 1 "told" := .of ψ
theorem rD:NM_ qL iR 2 "low" := .of ψ
theorem rC:NM_ qL iR 3 "high" := .of ψ
theorem Dl:GI_ iR "max" := by decide +kernel
theorem vK:GI_ iR "sorted" := by decide +kernel
theorem Rf:Bn "joined" := ⟨ψ,ψ⟩
theorem JM (hB:∀x:Str,x∈BLs->mg x=none) (F:Fun K "joined" "joined" iR f fd):dF P w K mg base CX0 1 f fd ["spans"] Hj:=by
 refine F.okq pQ (fun vs H Q E h=>?_) (fun cdv A outer s H vs Q E hr h=>?_)
 ·obtain⟨l,us,ss,rfl,_⟩:=h;rfl
 obtain⟨l,us,ss,rfl,el,t,hd,hl,q⟩:=h;refine⟨_,(aD (bU fP pQ.nd (cD aA) rfl (.inl rfl))
  (aD (fJ PassesOwn.never rfl (fD (bY Gx vK (hB "sorted" yx) PyProof.Rows.boot_sorted KH (aj (ao JS) aA rfl) rfl rfl)) (eN (n:=2) rfl (aV (bV rD pQ.nd (.inl rfl)) (aV (bV rC pQ.nd (.inl rfl)) cQ rfl) rfl) rfl rfl)
  (aG (bH (Ci (zL (zM (ao fP)) (tM (aQ xW (ao rD) (aL aU (aJ aR (aJ aR (ao fP) (eZ cN aq) (fun _ _=>rfl)) aq (fun _ _=>rfl)) aq) (aP _))))) (aG (fK (aY (aj (aJ aR (aJ aR (ao fP) (eZ cN aq) (fun _ _=>rfl)) aq (fun _ _=>rfl)) (aj (bY (nU rfl) Dl (hB "max" Ak) boot_max Bg (aj (ao rC) (aj (aJ aR (aJ aR (ao fP) (eZ cN aq) (fun _ _=>rfl)) aq (fun _ _=>rfl)) aA rfl) rfl) rfl rfl) aA rfl) rfl)) (zO (ao fP) (eZ cN aq) uE) rfl rfl rfl)) (aG (cB (cJ (ao fP) (aY (aj (ao rD) (aj (ao rC) aA rfl) rfl)) rfl rfl rfl rfl rfl) rfl)))) (fun _=>rfl))
  (aG (aW (ao fP))))),?_⟩
 refine aO fun k hk=>?_;push_cast;refine⟨aK δ,fun r hr0=>?_⟩;have s0:=au (o:=HO.lst []) hr0;have e0:upd H r (HO.lst []) r=_:=aB;generalize upd H r (HO.lst [])=H0 at s0 e0 |-;subst hk;refine aO fun k hk=>?_;refine jr fun R hR=>?_;push_cast;obtain⟨ps,rfl⟩:=t.refs;obtain⟨e1,e2⟩:=t.read (dec:=wJ H) Tq;have hpl:ps.length=ss.length:=by have:=t.length;rwa [length_map] at this
 refine⟨l,ps,fun p=>(wJ H p).1,fun p=>(wJ H p).2,rfl,s0 _ _ el,ω,fun p m=>⟨s0 _ _ (e2 p m),(hd _ (by rw[e1];exact List.mem_map_of_mem m)).2⟩,fun d qs hd0 hp ho=>?_⟩;have s1:Same H (upd H0 d (.lst (qs.map V.ref))):=s0.trans (au hd0);have ed:upd H0 d (.lst (qs.map V.ref)) d=_:=aB;have er:upd H0 d (.lst (qs.map V.ref)) r=some (.lst []):=by rw[aH (aF e0 hd0)];exact e0
 have ndr:d≠r:=(aF e0 hd0).symm;generalize upd H0 d (.lst (qs.map V.ref))=H1 at s1 ed er |-;have tz:bf prE H (qs.map V.ref) (qs.map (wJ H)):=.of_map fun p m=>e2 p (hp.mem_iff.mp m);have pz:(qs.map (wJ H)).Perm ss:=by rw[e1];exact hp.map _
 have hn:∀s,s∈qs.map (wJ H)->s.1<=s.2:=fun s m=>(hd s (pz.mem_iff.mp m)).1;have hu:(qs.map (wJ H)).Pairwise fun a b=>a.1<=b.1:=by
  refine pairwise_map.mpr (ho.imp fun {a b} z=>?_);rcases z with z|z
  ·exact Int.le_of_lt z
  exact Int.le_of_eq z.1
 generalize hzs:qs.map (wJ H)=zs at tz pz hn hu;push_cast [ed];obtain⟨Pv,hPv⟩:∃Pv:Nat->L2.St->Hp->Prop,Pv=fun(i:Nat) σ H'=>∃(told:List (Int×Int)) (us':List V) (o2 o3:Option V),Same H H'/\H' d=some (.lst (qs.map V.ref))/\H' r=some (.lst us')/\bf prE H' us' told/\JW zs told i/\σ=[some (.ref l),some (.ref r),o2,o3]:=⟨_,rfl⟩;have zl:zs.length=(qs.map V.ref).length:=tz.length.symm;have zll:=pz.length_eq;refine yK hR Pv (by rw[hPv];exact⟨[],[],_,_,s1,ed,er,.nil,.start _,rfl⟩) (fun i σ H' _ pv=>by rw[hPv] at pv;obtain⟨_,_,_,_,_,e,_⟩:=pv;exact SqL.of e) ?_ ?_
 ·intro i x σ H2 hx pv;rw[hPv] at pv;obtain⟨told,us',o2,o3,s2,ed2,er2,t2,ji,rfl⟩:=pv;obtain⟨p,z,rfl,hz,ep⟩:=(tz.same s2).got hx;replace ep:H2 p=some (.tup [.int z.1,.int z.2]):=ep;have li:i<zs.length:=(List.getElem?_eq_some_iff.mp hz).1;have lt:=ji.ln;have le:=t2.length;rcases eq_nil_or_concat told with e0|⟨pre,t0,e0⟩
  ·subst e0;cases t2;push_cast [ep,er2];refine⟨aK δ,fun q hq=>?_⟩;have er3:upd H2 q (.tup [.int z.1,.int z.2]) r=some (.lst []):=by rw[aH (aF er2 hq)];exact er2
   push_cast [er3];refine⟨δ,?_⟩;rw[hPv];exact⟨[z],_,_,_,fX s2 hr0 hq,uc ed2 ndr hq,aB,bf.push .nil z er2 hq,ji.fresh hz hn hu (fun t q=>by cases q),rfl⟩
  rw[concat_eq_append] at e0;subst e0;obtain⟨vs,pt,rfl,tv,ept⟩:=t2.split;replace ept:H2 pt=some (.tup [.int t0.1,.int t0.2]):=ept;have la:=qI vs (V.ref pt);push_cast [ep,er2,la,ept,Aa];have mx:(if t0.2>z.2 then t0.2 else z.2)=max z.2 t0.2:=by split <;> omega
  rw[mx];by_cases c:z.1<=t0.2+1
  ·rw[if_pos c];refine⟨aK δ,fun q hq=>?_⟩;have er3:upd H2 q (.tup [.int t0.1,.int (max z.2 t0.2)]) r=some (.lst (vs++[.ref pt])):=by rw[aH (aF er2 hq)];exact er2
   push_cast [er3];refine⟨_,Am vs _,?_⟩;rw[uD,hPv];exact⟨pre++[(t0.1,max z.2 t0.2)],_,_,_,fX s2 hr0 hq,uc ed2 ndr hq,aB,bf.swap tv (t0.1,max z.2 t0.2) er2 hq,ji.grown hz hn hu c,rfl⟩
  rw[if_neg c];refine⟨aK δ,fun q hq=>?_⟩;have er3:upd H2 q (.tup [.int z.1,.int z.2]) r=some (.lst (vs++[.ref pt])):=by rw[aH (aF er2 hq)];exact er2
  push_cast [er3];refine⟨lt_of_lt_of_le (show(vs++[V.ref pt]).length<1000000 by omega) (aK (le_refl 1000000)),?_⟩;rw[hPv];exact⟨(pre++[t0])++[z],_,_,_,fX s2 hr0 hq,uc ed2 ndr hq,aB,bf.push t2 z er2 hq,ji.fresh hz hn hu (fun t q=>by rw[List.getLast?_append] at q;cases q;exact c),rfl⟩
 intro σ H2 pv;rw[hPv] at pv;obtain⟨told,us',o2,o3,s2,ed2,er2,t2,ji,rfl⟩:=pv;subst hk;push_cast;refine q r H2 us' told s2 hr0 er2 t2 ji.gap (fun n=>?_) ?_
 ·rw[ji.cv,<- zl,take_length];exact QX pz
 have:=ji.ln;omega
noncomputable abbrev nY:List Str:=["first","goals","told","number","goal"]
noncomputable abbrev iQ:Stmt:=top 5
theorem pP:bB nY ["first","goals"] (ak iQ):=⟨rfl,rfl,rfl,ψ,rfl,ψ,ψ⟩
theorem JR:NM_ nY iQ 0 "first" := .of ψ
theorem JQ:NM_ nY iQ 1 "goals" := .of ψ
theorem gP:NM_ nY iQ 2 "told" := .of ψ
theorem nR:NM_ nY iQ 3 "number" := .of ψ
theorem nQ:NM_ nY iQ 4 "goal" := .of ψ
theorem qt:GI_ iQ "enumerate" := by decide +kernel
theorem DK:Bn "runs_of" := ⟨ψ,ψ⟩
noncomputable abbrev gY:List Str:=["row","at","wide","bits","goal"]
noncomputable abbrev cX:Stmt:=top 6
theorem jz:bB gY ["row","at"] (ak cX):=⟨rfl,rfl,rfl,ψ,rfl,ψ,ψ⟩
theorem Ai:NM_ gY cX 0 "row" := .of ψ
theorem qi:NM_ gY cX 2 "wide" := .of ψ
theorem Ah:NM_ gY cX 3 "bits" := .of ψ
theorem Ag:NM_ gY cX 4 "goal" := .of ψ
theorem rG:GI_ cX "range" := by decide +kernel
theorem DN:Bn "mask_goals" := ⟨ψ,ψ⟩
theorem Ui (hB:∀x:Str,x∈BLs->mg x=none) (F:Fun K "runs_of" "runs_of" iQ f fd):dF P w K mg base CX0 1 f fd ["first","goals"] BK:=by
 refine F.okq pP (fun vs H Q E h=>?_) (fun cdv A outer s H vs Q E hr h=>?_)
 ·obtain⟨g,first,gs,rfl,_⟩:=h
  rfl
 obtain⟨g,first,gs,rfl,eg,f1,f2,hl,q⟩:=h
 refine⟨_,(aD (bU gP pP.nd (cD aA) rfl (.inl rfl))
  (aD (fJ PassesOwn.never rfl (Nx qt (hB "enumerate" gq) (aj (ao JQ) aA rfl) (Tw (ao JR).h Xh)) (eN (n:=2) rfl (aV (bV nR pP.nd (.inl rfl)) (aV (bV nQ pP.nd (.inl rfl)) cQ rfl) rfl) rfl rfl)
  (aG (bH (Ci (zL (zM (ao gP)) (tM (aQ (b7 hr.bA) (aJ aR (aJ aR (ao gP) (eZ cN aq) (fun _ _=>rfl)) aq (fun _ _=>rfl)) (ao nQ) (aP _))))) (aG (fK (aY (aj (aJ aR (aJ aR (ao gP) (eZ cN aq) (fun _ _=>rfl)) aq (fun _ _=>rfl)) (aj (ao nR) (aj (ao nQ) aA rfl) rfl) rfl)) (zO (ao gP) (eZ cN aq) uE) rfl rfl rfl)) (aG (cB (cJ (ao gP) (aY (aj (ao nR) (aj (ao nR) (aj (ao nQ) aA rfl) rfl) rfl)) rfl rfl rfl rfl rfl) rfl)))) (fun _=>rfl))
  (aG (aW (ao gP))))),?_⟩
 refine aO fun k hk=>?_;push_cast;refine⟨aK δ,fun r hr0=>?_⟩;have s0:=au (o:=HO.lst []) hr0;have e0:upd H r (HO.lst []) r=_:=aB;generalize upd H r (HO.lst [])=H0 at s0 e0 |-;subst hk;refine aO fun k hk=>?_;refine jr fun R hR=>?_;obtain⟨Pv,hPv⟩:∃Pv:Nat->L2.St->Hp->Prop,Pv=fun(i:Nat) σ H'=>∃(told:List (Int×Int×Int)) (us':List V) (o3 o4:Option V),Same H H'/\H' r=some (.lst us')/\bf trE H' us' told/\lH first gs told i/\σ=[some (.int first),some (.ref g),some (.ref r),o3,o4]:=⟨_,rfl⟩
 have h0:Pv 0 [some (.int first),some (.ref g),some (.ref r),none,none] H0:=by rw[hPv];exact⟨[],[],_,_,s0,e0,.nil,.start _ _,rfl⟩
 have fin:∀σ H',Pv gs.length σ H'->k σ H':=by
  intro σ H2 pv;rw[hPv] at pv;obtain⟨told,us',o3,o4,s2,er2,t2,ji,rfl⟩:=pv;subst hk;push_cast;exact q r H2 us' told s2 hr0 er2 t2 ji
 have gat:∀{i:Nat}{x:V},(gs.map V.int)[i]?=some x->∃g',gs[i]?=some g'/\x=.int g':=fun {i x} hx=>by
  rw[getElem?_map] at hx;obtain⟨g',e1,e2⟩:=map_eq_some_iff.mp hx;exact⟨g',e1,e2.symm⟩
 have main:∀J:It,(∀i σ H,i<gs.length->Pv i σ H->J.go i H)->(∀σ H,Pv gs.length σ H->J.stop gs.length H)->(∀i σ H x H3,Pv i σ H->J.yld i H x H3->∃p g',gs[i]?=some g'/\x=.ref p/\H p=none/\H3=upd H p (.tup [.int (first+i),.int g']))->R J H0:=by
  intro J ja jb jc;refine Qw hR gs.length Pv h0 ja jb (fun i σ H2 x H3 hi pv y=>?_) fin;obtain⟨p,g',hg,rfl,hp,rfl⟩:=jc i σ H2 x H3 pv y;rw[hPv] at pv;obtain⟨told,us',o3,o4,s2,er2,t2,ri,rfl⟩:=pv;have lt:=ri.ln;have le:=t2.length;have s3:Same H (upd H2 p (.tup [.int (first+i),.int g'])):=s2.trans (au hp)
  have ep:upd H2 p (.tup [.int (first+i),.int g']) p=some (.tup [.int (first+i),.int g']):=aB
  have er3:upd H2 p (.tup [.int (first+i),.int g']) r=some (.lst us'):=by rw[aH (aF er2 hp)];exact er2
  have t3:=t2.yZ (o:=.tup [.int (first+i),.int g']) hp
  generalize upd H2 p (.tup [.int (first+i),.int g'])=H3 at s3 ep er3 t3 |-
  rcases eq_nil_or_concat told with e0|⟨pre,t0,e0⟩
  ·subst e0;cases t2;push_cast [ep,er3];refine⟨aK δ,fun q hq=>?_⟩;have er4:upd H3 q (.tup [.int (first+i),.int (first+i),.int g']) r=some (.lst []):=by rw[aH (aF er3 hq)];exact er3
   push_cast [er4];refine⟨δ,?_⟩;rw[hPv];exact⟨[(first+i,first+i,g')],_,_,_,fX s3 hr0 hq,aB,bf.push .nil (first+i,first+i,g') er3 hq,ri.fresh hg,rfl⟩
  rw[concat_eq_append] at e0;subst e0;obtain⟨vs,pt,rfl,tv,ept⟩:=t3.split;replace ept:H3 pt=some (.tup [.int t0.1,.int t0.2.1,.int t0.2.2]):=ept;have la:=qI vs (V.ref pt);push_cast [ep,er3,la,ept,Aa];by_cases c:t0.2.2=g'
  ·rw[if_pos c];refine⟨aK δ,fun q hq=>?_⟩;have er4:upd H3 q (.tup [.int t0.1,.int (first+i),.int g']) r=some (.lst (vs++[.ref pt])):=by rw[aH (aF er3 hq)];exact er3
   push_cast [er4];refine⟨_,Am vs _,?_⟩;rw[uD,hPv];exact⟨pre++[(t0.1,first+i,g')],_,_,_,fX s3 hr0 hq,aB,bf.swap tv (t0.1,first+i,g') er3 hq,ri.grown hg c,rfl⟩
  rw[if_neg c];refine⟨aK δ,fun q hq=>?_⟩;have er4:upd H3 q (.tup [.int (first+i),.int (first+i),.int g']) r=some (.lst (vs++[.ref pt])):=by rw[aH (aF er3 hq)];exact er3
  push_cast [er4];refine⟨lt_of_le_of_lt (show(vs++[V.ref pt]).length<=1000000 by omega) δ,?_⟩;rw[hPv];exact⟨(pre++[t0])++[(first+i,first+i,g')],_,_,_,fX s3 hr0 hq,aB,bf.push t3 (first+i,first+i,g') er3 hq,ri.fresh hg,rfl⟩
 rcases eg with eg|eg
 ·have eg0:=s0 _ _ eg;have hg:∀i σ H',Pv i σ H'->H' g=some (.tup (gs.map V.int)):=fun i σ H' pv=>by rw[hPv] at pv;obtain⟨_,_,_,_,s,_⟩:=pv;exact s _ _ eg
  push_cast [eg0,rdZ];refine⟨ω,ω,main _ (fun i σ H' hi pv=>⟨_,_,SqT.of (hg i σ H' pv),getElem?_eq_getElem (by rw[length_map];exact hi)⟩) (fun σ H' pv=>⟨_,SqT.of (hg _ σ H' pv),by rw[length_map]⟩) fun i σ H' x H3 pv y=>?_⟩;obtain⟨p,x1,rfl,hp,rfl,hx⟩:=y;obtain⟨g',e1,rfl⟩:=gat (hx _ (SqT.of (hg i σ H' pv)));exact⟨p,g',e1,rfl,hp,rfl⟩
 have eg0:=s0 _ _ eg;have hg:∀i σ H',Pv i σ H'->H' g=some (.lst (gs.map V.int)):=fun i σ H' pv=>by rw[hPv] at pv;obtain⟨_,_,_,_,s,_⟩:=pv;exact s _ _ eg
 push_cast [eg0,rdZ];refine⟨ω,ω,main _ (fun i σ H' hi pv=>⟨_,_,SqL.of (hg i σ H' pv),getElem?_eq_getElem (by rw[length_map];exact hi)⟩) (fun σ H' pv=>⟨_,SqL.of (hg _ σ H' pv),by rw[length_map]⟩) fun i σ H' x H3 pv y=>?_⟩;obtain⟨p,x1,rfl,hp,rfl,hx⟩:=y;obtain⟨g',e1,rfl⟩:=gat (hx _ (SqL.of (hg i σ H' pv)));exact⟨p,g',e1,rfl,hp,rfl⟩
theorem Oq (hB:∀x:Str,x∈BLs->mg x=none) (F:Fun K "mask_goals" "mask_goals" cX f fd):dF P w K mg base CX0 1 f fd ["row","at"] G9:=by
 refine F.okq jz (fun vs H Q E h=>?_) (fun cdv A outer s H vs Q E hr h=>?_)
 ·obtain⟨x,at_,lo,wd,bits,t,rfl,_⟩:=h;rfl
 obtain⟨x,at_,lo,wd,bits,t,rfl,⟨a,g,rfl,e,eg⟩,w1,w2,b0,q⟩:=h;refine⟨_,(aD (fK (Cp YQ (ao Ai) (Hv aq) Hw) (eN (n:=3) rfl (aV (bV qi jz.nd (.inl rfl)) (aV (bV Ah jz.nd (.inl rfl)) (aV (bV Ag jz.nd (.inl rfl)) cQ rfl) rfl) rfl) rfl rfl) rfl rfl rfl)
  (aG (aW (kJ (NX:=gY) (kX:=(ak cX).names) ["place","goal","at","bits"] [none,some 4,some 1,some 3] rfl rfl ⟨rfl,ψ,ψ,ψ,ψ⟩ rfl (gM rG (hB "range" fj) (aj (ao qi) aA rfl) rfl) (fun _ _ _ _ _=>(cZ 0 (show List.Nodup (["place","goal","at","bits"]:List Str) from by decide +kernel) rfl (Or.inl rfl))) (fun _ _ _ _ _=>mj) (fun _ _ _ _ _=>(jT (zM (aL Om (aL Oj (cO 3) (cO 0)) aq)) (cO 1) (aL aU (cO 2) aq))))))),?_⟩
 refine aO fun k hk=>?_;push_cast [e,cu];refine⟨δ,fun p hp=>?_⟩;have cut:tK [V.str "mask",V.int lo,V.int wd,V.int bits,V.int t] (some 2) none=[V.int wd,V.int bits,V.int t]:=rfl;have s0:=au (o:=HO.tup [V.int wd,V.int bits,V.int t]) hp;push_cast [cut];generalize upd H p (HO.tup [V.int wd,V.int bits,V.int t])=H0 at s0 |-;subst hk;push_cast;refine gR fun R hR=>?_;push_cast [oN];refine⟨ω,ω,?_⟩;obtain⟨Pc,hPc⟩:∃Pv:Nat->List V->L2.St->Hp->Prop,Pv=fun(i:Nat) acc τ H'=>∃(o0:Option V),H'=H0/\acc=((List.range i).map fun(p:Nat)=>if bitAt bits (p:Int)=true then t else at_+1).map V.int/\τ=[o0,some (.int t),some (.int at_),some (.int bits)]:=⟨_,rfl⟩;refine Gv hR (aK ω) Pc (by rw[hPc];exact⟨none,rfl,rfl,rfl⟩) ?_ ?_ ?_
 ·intro i acc τ H5 pc;rw[hPc] at pc;obtain⟨_,_,rfl,_⟩:=pc;simp
 ·intro i acc τ H5 hi pc;rw[hPc] at pc;obtain⟨o0,rfl,rfl,rfl⟩:=pc;push_cast;refine⟨ω,?_⟩;rw[Int.zero_add,hPc];have hb:(Builtin.bitAnd (bits/2^(i:Int).toNat) 1 != 0)=bitAt bits (i:Int):=VJ _ _;rw[hb];have hn:∀x:Int,x=(if bitAt bits (i:Int)=true then t else at_+1)->∃(o0:Option V),H5=H5/\List.map V.int (List.map (fun(p:Nat)=>if bitAt bits (p:Int)=true then t else at_+1) (List.range i))++[V.int x]=List.map V.int (List.map (fun(p:Nat)=>if bitAt bits (p:Int)=true then t else at_+1) (List.range (i+1)))/\[some (V.int (i:Int)),some (V.int t),some (V.int at_),some (V.int bits)]=[o0,some (.int t),some (.int at_),some (.int bits)]:=fun x hx=>⟨_,rfl,by rw[List.range_succ,map_append,map_append,hx];rfl,rfl⟩;split
  ·rename_i c;exact hn t (by rw[if_pos c])
  rename_i c;exact hn _ (by rw[if_neg c])
 intro acc τ H5 d pc hd;rw[hPc] at pc;obtain⟨o0,rfl,rfl,rfl⟩:=pc;exact q d _ (s0.trans (au hd)) (s0.none hd) aB
noncomputable abbrev jE:List Str:=["row","at","low","high","word","first","last"]
noncomputable abbrev fC:Stmt:=top 7
theorem pO:bB jE q7_ (ak fC):=⟨rfl,rfl,rfl,ψ,rfl,ψ,ψ⟩
theorem cT:NM_ jE fC 0 "row" := .of ψ
theorem nH:NM_ jE fC 1 "at" := .of ψ
theorem ye:NM_ jE fC 2 "low" := .of ψ
theorem yd:NM_ jE fC 3 "high" := .of ψ
theorem jZ:NM_ jE fC 4 "word" := .of ψ
theorem rz:NM_ jE fC 5 "first" := .of ψ
theorem rm:NM_ jE fC 6 "last" := .of ψ
theorem qp:GI_ fC "mask_goals" := by decide +kernel
theorem mX:GI_ fC "runs_of" := by decide +kernel
theorem Rb:Bn "ways_of" := ⟨ψ,ψ⟩
noncomputable abbrev gH:List Str:=["reached","spans","ways","span","way","low","high","goal","first","last"]
noncomputable abbrev cP:Stmt:=top 8
theorem eY:bB gH q8_ (ak cP):=⟨rfl,rfl,rfl,ψ,rfl,ψ,ψ⟩
theorem JN:NM_ gH cP 0 "reached" := .of ψ
theorem yj:NM_ gH cP 1 "spans" := .of ψ
theorem yh:NM_ gH cP 2 "ways" := .of ψ
theorem nP:NM_ gH cP 3 "span" := .of ψ
theorem nO:NM_ gH cP 4 "way" := .of ψ
theorem rB:NM_ gH cP 5 "low" := .of ψ
theorem nM:NM_ gH cP 6 "high" := .of ψ
theorem yg:NM_ gH cP 7 "goal" := .of ψ
theorem rA:NM_ gH cP 8 "first" := .of ψ
theorem nJ:NM_ gH cP 9 "last" := .of ψ
theorem sI:GI_ cP "len" := by decide +kernel
theorem sH:GI_ cP "max" := by decide +kernel
theorem sG:GI_ cP "min" := by decide +kernel
theorem Rc:Bn "send_on" := ⟨ψ,ψ⟩
theorem Ue (hB:∀x:Str,x∈BLs->mg x=none) (CRunsOf:Cal P w K mg base "runs_of" 1 ["first","goals"] BK) (CMaskGoals:Cal P w K mg base "mask_goals" 1 ["row","at"] G9) (F:Fun K "ways_of" "ways_of" fC f fd):dF P w K mg base CX0 2 f fd q7_ Ma:=by
 refine F.okq pO (fun vs H Q E h=>?_) (fun cdv A outer s H vs Q E hr h=>?_)
 ·obtain⟨x,c,m,j,lo,hi,rfl,_⟩:=h;rfl
 obtain⟨x,c,m,j,lo,hi,rfl,rx,hok,hrg,hbd,q⟩:=h;refine⟨_,(aD (bU jZ pO.nd (aJ aR (ao cT) aq (fun _ _=>rfl)) rfl (.inl rfl))
  (aD (bH (aQ (b7 hr.bA) (ao jZ) bG (aP _)) (aG (aW (cD aA))) bK)
  (aD (bH (aQ (b7 hr.bA) (ao jZ) bG (aP _)) (aG (aW (bw CRunsOf (hr.mono δ) mX DK (aj (aJ aR (ao cT) aq (fun _ _=>rfl)) (aj (aJ aR (ao cT) aq (fun _ _=>rfl)) aA rfl) rfl) rfl rfl))) bK)
  (aD (bH (aQ (b7 hr.bA) (ao jZ) bG (aP _)) (aG (aW (bw CRunsOf (hr.mono δ) mX DK (aj (aJ aR (ao cT) aq (fun _ _=>rfl)) (aj (bw CMaskGoals (hr.mono δ) qp DN (aj (ao cT) (aj (ao nH) aA rfl) rfl) rfl rfl) aA rfl) rfl) rfl rfl))) bK)
  (aD (bH (aQ (b7 hr.bA) (ao jZ) bG (aP _)) (aG (aW (cD (aj (aY (aj (ao ye) (aj (aL eO (aJ aR (ao cT) aq (fun _ _=>rfl)) aq) (aj (aJ aR (ao cT) aq (fun _ _=>rfl)) aA rfl) rfl) rfl)) (aj (aY (aj (aJ aR (ao cT) aq (fun _ _=>rfl)) (aj (ao yd) (aj (aL aU (ao nH) aq) aA rfl) rfl) rfl)) aA rfl) rfl)))) bK)
  (aD (bU rz pO.nd (aJ aR (ao cT) aq (fun _ _=>rfl)) rfl (.inl rfl))
  (aD (bU rm pO.nd (aJ aR (ao cT) (eZ cN aq) (fun _ _=>rfl)) rfl (.inl rfl))
  (aG (aW (cD (aj (aY (aj (ao ye) (aj (aL eO (ao rz) aq) (aj (aL aU (ao nH) aq) aA rfl) rfl) rfl)) (aj (aY (aj (ao rz) (aj (ao rm) (aj (aJ aR (ao cT) (eZ cN aq) (fun _ _=>rfl)) aA rfl) rfl) rfl)) (aj (aY (aj (aL aU (ao rm) aq) (aj (ao yd) (aj (aL aU (ao nH) aq) aA rfl) rfl) rfl)) aA rfl) rfl) rfl))))))))))),?_⟩
 have rx0:=rx;obtain⟨a,g,rfl,e,eg⟩:=rx;have hw:=lX c g;refine aO fun k hk=>?_;push_cast [e];refine⟨_,hw,?_⟩;push_cast;subst hk;refine aO fun k hk=>?_;refine jA fun kt ke hkt hke=>?_;push_cast;by_cases c1:jw c = "pick"
 ·obtain⟨l,rfl⟩:=Bt c1;rw[if_pos c1];subst hkt;push_cast;exact⟨aK δ,fun r hr0=>q r _ _ [] (au hr0) hr0 aB .nil K7 (zero_le _)⟩
 rw[if_neg c1];subst hke;push_cast;subst hk;refine aO fun k hk=>?_;refine jA fun kt ke hkt hke=>?_;push_cast;by_cases c2:jw c = "table"
 ·obtain⟨l,gs,rfl⟩:=lM c2;rw[if_pos c2];subst hkt;have eg:=eg _ _ rfl;push_cast [e,cu];exact⟨g,l,gs,rfl,.inl eg,hbd.1,hbd.2.1,le_trans hbd.2.2 δ,fun r H' us ws s hn er t ri=>q r H' us ws s hn er t (K5 hok ri) (le_trans ri.ln (le_trans hbd.2.2 δ))⟩
 rw[if_neg c2];subst hke;push_cast;subst hk;refine aO fun k hk=>?_;refine jA fun kt ke hkt hke=>?_;push_cast;by_cases c3:jw c = "mask"
 ·obtain⟨l,wd,bits,t,rfl⟩:=lN c3;rw[if_pos c3];subst hkt;push_cast [e,cu];refine⟨_,_,l,wd,bits,t,rfl,rx0,hok.2.1,hok.2.2.1,hok.2.2.2,fun r1 H1 s1 hn1 er1=>?_⟩;have lm:=JV (j:Int) wd bits t;have w2:=hok.2.2.1;refine⟨r1,l,_,rfl,.inr er1,hbd.1,hbd.2,ω,fun r H' us ws s hn er t ri=>q r H' us ws (s1.trans s) (s1.none hn) er t (K9 hok ?_) (le_trans ri.ln ω)⟩;rw[lm] at ri;exact ri
 rw[if_neg c3];subst hke;push_cast;subst hk;refine aO fun k hk=>?_;refine jA fun kt ke hkt hke=>?_;push_cast;by_cases c4:jw c = "below"
 ·obtain⟨n,t,rfl⟩:=Bu c4;rw[if_pos c4];subst hkt;push_cast [e,cu];refine⟨aK δ,fun p1 hp1=>?_⟩;have s1:=au (o:=HO.tup [V.int lo,V.int (n-1),V.int t]) hp1;have ea1:=s1 _ _ e;have e1:upd H p1 (HO.tup [V.int lo,V.int (n-1),V.int t]) p1=_:=aB;generalize upd H p1 (HO.tup [V.int lo,V.int (n-1),V.int t])=H1 at s1 ea1 e1 |-;push_cast [ea1,cu];refine⟨aK δ,fun p2 hp2=>?_⟩;have s2:=au (o:=HO.tup [V.int n,V.int hi,V.int ((j:Int)+1)]) hp2;have e2:upd H1 p2 (HO.tup [V.int n,V.int hi,V.int ((j:Int)+1)]) p2=_:=aB;generalize upd H1 p2 (HO.tup [V.int n,V.int hi,V.int ((j:Int)+1)])=H2 at s2 e2 |-;refine⟨aK δ,fun r hr0=>?_⟩;have s12:=s1.trans s2;have tt:bf trE H2 [.ref p1,.ref p2] [(lo,n-1,t),(n,hi,(j:Int)+1)]:=.cons (s2 _ _ e1) (.cons e2 .nil);exact q r _ _ _ (s12.trans (au hr0)) (s12.none hr0) aB (tt.yZ hr0) (La hok) (by show 2<=1000000;decide)
 rw[if_neg c4];subst hke;push_cast;subst hk;cases c with
 | pik l=>exact absurd rfl c1
 | tab l gs=>exact absurd rfl c2
 | msk l wd bits t=>exact absurd rfl c3
 | low n t=>exact absurd rfl c4
 | one n t=>
  have am2:atI [V.str "is",V.int n,V.int t] (-2)=some (V.int n):=rfl;have am1:atI [V.str "is",V.int n,V.int t] (-1)=some (V.int t):=rfl;push_cast [e,cu,am2];refine⟨aK δ,fun p1 hp1=>?_⟩;have s1:=au (o:=HO.tup [V.int lo,V.int (n-1),V.int ((j:Int)+1)]) hp1;have ea1:=s1 _ _ e;have e1:upd H p1 (HO.tup [V.int lo,V.int (n-1),V.int ((j:Int)+1)]) p1=_:=aB;generalize upd H p1 (HO.tup [V.int lo,V.int (n-1),V.int ((j:Int)+1)])=H1 at s1 ea1 e1 |-;push_cast [ea1,cu,am1];refine⟨aK δ,fun p2 hp2=>?_⟩;have s2:=au (o:=HO.tup [V.int n,V.int n,V.int t]) hp2;have e2:upd H1 p2 (HO.tup [V.int n,V.int n,V.int t]) p2=_:=aB;generalize upd H1 p2 (HO.tup [V.int n,V.int n,V.int t])=H2 at s2 e2 |-;push_cast;refine⟨aK δ,fun p3 hp3=>?_⟩;have s3:=au (o:=HO.tup [V.int (n+1),V.int hi,V.int ((j:Int)+1)]) hp3;have e3:upd H2 p3 (HO.tup [V.int (n+1),V.int hi,V.int ((j:Int)+1)]) p3=_:=aB;generalize upd H2 p3 (HO.tup [V.int (n+1),V.int hi,V.int ((j:Int)+1)])=H3 at s3 e3 |-;refine⟨aK δ,fun r hr0=>?_⟩;have s13:=(s1.trans s2).trans s3;have tt:bf trE H3 [.ref p1,.ref p2,.ref p3] [(lo,n-1,(j:Int)+1),(n,n,t),(n+1,hi,(j:Int)+1)]:=.cons (s3 _ _ (s2 _ _ e1)) (.cons (s3 _ _ e2) (.cons e3 .nil));exact q r _ _ _ (s13.trans (au hr0)) (s13.none hr0) aB (tt.yZ hr0) (K8 hok) (by show 3<=1000000;decide)
 | rng n b t=>
  have am2:atI [V.str "within",V.int n,V.int b,V.int t] (-2)=some (V.int b):=rfl;have am1:atI [V.str "within",V.int n,V.int b,V.int t] (-1)=some (V.int t):=rfl;push_cast [e,cu,am2];refine⟨aK δ,fun p1 hp1=>?_⟩;have s1:=au (o:=HO.tup [V.int lo,V.int (n-1),V.int ((j:Int)+1)]) hp1;have ea1:=s1 _ _ e;have e1:upd H p1 (HO.tup [V.int lo,V.int (n-1),V.int ((j:Int)+1)]) p1=_:=aB;generalize upd H p1 (HO.tup [V.int lo,V.int (n-1),V.int ((j:Int)+1)])=H1 at s1 ea1 e1 |-;push_cast [ea1,cu,am1];refine⟨aK δ,fun p2 hp2=>?_⟩;have s2:=au (o:=HO.tup [V.int n,V.int b,V.int t]) hp2;have e2:upd H1 p2 (HO.tup [V.int n,V.int b,V.int t]) p2=_:=aB;generalize upd H1 p2 (HO.tup [V.int n,V.int b,V.int t])=H2 at s2 e2 |-;push_cast;refine⟨aK δ,fun p3 hp3=>?_⟩;have s3:=au (o:=HO.tup [V.int (b+1),V.int hi,V.int ((j:Int)+1)]) hp3;have e3:upd H2 p3 (HO.tup [V.int (b+1),V.int hi,V.int ((j:Int)+1)]) p3=_:=aB;generalize upd H2 p3 (HO.tup [V.int (b+1),V.int hi,V.int ((j:Int)+1)])=H3 at s3 e3 |-;refine⟨aK δ,fun r hr0=>?_⟩;have s13:=(s1.trans s2).trans s3;have tt:bf trE H3 [.ref p1,.ref p2,.ref p3] [(lo,n-1,(j:Int)+1),(n,b,t),(b+1,hi,(j:Int)+1)]:=.cons (s3 _ _ (s2 _ _ e1)) (.cons (s3 _ _ e2) (.cons e3 .nil));exact q r _ _ _ (s13.trans (au hr0)) (s13.none hr0) aB (tt.yZ hr0) (K6 hok hrg) (by show 3<=1000000;decide)
theorem Uh (hB:∀x:Str,x∈BLs->mg x=none) (F:Fun K "send_on" "send_on" cP f fd):dF P w K mg base CX0 1 f fd q8_ Mg:=by
 refine F.okq eY (fun vs H Q E h=>?_) (fun cdv A outer s H vs Q E hr h=>?_)
 ·obtain⟨lr,ls,lw,ps,X,us,uw,ss,ws,rfl,_⟩:=h;rfl
 obtain⟨lr,ls,lw,ps,X,us,uw,ss,ws,rfl,ra,es,ts,ew,tw,nw,hg,hz,q⟩:=h;refine⟨_,(aD (bU nP eY.nd aq rfl (.inl rfl))
  (aD (bU nO eY.nd aq rfl (.inl rfl))
  (aG (Ck PassesOwn.never (Ci (zL (aQ mD (ao nP) (bY dY sI (hB "len" jK) PySem.boot_len jM (aj (ao yj) aA rfl) rfl rfl) (aP _)) (tM (aQ mD (ao nO) (bY dY sI (hB "len" jK) PySem.boot_len jM (aj (ao yh) aA rfl) rfl rfl) (aP _))))) (aD (fK (aJ aR (ao yh) (ao nO) (fun _ _=>rfl)) (eN (n:=3) rfl (aV (bV rB eY.nd (.inl rfl)) (aV (bV nM eY.nd (.inl rfl)) (aV (bV yg eY.nd (.inl rfl)) cQ rfl) rfl) rfl) rfl rfl) rfl rfl rfl)
  (aD (fK (aJ aR (ao yj) (ao nP) (fun _ _=>rfl)) (eN (n:=2) rfl (aV (bV rA eY.nd (.inl rfl)) (aV (bV nJ eY.nd (.inl rfl)) cQ rfl) rfl) rfl rfl) rfl rfl rfl)
  (aD (bH (aQ xW (bY (nU rfl) sH (hB "max" Ak) boot_max Bg (aj (ao rB) (aj (ao rA) aA rfl) rfl) rfl rfl) (bY (rM rfl) sG (hB "min" vo) boot_min vW (aj (ao nM) (aj (ao nJ) aA rfl) rfl) rfl rfl) (aP _)) (aG (cB (cJ (aJ aR (ao JN) (ao yg) (fun _ _=>rfl)) (aY (aj (bY (nU rfl) sH (hB "max" Ak) boot_max Bg (aj (ao rB) (aj (ao rA) aA rfl) rfl) rfl rfl) (aj (bY (rM rfl) sG (hB "min" vo) boot_min vW (aj (ao nM) (aj (ao nJ) aA rfl) rfl) rfl rfl) aA rfl) rfl)) rfl rfl rfl rfl rfl) rfl)) bK)
  (aG (bH (aQ mD (ao nJ) (ao nM) (aP _)) (aG (Nv nP eY.nd aq Qg)) (aG (Nv nO eY.nd aq Qg))))))))))),?_⟩
 refine aO fun k hk=>?_;push_cast;subst hk;push_cast;have lsu:=ts.length;have lwu:=tw.length;obtain⟨Pv,hPv⟩:∃Pv:Nat->L2.St->Hp->Prop,Pv=fun(m:Nat) σ H'=>∃(i j:Nat)(done:List (Int×(Int×Int))) (o5 o6 o7 o8 o9:Option V),i<=ss.length/\j<=ws.length/\m+i+j=ss.length+ws.length/\done.length<=i+j/\fW (ss.length+ws.length) ss ws=done++fW m (ss.drop i) (ws.drop j)/\fB ps H H'/\H' ls=some (.lst us)/\RAt H' lr ps (fun g=>X g++newOf done (g:Int))/\σ=[some (.ref lr),some (.ref ls),some (.ref lw),some (.int (i:Int)),some (.int (j:Int)),o5,o6,o7,o8,o9]:=⟨_,rfl⟩;refine RG Pv (by rw[hPv];exact⟨_,0,0,[],_,_,_,_,_,zero_le _,zero_le _,rfl,le_refl _,rfl,fB.refl _ _,es,by simpa [newOf] using ra,rfl⟩) ?_;intro m σ H1 pv kt hkt;rw[hPv] at pv;obtain⟨i,j,done,o5,o6,o7,o8,o9,hi,hj,hm,hdl,hsf,s1,es1,ra1,rfl⟩:=pv;have ew1:=s1 _ _ nw ew;push_cast [es1,ew1];have fin:fW m (ss.drop i) (ws.drop j)=[]->Q .non H1:=fun h0=>by
  rw[h0,append_nil] at hsf;refine q H1 s1 ?_;rw[hsf];exact ra1
 by_cases hi1:i<ss.length
 ·rw[if_pos (show(i:Int)<(us.length:Int) by omega)];by_cases hj1:j<ws.length
  ·rw[if_pos (show(j:Int)<(uw.length:Int) by omega)];subst hkt;refine⟨fun σ' H'=>∃m',m'<m/\Pv m' σ' H',fun σ' H' h=>h,?_⟩;have hs:ss[i]?=some ss[i]:=getElem?_eq_getElem hi1;have hw:ws[j]?=some ws[j]:=getElem?_eq_getElem hj1;obtain⟨pp,hpp,epp⟩:=ts.get hs;obtain⟨pw,hpw,epw⟩:=tw.get hw;have mw:=mem_of_getElem? hw;have ds:=qz hs;have dw:=qz hw;generalize ss[i]=s at hs epp ds;generalize ws[j]=w at hw epw dw mw;replace epp:H pp=some (.tup [.int s.1,.int s.2]):=epp;replace epw:H pw=some (.tup [.int w.1,.int w.2.1,.int w.2.2]):=epw;have npp:∀{b:Addr}{ys:List V},H b=some (.tup ys)->b∉ps:=fun eb mb=>by
    obtain⟨n,hn⟩:=mem_iff_getElem?.mp mb;obtain⟨u',e',_⟩:=ra.el n _ hn;rw[e'] at eb;cases eb
   have epp1:=s1 _ _ (npp epp) epp;have epw1:=s1 _ _ (npp epw) epw;have hat:=bM hpp;have hatw:=bM hpw;obtain⟨m,rfl⟩:∃m',m=m'+1:=⟨m-1,ω⟩;rw[ds,dw] at hsf;refine aO fun k1 hk1=>?_;push_cast [ew1,hatw,epw1];subst hk1;refine aO fun k1 hk1=>?_;push_cast [es1,hat,epp1];subst hk1;refine aO fun k1 hk1=>?_;refine jA fun kt ke hkt hke=>?_;push_cast;have mx:(if s.1>w.1 then s.1 else w.1)=max w.1 s.1:=by split <;> omega
   have mn:(if s.2<w.2.1 then s.2 else w.2.1)=min w.2.1 s.2:=by split <;> omega
   rw[mx,mn];have sfe:fW (ss.length+ws.length) ss ws=done++((if max w.1 s.1<=min w.2.1 s.2 then [(w.2.2,(max w.1 s.1,min w.2.1 s.2))] else [])++(if s.2<w.2.1 then fW m (ss.drop (i+1)) (w::ws.drop (j+1)) else fW m (s::ss.drop (i+1)) (ws.drop (j+1)))):=hsf;have last:∀(done':List (Int×(Int×Int))) (H2:Hp),done'.length<=i+j+1->fW (ss.length+ws.length) ss ws=done'++(if s.2<w.2.1 then fW m (ss.drop (i+1)) (w::ws.drop (j+1)) else fW m (s::ss.drop (i+1)) (ws.drop (j+1)))->fB ps H H2->H2 ls=some (.lst us)->RAt H2 lr ps (fun g=>X g++newOf done' (g:Int))->k1 [some (V.ref lr),some (V.ref ls),some (V.ref lw),some (V.int (i:Int)),some (V.int (j:Int)),some (V.int w.1),some (V.int w.2.1),some (V.int w.2.2),some (V.int s.1),some (V.int s.2)] H2:=by
    intro done' H2 l2 sf2 s2 es2 ra2;subst hk1;push_cast;by_cases c2:s.2<w.2.1
    ·rw[if_pos c2] at sf2 |-;refine⟨m,lt_succ_self _,?_⟩;rw[hPv];exact⟨i+1,j,done',_,_,_,_,_,hi1,hj,ω,ω,by rw[dw];exact sf2,s2,es2,ra2,rfl⟩
    rw[if_neg c2] at sf2 |-;refine⟨m,lt_succ_self _,?_⟩;rw[hPv];exact⟨i,j+1,done',_,_,_,_,_,hi,hj1,ω,ω,by rw[ds];exact sf2,s2,es2,ra2,rfl⟩
   by_cases c:max w.1 s.1<=min w.2.1 s.2
   ·rw[if_pos c];subst hkt;rw[if_pos c,<- append_assoc] at sfe;obtain⟨g0,g1,gn⟩:=hg w mw;have hpg:ps[w.2.2.toNat]?=some ps[w.2.2.toNat]:=getElem?_eq_getElem ω;have hne:=gn _ hpg;generalize ps[w.2.2.toNat]=pg at hpg hne;have hag:atI (ps.map V.ref) w.2.2=some (V.ref pg):=by
     have:=bM (xs:=ps.map V.ref) (j:=w.2.2.toNat) (v:=V.ref pg) (by rw[getElem?_map,hpg];rfl);rwa [show((w.2.2.toNat:Nat):Int)=w.2.2 by omega] at this
    obtain⟨ug,eg,tg⟩:=ra1.el _ _ hpg;have elr:=ra1.e;push_cast [elr,hag,eg];refine⟨aK δ,fun q1 hq1=>?_⟩;have eg2:upd H1 q1 (.tup [.int (max w.1 s.1),.int (min w.2.1 s.2)]) pg=some (.lst ug):=by rw[aH (aF eg hq1)];exact eg
    rw[mx,mn];push_cast [eg2];have lg:=tg.length;refine⟨lt_of_lt_of_le (show ug.length<2000000 by
     have h1:=hz w.2.2.toNat;have h2:(newOf done ((w.2.2.toNat:Nat):Int)).length<=done.length:=by unfold newOf;rw[length_map];exact length_filter_le ..
     rw[lg,length_append];omega) δ,?_⟩
    have ra2:=(ra1.same (au (o:=.tup [.int (max w.1 s.1),.int (min w.2.1 s.2)]) hq1)).push (s:=(max w.1 s.1,min w.2.1 s.2)) hpg eg2 aB;have es2:upd (upd H1 q1 (.tup [.int (max w.1 s.1),.int (min w.2.1 s.2)])) pg (.lst (ug++[.ref q1])) ls=some (.lst us):=uc es1 hne.symm hq1;have s2:fB ps H (upd (upd H1 q1 (.tup [.int (max w.1 s.1),.int (min w.2.1 s.2)])) pg (.lst (ug++[.ref q1]))):=(s1.trans (au hq1).p).trans (fB.upd (mem_of_getElem? hpg));refine last _ _ (by rw[length_append,length_singleton];omega) sfe s2 es2 ?_;have eX:(fun g:Nat=>X g++newOf (done++[(w.2.2,(max w.1 s.1,min w.2.1 s.2))]) (g:Int))=fun g:Nat=>(X g++newOf done (g:Int))++(if g=w.2.2.toNat then [(max w.1 s.1,min w.2.1 s.2)] else []):=by
     funext g;rw[xZ,<- append_assoc];congr 1;unfold newOf;by_cases e:g=w.2.2.toNat
     ·rw[if_pos e,List.filter_cons_of_pos (by simp;omega)];rfl
     rw[if_neg e,List.filter_cons_of_neg (by simp;omega)];rfl
    rw[eX];exact ra2
   rw[if_neg c];subst hke;push_cast;rw[if_neg c,nil_append] at sfe;exact last done H1 ω sfe s1 es1 ra1
  rw[if_neg (show ¬(j:Int)<(uw.length:Int) by omega)];refine fin ?_;rw[List.drop_eq_nil_of_le (by omega:ws.length<=j)];cases m with
  | zero=>rfl
  | succ m=>cases ss.drop i <;> rfl
 rw[if_neg (show ¬(i:Int)<(us.length:Int) by omega)];refine fin ?_;rw[List.drop_eq_nil_of_le (by omega:ss.length<=i)];cases m <;> rfl
noncomputable abbrev jF:List Str:=["rows","low","high","reached","at","row"]
noncomputable abbrev dG:Stmt:=top 9
theorem pU:bB jF q2_ (ak dG):=⟨rfl,rfl,rfl,ψ,rfl,ψ,ψ⟩
theorem yr:NM_ jF dG 0 "rows" := .of ψ
theorem yq:NM_ jF dG 1 "low" := .of ψ
theorem yp:NM_ jF dG 2 "high" := .of ψ
theorem gQ:NM_ jF dG 3 "reached" := .of ψ
theorem j4:NM_ jF dG 4 "at" := .of ψ
theorem yo:NM_ jF dG 5 "row" := .of ψ
theorem qw:GI_ dG "enumerate" := by decide +kernel
theorem vN:GI_ dG "joined" := by decide +kernel
theorem vM:GI_ dG "send_on" := by decide +kernel
theorem vL:GI_ dG "ways_of" := by decide +kernel
theorem DP:Bn "come_to" := ⟨ψ,ψ⟩
theorem Ut (hB:∀x:Str,x∈BLs->mg x=none) (CJoined:Cal P w K mg base "joined" 1 ["spans"] Hj) (CWaysOf:Cal P w K mg base "ways_of" 2 q7_ Ma) (CSendOn:Cal P w K mg base "send_on" 1 q8_ Mg) (F:Fun K "come_to" "come_to" dG f fd):dF P w K mg base CX0 3 f fd q2_ zj:=by
 refine F.okq pU (fun vs H Q E h=>?_) (fun cdv A outer s H vs Q E hr h=>?_)
 ·obtain⟨l,ok,cs,low,high,rfl,_⟩:=h;rfl
 obtain⟨l,ok,cs,low,high,rfl,tr,rows,hcs,hlh,few,hb1,hb2,q⟩:=h;refine⟨_,(aD (pY (NX:=jF) (kX:=(ak dG).names) ["row"] [none] gQ pU.nd rfl rfl ⟨rfl,ψ,ψ,ψ,ψ⟩ rfl (fD (ao yr)) (fun _ _ _ _ _=>(cZ 0 (show List.Nodup (["row"]:List Str) from by decide +kernel) rfl (Or.inl rfl))) (fun _ _ _ _ _=>mj) (fun _ _ _ _ _=>(cD aA)))
  (aD (cB (cJ (aJ aR (ao gQ) aq (fun _ _=>rfl)) (aY (aj (ao yq) (aj (ao yp) aA rfl) rfl)) rfl rfl rfl rfl rfl) rfl)
  (aD (fJ PassesOwn.never rfl (pZ qw (hB "enumerate" gq) (aj (ao yr) aA rfl) rfl) (eN (n:=2) rfl (aV (bV j4 pU.nd (.inl rfl)) (aV (bV yo pU.nd (.inl rfl)) cQ rfl) rfl) rfl rfl)
  (aD (fK (bw CJoined (hr.mono δ) vN Rf (aj (aJ aR (ao gQ) (ao j4) (fun _ _=>rfl)) aA rfl) rfl rfl) (S6 (ao gQ) (ao j4) uE) rfl rfl rfl)
  (aG (cB (bw CSendOn (hr.mono δ) vM Rc (aj (ao gQ) (aj (aJ aR (ao gQ) (ao j4) (fun _ _=>rfl)) (aj (bw CWaysOf (hr.mono δ) vL Rb (aj (ao yo) (aj (ao j4) (aj (ao yq) (aj (ao yp) aA rfl) rfl) rfl) rfl) rfl rfl) aA rfl) rfl) rfl) rfl rfl) rfl))) (fun _=>rfl))
  (aG (aW (ao gQ)))))),?_⟩
 have tr0:=tr;cases tr with
 | lst o el zl tsl=>
  rename_i xs;have hxl:=tsl.length;rw[length_map] at hxl;refine aO fun k hk=>?_;refine gR fun R hR=>?_;push_cast [el];obtain⟨Pc,hPc⟩:∃Pv:Nat->List V->L2.St->Hp->Prop,Pv=fun(i:Nat) acc τ H'=>∃(ps:List Addr),Same H H'/\acc=ps.map V.ref/\ps.length=i/\ps.Nodup/\(∀p,p∈ps->H p=none/\H' p=some (.lst [])):=⟨_,rfl⟩;refine rK hR (aK ω) Pc (by rw[hPc];exact⟨[],Same.refl _,rfl,rfl,.nil,fun p m=>(by cases m)⟩) ?_ ?_ ?_ ?_
  ·intro i acc τ H5 pc;rw[hPc] at pc;obtain⟨ps,_,rfl,h1,_⟩:=pc;rw[length_map];omega
  ·intro i acc τ H5 pc;rw[hPc] at pc;obtain⟨ps,s,_⟩:=pc;exact SqL.of (s _ _ el)
  ·intro i x acc τ H5 hx pc;rw[hPc] at pc;obtain⟨ps,s5,rfl,hi5,nd5,hp5⟩:=pc;push_cast;refine⟨aK δ,fun p hp=>?_⟩;rw[hPc];have np:p∉ps:=fun m=>by rw[(hp5 p m).2] at hp;cases hp
   refine⟨ps++[p],s5.trans (au hp),by rw[map_append];rfl,by rw[length_append,hi5];rfl,nodup_append.mpr ⟨nd5,nodup_cons.mpr ⟨not_mem_nil,.nil⟩,fun a ma b mb=>?_⟩,fun b mb=>?_⟩
   ·rw[mem_singleton.mp mb];exact fun z=>np (z ▸ ma)
   rcases mem_append.mp mb with mb|mb
   ·exact⟨(hp5 b mb).1,au hp _ _ (hp5 b mb).2⟩
   rw[mem_singleton.mp mb];exact⟨s5.none hp,aB⟩
  intro acc τ H5 d pc hd;rw[hPc] at pc;obtain⟨ps,s5,rfl,hi5,nd5,hp5⟩:=pc;push_cast;have ra:RAt (upd H5 d (.lst (ps.map V.ref))) d ps fun _=>[]:=⟨aB,fun m=>(by rw[(hp5 d m).2] at hd;cases hd),nd5,fun j p hp=>⟨[],au hd _ _ (hp5 p (mem_of_getElem? hp)).2,.nil⟩⟩;have s6:Same H (upd H5 d (.lst (ps.map V.ref))):=s5.trans (au hd);have hd0:=s5.none hd;have hps:∀p,p∈ps->H p=none:=fun p m=>(hp5 p m).1;generalize upd H5 d (.lst (ps.map V.ref))=H6 at ra s6 |-;subst hk;refine aO fun k hk=>?_;have hlen:=rows.1;have hp0:ps[0]?=some ps[0]:=getElem?_eq_getElem ω;generalize ps[0]'ω=p0 at hp0;have ha0:atI (ps.map V.ref) 0=some (V.ref p0):=bM (j:=0) (by rw[getElem?_map,hp0];rfl);obtain⟨u0,e0,t0⟩:=ra.el 0 p0 hp0;cases t0;have elr:=ra.e;push_cast [elr,ha0,e0];refine⟨aK δ,fun q1 hq1=>?_⟩;have e01:upd H6 q1 (.tup [.int low,.int high]) p0=some (.lst []):=by rw[aH (aF e0 hq1)];exact e0
  push_cast [e01];refine⟨δ,?_⟩;have ra2:=(ra.same (au (o:=.tup [.int low,.int high]) hq1)).push (s:=(low,high)) hp0 e01 aB;have s7:Same H (upd (upd H6 q1 (.tup [.int low,.int high])) p0 (.lst ([]++[.ref q1]))):=fX s6 (hps p0 (mem_of_getElem? hp0)) hq1;rw[nil_append] at ra2 s7;generalize upd (upd H6 q1 (.tup [.int low,.int high])) p0 (.lst [.ref q1])=H7 at ra2 s7 |-;subst hk;refine aO fun k hk=>?_;refine jr fun R hR=>?_;have el7:=s7 _ _ el;push_cast [el7,nT,tW,tU];obtain⟨Pv,hPv⟩:∃Pv:Nat->L2.St->Hp->Prop,Pv=fun(i:Nat) σ H'=>∃(ps:List Addr)(X:Nat->List (Int×Int)) (o4 o5:Option V),Same H H'/\(∀p,p∈ps->H p=none)/\RAt H' d ps X/\ps.length=cs.length/\CI cs low high X i/\σ=[some (.ref l),some (.int low),some (.int high),some (.ref d),o4,o5]:=⟨_,rfl⟩;refine Wc hR Pv ?_ (fun i σ H' pv=>by rw[hPv] at pv;obtain⟨_,_,_,_,s,_⟩:=pv;exact s _ _ el) ?_ ?_
  ·rw[hPv];exact⟨ps,_,_,_,s7,hps,ra2,ω,CI.start hlh,rfl⟩
  ·intro i x σ H2 p hx pv hp;rw[hPv] at pv;obtain⟨ps,X,o4,o5,s2,hps,ra,hpl,ci,rfl⟩:=pv;have li:i<cs.length:=by have:=(List.getElem?_eq_some_iff.mp hx).1;omega
   have hc:cs[i]?=some cs[i]:=getElem?_eq_getElem li;have hin:cs[i]∈cs:=getElem_mem li;have hcok:=rows.2 i _ hc;obtain⟨x',hx',rx⟩:=tsl.row hc;rw[hx] at hx';cases hx';generalize cs[i]=c at hc hin hcok rx;have s3:Same H2 (upd H2 p (.tup [.int (i:Nat),x])):=au hp;have ep:upd H2 p (.tup [.int (i:Nat),x]) p=some (.tup [.int (i:Nat),x]):=aB;generalize upd H2 p (.tup [.int (i:Nat),x])=H3 at s3 ep |-;have ra3:=ra.same s3;have hpi:ps[i]?=some ps[i]:=getElem?_eq_getElem ω;generalize ps[i]'ω=pi at hpi;have hai:atI (ps.map V.ref) (i:Int)=some (V.ref pi):=bM (by rw[getElem?_map,hpi];rfl);obtain⟨ui,ei,ti⟩:=ra3.el i pi hpi;have elr:=ra3.e;push_cast [ep,elr,hai];have xl:=ci.Vn few i;refine⟨pi,ui,X i,rfl,ei,ti,fun s m=>(by have:=ci.inside i s m;exact⟨this.1,ω,ω⟩),ω,fun r H4 us' ys s4 hn4 er t4 gy cy ly=>?_⟩;have fy:∀s,s∈ys->∃z,z∈X i/\z.1=s.1:=fun s m=>gy.fst cy m;have ra4:=ra3.same s4;have elr4:=ra4.e;have hrp:r∉ps:=fun m=>by
    obtain⟨n,hn⟩:=mem_iff_getElem?.mp m;obtain⟨u',e',_⟩:=ra3.el n _ hn;rw[e'] at hn4;cases hn4
   have hdr:d≠r:=aF elr hn4;push_cast [elr4];refine⟨i,Qd (by rw[length_map];omega),?_⟩;have ra5:=ra4.put (k:=i) ω hrp hdr er t4;have esx:(ps.map V.ref).set i (V.ref r)=(ps.set i r).map V.ref:=(List.map_set ..).symm;rw[esx];have s24:Same H H4:=(s2.trans s3).trans s4;have hr0:H r=none:=(s2.trans s3).none hn4;have s5:Same H (upd H4 d (.lst ((ps.set i r).map V.ref))):=jQ s24 hd0;have er5:upd H4 d (.lst ((ps.set i r).map V.ref)) r=some (.lst us'):=by rw[aH hdr.symm];exact er
   have t5:bf prE (upd H4 d (.lst ((ps.set i r).map V.ref))) us' ys:=t4.sU elr4;generalize upd H4 d (.lst ((ps.set i r).map V.ref))=H5 at ra5 s5 er5 t5 |-;have hps5:∀p,p∈ps.set i r->H p=none:=fun b m=>by
    rcases List.mem_or_eq_of_mem_set m with m|m
    ·exact hps b m
    rw[m];exact hr0
   have hps5l:(ps.set i r).length=cs.length:=by rw[length_set];exact hpl
   have hri:(ps.set i r)[i]?=some r:=getElem?_set_self ω;generalize ps.set i r=ps5 at ra5 hps5 hps5l hri |-;have elr5:=ra5.e;have hai5:atI (ps5.map V.ref) (i:Int)=some (V.ref r):=bM (by rw[getElem?_map,hri];rfl);push_cast [elr5,hai5];refine⟨x,c,cs.length,i,low,high,rfl,rx.same s5,hcok,(hcs c hin).1,(hcs c hin).2,fun rw_ H6 uw ws s6 hn6 ew tw hw lw=>?_⟩;have ra6:=ra5.same s6;have nrw:rw_∉ps5:=fun m=>by
    obtain⟨n,hn⟩:=mem_iff_getElem?.mp m;obtain⟨u',e',_⟩:=ra5.el n _ hn;rw[e'] at hn6;cases hn6
   have ly64:=ci.Vn few i;refine⟨d,r,rw_,ps5,_,us',uw,ys,ws,rfl,ra6,s6 _ _ er5,t5.same s6,ew,tw,nrw,fun w mw=>?_,fun j=>?_,fun H7 s7' ra7=>?_⟩
   ·have g:=hw.gl w mw;refine⟨ω,ω,fun p' hp'=>O2 ra6.nd hp' hri ω⟩
   ·have:=ci.Vn few j;show(if j=i then ys else X j).length+ys.length+ws.length<2000000;split <;> omega
   have sF:Same H H7:=fun b o hb=>s7' b o (fun m=>by rw[hps5 b m] at hb;cases hb) (s6 _ _ (s5 _ _ hb));rw[hPv];exact⟨ps5,_,_,_,sF,hps5,ra7,hps5l,ci.step rows hc gy cy fy hw (Mv _ (le_refl _) (gy.up.imp fun {a b} q=>ω) hw.up),rfl⟩
  intro σ H2 pv;rw[hPv] at pv;obtain⟨ps,X,o4,o5,s2,hps,ra,hpl,ci,rfl⟩:=pv;subst hk;push_cast;rw[hxl] at ci;exact q d ps X H2 s2 hd0 hps ra hpl ci (ci.Vn few)
noncomputable abbrev Je:List Str:=["row"]
noncomputable abbrev pX:Stmt:=top 1
theorem MF:bB Je ["row"] (ak pX):=⟨rfl,rfl,rfl,ψ,rfl,ψ,ψ⟩
theorem fQ:NM_ Je pX 0 "row" := .of ψ
theorem Dm:GI_ pX "len" := by decide +kernel
theorem Rg:Bn "ends_of" := ⟨ψ,ψ⟩
noncomputable abbrev eG:List Str:=["row","spans","ends","low","high"]
noncomputable abbrev b8:Stmt:=top 10
theorem iu:bB eG ["row","spans"] (ak b8):=⟨rfl,rfl,rfl,ψ,rfl,ψ,ψ⟩
theorem vd:NM_ eG b8 0 "row" := .of ψ
theorem u9:NM_ eG b8 1 "spans" := .of ψ
theorem dX:NM_ eG b8 2 "ends" := .of ψ
theorem gm:NM_ eG b8 3 "low" := .of ψ
theorem mQ:NM_ eG b8 4 "high" := .of ψ
theorem n8:GI_ b8 "ends_of" := by decide +kernel
theorem rH:GI_ b8 "max" := by decide +kernel
theorem wY:Bn "least_beyond" := ⟨ψ,ψ⟩
noncomputable abbrev eH:List Str:=["rows","reached","at","spans","number"]
noncomputable abbrev cg:Stmt:=top 11
theorem iw:bB eH ["rows","reached"] (ak cg):=⟨rfl,rfl,rfl,ψ,rfl,ψ,ψ⟩
theorem vg:NM_ eH cg 0 "rows" := .of ψ
theorem vf:NM_ eH cg 1 "reached" := .of ψ
theorem jq:NM_ eH cg 2 "at" := .of ψ
theorem mR:NM_ eH cg 3 "spans" := .of ψ
theorem jo:NM_ eH cg 4 "number" := .of ψ
theorem lD:GI_ cg "enumerate" := by decide +kernel
theorem jL:GI_ cg "least_beyond" := by decide +kernel
theorem wZ:Bn "beyond_among" := ⟨ψ,ψ⟩
theorem Ur (hB:∀x:Str,x∈BLs->mg x=none) (F:Fun K "ends_of" "ends_of" pX f fd):dF P w K mg base CX0 1 f fd ["row"] Ml:=by
 refine F.okq MF (fun vs H Q E h=>?_) (fun cdv A outer s H vs Q E hr h=>?_)
 ·obtain⟨x,c,rfl,_⟩:=h;rfl
 obtain⟨x,c,rfl,⟨a,g,rfl,e,eg⟩,q1,q2⟩:=h;refine⟨_,(aD (bH (aQ (b7 hr.bA) (aJ aR (ao fQ) aq (fun _ _=>rfl)) bG (aP _)) (aG (aW (aY (aj (aJ aR (ao fQ) aq (fun _ _=>rfl)) (aj (aL eO (aL aU (aJ aR (ao fQ) aq (fun _ _=>rfl)) (aJ aR (ao fQ) aq (fun _ _=>rfl))) aq) aA rfl) rfl)))) bK)
  (aD (bH (aQ (b7 hr.bA) (aJ aR (ao fQ) aq (fun _ _=>rfl)) bG (aP _)) (aG (aW (aY (aj (aJ aR (ao fQ) aq (fun _ _=>rfl)) (aj (aL eO (aL aU (aJ aR (ao fQ) aq (fun _ _=>rfl)) (bY dY Dm (hB "len" jK) PySem.boot_len jM (aj (aJ aR (ao fQ) aq (fun _ _=>rfl)) aA rfl) rfl rfl)) aq) aA rfl) rfl)))) bK)
  (aG (aW gh)))),?_⟩
 have hw:=lX c g;refine aO fun k hk=>?_;refine jA fun kt ke hkt hke=>?_;push_cast [e];refine⟨_,hw,?_⟩;push_cast;by_cases c1:jw c = "mask"
 ·rw[if_pos c1];obtain⟨l,wd,bits,t,rfl⟩:=lN c1;subst hkt;push_cast [e,cu];exact⟨aK δ,fun p hp=>q2 _ _ rfl p hp⟩
 rw[if_neg c1];subst hke;push_cast;subst hk;refine aO fun k hk=>?_;refine jA fun kt ke hkt hke=>?_;push_cast [e];refine⟨_,hw,?_⟩;push_cast;by_cases c2:jw c = "table"
 ·rw[if_pos c2];obtain⟨l,gs,rfl⟩:=lM c2;subst hkt;have eg:=eg _ _ rfl;push_cast [e,cu,eg,length_map];exact⟨aK δ,fun p hp=>q2 _ _ rfl p hp⟩
 rw[if_neg c2];subst hke;push_cast;subst hk;push_cast;refine q1 ?_;cases c with
 | msk _ _ _ _=>exact absurd rfl c1
 | tab _ _=>exact absurd rfl c2
 | _=>rfl
theorem Ot (hB:∀x:Str,x∈BLs->mg x=none) (CEndsOf:Cal P w K mg base "ends_of" 1 ["row"] Ml) (F:Fun K "least_beyond" "least_beyond" b8 f fd):dF P w K mg base CX0 2 f fd ["row","spans"] Hf:=by
 refine F.okq iu (fun vs H Q E h=>?_) (fun cdv A outer s H vs Q E hr h=>?_)
 ·obtain⟨x,c,ls,us,ss,rfl,_⟩:=h;rfl
 obtain⟨x,c,ls,us,ss,rfl,rx,es,ts,q⟩:=h;refine⟨_,(aD (bU dX iu.nd (bw CEndsOf (hr.mono δ) n8 Rg (aj (ao vd) aA rfl) rfl rfl) rfl (.inl rfl))
  (aD (bH (aQ uM (ao dX) gh (aP _)) (aG (aW gh)) bK)
  (aD (fJ PassesOwn.never rfl (fD (ao u9)) (eN (n:=2) rfl (aV (bV gm iu.nd (.inl rfl)) (aV (bV mQ iu.nd (.inl rfl)) cQ rfl) rfl) rfl rfl)
  (aD (bH (aQ mD (ao gm) (aJ aR (ao dX) aq (fun _ _=>rfl)) (aP _)) (aG (aW (ao gm))) bK)
  (aG (bH (aQ V7 (ao mQ) (aJ aR (ao dX) aq (fun _ _=>rfl)) (aP _)) (aG (aW (bY (nU rfl) rH (hB "max" Ak) boot_max Bg (aj (ao gm) (aj (aL aU (aJ aR (ao dX) aq (fun _ _=>rfl)) aq) aA rfl) rfl) rfl rfl))) bK))) (fun _=>rfl))
  (aG (aW gh))))),?_⟩
 refine aO fun k hk=>?_;push_cast;refine⟨x,c,rfl,rx,fun hn=>?_,fun lo hi hn p hp=>?_⟩
 ·subst hk;push_cast;have:lbC c ss=none:=by unfold lbC;rw[hn]
  rw[this] at q;exact q H (Same.refl _)
 have el:lbC c ss=lbL lo hi ss:=by unfold lbC;rw[hn]
 rw[el] at q;have s1:=au (o:=.tup [.int lo,.int hi]) hp;have e1:upd H p (.tup [.int lo,.int hi]) p=some (.tup [.int lo,.int hi]):=aB;have es1:=s1 _ _ es;generalize upd H p (.tup [.int lo,.int hi])=H1 at s1 e1 es1 |-;subst hk;push_cast;refine jr fun R hR=>?_;push_cast [es1];have lu:=ts.length;obtain⟨Pv,hPv⟩:∃Pv:Nat->L2.St->Hp->Prop,Pv=fun(i:Nat) σ H'=>∃(o3 o4:Option V),H'=H1/\lbL lo hi ss=lbL lo hi (ss.drop i)/\σ=[some x,some (.ref ls),some (.ref p),o3,o4]:=⟨_,rfl⟩;refine yK hR Pv (by rw[hPv];exact⟨_,_,rfl,rfl,rfl⟩) (fun i σ H' _ pv=>by rw[hPv] at pv;obtain⟨_,_,rfl,_⟩:=pv;exact SqL.of es1) ?_ ?_
 ·intro i y σ H2 hy pv;rw[hPv] at pv;obtain⟨o3,o4,rfl,hlb,rfl⟩:=pv;obtain⟨pz,z,rfl,hz,ez⟩:=(ts.same s1).got hy;replace ez:H2 pz=some (.tup [.int z.1,.int z.2]):=ez;rw[qz hz] at hlb;replace hlb:lbL lo hi ss=(if z.1<lo then some z.1 else if z.2>hi then some (max z.1 (hi+1)) else lbL lo hi (ss.drop (i+1))):=hlb;push_cast [ez,e1];by_cases c1:z.1<lo
  ·rw[if_pos c1] at hlb |-;rw[hlb] at q;exact q _ s1
  rw[if_neg c1] at hlb |-;push_cast [e1];by_cases c2:z.2>hi
  ·rw[if_pos c2] at hlb;rw[if_pos (show hi<z.2 by omega)];have mx:(if hi+1>z.1 then hi+1 else z.1)=max z.1 (hi+1):=by split <;> omega
   rw[hlb] at q;push_cast [e1,mx];exact q _ s1
  rw[if_neg c2] at hlb;rw[if_neg (show ¬hi<z.2 by omega),hPv];exact⟨_,_,rfl,hlb,rfl⟩
 intro σ H2 pv;rw[hPv] at pv;obtain⟨o3,o4,rfl,hlb,rfl⟩:=pv;rw[List.drop_eq_nil_of_le ω] at hlb;push_cast;rw[hlb] at q;exact q _ s1
theorem Ow (hB:∀x:Str,x∈BLs->mg x=none) (CLeastBeyond:Cal P w K mg base "least_beyond" 2 ["row","spans"] Hf) (F:Fun K "beyond_among" "beyond_among" cg f fd):dF P w K mg base CX0 3 f fd ["rows","reached"] Hl:=by
 refine F.okq iw (fun vs H Q E h=>?_) (fun cdv A outer s H vs Q E hr h=>?_)
 ·obtain⟨l,r,ok,cs,ps,X,rfl,_⟩:=h;rfl
 obtain⟨l,r,ok,cs,ps,X,rfl,tr,ra,hpl,q1,q2⟩:=h;refine⟨_,(aD (fJ PassesOwn.never rfl (pZ lD (hB "enumerate" gq) (aj (ao vf) aA rfl) rfl) (eN (n:=2) rfl (aV (bV jq iw.nd (.inl rfl)) (aV (bV mR iw.nd (.inl rfl)) cQ rfl) rfl) rfl rfl)
  (aD (bU jo iw.nd (bw CLeastBeyond (hr.mono δ) jL wY (aj (aJ aR (ao vg) (ao jq) (fun _ _=>rfl)) (aj (ao mR) aA rfl) rfl) rfl rfl) rfl (.inl rfl))
  (aG (bH (aQ Ua (ao jo) gh (aP _)) (aG (aW (aY (aj (ao jq) (aj (ao jo) aA rfl) rfl)))) bK))) (fun _=>rfl))
  (aG (aW gh))),?_⟩
 cases tr with
 | lst o el zl tsl=>
  rename_i xs;have hxl:=tsl.length;rw[length_map] at hxl;refine aO fun k hk=>?_;refine jr fun R hR=>?_;have elr:=ra.e;push_cast [elr,nT,tW,tU];obtain⟨Pv,hPv⟩:∃Pv:Nat->L2.St->Hp->Prop,Pv=fun(i:Nat) σ H'=>∃(o2 o3 o4:Option V),Same H H'/\(∀j c,j<i->cs[j]?=some c->lbC c (X j)=none)/\σ=[some (.ref l),some (.ref r),o2,o3,o4]:=⟨_,rfl⟩;refine Wc hR Pv (by rw[hPv];exact⟨_,_,_,Same.refl _,fun j c h=>absurd h (not_lt_zero _),rfl⟩) (fun i σ H' pv=>by rw[hPv] at pv;obtain⟨_,_,_,s,_⟩:=pv;exact s _ _ elr) ?_ ?_
  ·intro i x σ H2 p hx pv hp;rw[hPv] at pv;obtain⟨o2,o3,o4,s2,hno,rfl⟩:=pv;have li:i<cs.length:=by have:=(List.getElem?_eq_some_iff.mp hx).1;rw[length_map] at this;omega
   have hc:cs[i]?=some cs[i]:=getElem?_eq_getElem li;obtain⟨x',hx',rx⟩:=tsl.row hc;have hat:=bM hx';generalize cs[i]=c at hc rx;rw[getElem?_map] at hx;obtain⟨pi,hpi,rfl⟩:=map_eq_some_iff.mp hx;obtain⟨ui,ei,ti⟩:=ra.el i pi hpi;have s3:Same H (upd H2 p (.tup [.int (i:Nat),.ref pi])):=s2.trans (au hp);have ep:upd H2 p (.tup [.int (i:Nat),.ref pi]) p=some (.tup [.int (i:Nat),.ref pi]):=aB;generalize upd H2 p (.tup [.int (i:Nat),.ref pi])=H3 at s3 ep |-;have el3:=s3 _ _ el;push_cast [ep,el3,hat];refine⟨x',c,pi,ui,X i,rfl,rx.same s3,s3 _ _ ei,ti.same s3,fun H4 s4=>?_⟩;cases hlb:lbC c (X i) with
   | none=>
    push_cast [qU];rw[hPv];refine⟨_,_,_,s3.trans s4,fun j c' hj hc'=>?_,rfl⟩;by_cases e:j=i
    ·subst e;rw[hc] at hc';cases hc';exact hlb
    exact hno j c' ω hc'
   | some n=>
    push_cast [qU];refine⟨aK δ,fun p1 hp1=>?_⟩;exact q2 p1 _ i c n ((s3.trans s4).trans (au hp1)) ((s3.trans s4).none hp1) aB hc hlb hno
  intro σ H2 pv;rw[hPv] at pv;obtain⟨o2,o3,o4,s2,hno,rfl⟩:=pv;subst hk;push_cast;refine q1 H2 s2 fun j c hc=>hno j c ?_ hc;have:=(List.getElem?_eq_some_iff.mp hc).1;rw[length_map];omega
noncomputable abbrev nZ:List Str:=["rows","low","high"]
noncomputable abbrev fO:Stmt:=top 12
theorem Ep:bB nZ q2_ (ak fO):=⟨rfl,rfl,rfl,ψ,rfl,ψ,ψ⟩
theorem sy:NM_ nZ fO 0 "rows" := .of ψ
theorem CV:NM_ nZ fO 1 "low" := .of ψ
theorem CT:NM_ nZ fO 2 "high" := .of ψ
theorem lK:GI_ fO "beyond_among" := by decide +kernel
theorem rJ:GI_ fO "come_to" := by decide +kernel
theorem vX:Bn "beyond_of" := ⟨ψ,ψ⟩
noncomputable abbrev ju:List Str:=["rows","low","high"]
noncomputable abbrev cW:Stmt:=top 13
theorem BL:bB ju q2_ (ak cW):=⟨rfl,rfl,rfl,ψ,rfl,ψ,ψ⟩
theorem Af:NM_ ju cW 0 "rows" := .of ψ
theorem Ae:NM_ ju cW 1 "low" := .of ψ
theorem Ad:NM_ ju cW 2 "high" := .of ψ
theorem qu:GI_ cW "come_to" := by decide +kernel
theorem mY:GI_ cW "enumerate" := by decide +kernel
theorem sO:Bn "never_done" := ⟨ψ,ψ⟩
theorem Ov (hB:∀x:Str,x∈BLs->mg x=none) (CComeTo:Cal P w K mg base "come_to" 3 q2_ zj) (CBeyondAmong:Cal P w K mg base "beyond_among" 3 ["rows","reached"] Hl) (F:Fun K "beyond_of" "beyond_of" fO f fd):dF P w K mg base CX0 4 f fd q2_ V4:=by
 refine F.okq Ep (fun vs H Q E h=>?_) (fun cdv A outer s H vs Q E hr h=>?_)
 ·obtain⟨l,ok,cs,low,high,rfl,_⟩:=h;rfl
 obtain⟨l,ok,cs,low,high,rfl,tr,rows,hcs,hlh,few,hb1,hb2,q⟩:=h;refine⟨_,(aG (aW (bw CBeyondAmong (hr.mono δ) lK wZ (aj (ao sy) (aj (bw CComeTo (hr.mono δ) rJ DP (aj (ao sy) (aj (ao CV) (aj (ao CT) aA rfl) rfl) rfl) rfl rfl) aA rfl) rfl) rfl rfl))),?_⟩;push_cast;refine⟨l,ok,cs,low,high,rfl,tr,rows,hcs,hlh,few,hb1,hb2,fun r ps X H1 s1 hr1 hps ra hpl ci xl=>?_⟩;push_cast;refine⟨l,r,ok,cs,ps,X,rfl,tr.same s1,ra,hpl,fun H2 s2 hn=>?_,fun p H2 j c n s2 hp ep hc hlb he=>?_⟩
 ·exact q .non H2 none (s1.trans s2) .non (ci.aae hn)
 exact q (.ref p) H2 (some ((j:Int),n)) (s1.trans s2) (.tup trivial ep (by show 2<=1000000;decide) (.cons (.int _) (.cons (.int _) .nil))) (ci.aad hc hlb he)
theorem Oo (hB:∀x:Str,x∈BLs->mg x=none) (CComeTo:Cal P w K mg base "come_to" 3 q2_ zj) (F:Fun K "never_done" "never_done" cW f fd):dF P w K mg base CX0 4 f fd q2_ V3:=by
 refine F.okq BL (fun vs H Q E h=>?_) (fun cdv A outer s H vs Q E hr h=>?_)
 ·obtain⟨l,ok,cs,low,high,rfl,_⟩:=h;rfl
 obtain⟨l,ok,cs,low,high,rfl,tr,rows,hcs,hlh,few,hb1,hb2,q⟩:=h;refine⟨_,(aG (aW (kJ (NX:=ju) (kX:=(ak cW).names) ["at","spans"] [none,none] rfl rfl ⟨rfl,ψ,ψ,ψ,ψ⟩ rfl (pZ mY (hB "enumerate" gq) (aj (bw CComeTo (hr.mono δ) qu DP (aj (ao Af) (aj (ao Ae) (aj (ao Ad) aA rfl) rfl) rfl) rfl rfl) aA rfl) rfl) (fun _ _ _ _ _=>(eN (n:=2) rfl (aV (cZ 0 (show List.Nodup (["at","spans"]:List Str) from by decide +kernel) rfl (Or.inl rfl)) (aV (cZ 1 (show List.Nodup (["at","spans"]:List Str) from by decide +kernel) rfl (Or.inl rfl)) cQ rfl) rfl) rfl rfl)) (fun _ _ _ _ _=>(zR (zN (zM (cO 1))))) (fun _ _ _ _ _=>(cO 0))))),?_⟩;push_cast;refine gR fun R hR=>?_;push_cast;refine⟨l,ok,cs,low,high,rfl,tr,rows,hcs,hlh,few,hb1,hb2,fun r ps X H1 s1 hr1 hps ra hpl ci xl=>?_⟩;have er:=ra.e;push_cast [er,nT,tW,tU];obtain⟨Pc,hPc⟩:∃Pv:Nat->List V->L2.St->Hp->Prop,Pv=fun(i:Nat) acc τ H'=>∃(o0 o1:Option V),Same H1 H'/\acc=kO ((List.range i).filter fun j=>(X j).isEmpty)/\τ=[o0,o1]:=⟨_,rfl⟩;refine QZ hR (xs:=ps.map V.ref) (aK (by rw[length_map];have:=rows.1;cases tr with|lst _ _ z ts=>have:=ts.length;rw[length_map] at this;omega)) Pc (by rw[hPc];exact⟨_,_,Same.refl _,rfl,rfl⟩) ?_ ?_ ?_ ?_
 ·intro i acc τ H2 pc;rw[hPc] at pc;obtain⟨_,_,_,rfl,_⟩:=pc;rw[mH];have:=length_filter_le (fun j=>(X j).isEmpty) (List.range i);rwa [length_range] at this
 ·intro i acc τ H2 pc;rw[hPc] at pc;obtain⟨_,_,s2,_⟩:=pc;exact SqL.of (s2 _ _ er)
 ·intro i x acc τ H2 p hx pc hp;rw[hPc] at pc;obtain⟨o0,o1,s2,rfl,rfl⟩:=pc;rw[getElem?_map] at hx;obtain⟨b,hb,rfl⟩:=map_eq_some_iff.mp hx;obtain⟨us,eb,tb⟩:=ra.el i b hb;have s3:=au (o:=HO.tup [V.int (i:Nat),V.ref b]) hp;have ep:upd H2 p (HO.tup [V.int (i:Nat),V.ref b]) p=_:=aB;have eb3:=s3 _ _ (s2 _ _ eb);generalize upd H2 p (HO.tup [V.int (i:Nat),V.ref b])=H3 at s3 ep eb3 |-;push_cast [ep,eb3];have hl:=tb.length;have hse:us.isEmpty=(X i).isEmpty:=by cases us <;> cases hX:X i <;> first|rfl|(rw[hX] at hl;cases hl)
  have hst:=iD (fun j=>(X j).isEmpty) i;rw[Bool.not_not,hse,hPc];split
  ·rename_i c;rw[if_pos c] at hst;exact⟨_,_,s2.trans s3,by rw[hst,qZ],rfl⟩
  rename_i c;rw[if_neg c,append_nil] at hst;exact⟨_,_,s2.trans s3,by rw[hst],rfl⟩
 intro acc τ H2 d pc hd;rw[hPc] at pc;obtain⟨o0,o1,s2,rfl,rfl⟩:=pc;push_cast;rw[length_map,hpl];exact q d _ _ ((s1.trans s2).trans (au hd)) ((s1.trans s2).none hd) aB ci.nev
noncomputable abbrev Bs:List Str:=["_law_found","_law_due"]
noncomputable abbrev fH:Stmt:=top 18
theorem Sd:bB Bs q6_ (ak fH):=⟨rfl,rfl,rfl,ψ,rfl,ψ,ψ⟩
theorem dU:NM_ Bs fH 0 "_law_found" := .of ψ
theorem dm:NM_ Bs fH 1 "_law_due" := .of ψ
theorem Gi:GI_ fH "all" := by decide +kernel
theorem mW:GI_ fH "bool" := by decide +kernel
theorem Gh:GI_ fH "int" := by decide +kernel
theorem aX:GI_ fH "isinstance" := by decide +kernel
theorem vD:GI_ fH "len" := by decide +kernel
theorem mV:GI_ fH "list" := by decide +kernel
theorem pD:GI_ fH "str" := by decide +kernel
theorem lB:GI_ fH "tuple" := by decide +kernel
theorem Gg:GI_ fH "zip" := by decide +kernel
theorem tX:Bn "_law_same" := ⟨ψ,ψ⟩
theorem tO {n:Nat}(hB:∀x:Str,x∈BLs->mg x=none) (CZSame:Cal P w K mg base "_law_same" n q6_ (pK n)) (F:Fun K "_law_same" "_law_same" fH f fd):dF P w K mg base CX0 (n+1) f fd q6_ (pK (n+1)):=by
 refine F.okq Sd (fun vs H Q E h=>?_) (fun cdv A outer s H vs Q E hr h=>?_)
 ·obtain⟨x,y,ok,d,rfl,_⟩:=h;rfl
 obtain⟨x,y,ok,d,rfl,tx,ty,hd,q⟩:=h;refine⟨_,(aD (bH (qT (bY Kw aX (hB "isinstance" bD) boot_isinstance bF (aj (ao dm) (aj (aY (aj (jU "list" mV (hB "list" tR) boot_list Bh) (aj (jU "tuple" lB (hB "tuple" qj) boot_tuple qH) aA rfl) rfl)) aA rfl) rfl) rfl rfl) (fun _=>rfl)) (aD (bH (Ci (Hu (aQ (qW hr.bA) (bY cU aX (hB "isinstance" bD) boot_isinstance bF (aj (ao dU) (aj (jU "list" mV (hB "list" tR) boot_list Bh) aA rfl) rfl) rfl rfl) (bY cU aX (hB "isinstance" bD) boot_isinstance bF (aj (ao dm) (aj (jU "list" mV (hB "list" tR) boot_list Bh) aA rfl) rfl) rfl rfl) (aP _)) (zK (aQ (qW hr.bA) (bY cU aX (hB "isinstance" bD) boot_isinstance bF (aj (ao dU) (aj (jU "tuple" lB (hB "tuple" qj) boot_tuple qH) aA rfl) rfl) rfl rfl) (bY cU aX (hB "isinstance" bD) boot_isinstance bF (aj (ao dm) (aj (jU "tuple" lB (hB "tuple" qj) boot_tuple qH) aA rfl) rfl) rfl rfl) (aP _))))) (aG (aW uI)) bK)
  (aD (bH (aQ (qW hr.bA) (bY dY vD (hB "len" jK) PySem.boot_len jM (aj (ao dU) aA rfl) rfl rfl) (bY dY vD (hB "len" jK) PySem.boot_len jM (aj (ao dm) aA rfl) rfl rfl) (aP _)) (aG (aW uI)) bK)
  (aG (aW (bY (KC rfl) Gi (hB "all" XS) PyProof.Rows.Boot.«all» Yy (aj (kJ (NX:=Bs) (kX:=(ak fH).names) ["_law_one","_law_other"] [none,none] rfl rfl ⟨rfl,ψ,ψ,ψ,ψ⟩ rfl (S5 Gg (hB "zip" XQ) (aj (ao dU) (aj (ao dm) aA rfl) rfl) rfl rfl) (fun _ _ _ _ _=>(eN (n:=2) rfl (aV (cZ 0 (show List.Nodup (["_law_one","_law_other"]:List Str) from by decide +kernel) rfl (Or.inl rfl)) (aV (cZ 1 (show List.Nodup (["_law_one","_law_other"]:List Str) from by decide +kernel) rfl (Or.inl rfl)) cQ rfl) rfl) rfl rfl)) (fun _ _ _ _ _=>mj) (fun _ _ _ _ _=>(bw CZSame (hr.mono ω) rfl tX (aj (cO 0) (aj (cO 1) aA rfl) rfl) rfl rfl))) aA rfl) rfl rfl))))) bK)
  (aD (bH (Ci (Hu (aQ uM (ao dm) gh (aP _)) (zK (qT (bY cU aX (hB "isinstance" bD) boot_isinstance bF (aj (ao dm) (aj (jU "str" pD (hB "str" FT) boot_str Gz) aA rfl) rfl) rfl rfl) (fun _=>rfl))))) (aG (aW (zQ (uH (b7 hr.bA) (ao dU) (ao dm) (aP _)) (EY (uH (b7 hr.bA) (bY cU aX (hB "isinstance" bD) boot_isinstance bF (aj (ao dU) (aj (jU "str" pD (hB "str" FT) boot_str Gz) aA rfl) rfl) rfl rfl) (bY cU aX (hB "isinstance" bD) boot_isinstance bF (aj (ao dm) (aj (jU "str" pD (hB "str" FT) boot_str Gz) aA rfl) rfl) rfl rfl) (aP _)))))) bK)
  (aD (bH (qT (bY cU aX (hB "isinstance" bD) boot_isinstance bF (aj (ao dm) (aj (jU "bool" mW (hB "bool" Al) boot_bool Bj) aA rfl) rfl) rfl rfl) (fun _=>rfl)) (aG (aW (zQ (bY cU aX (hB "isinstance" bD) boot_isinstance bF (aj (ao dU) (aj (jU "bool" mW (hB "bool" Al) boot_bool Bj) aA rfl) rfl) rfl rfl) (EY (uH (b7 hr.bA) (ao dU) (ao dm) (aP _)))))) bK)
  (aG (aW (zQ (bY cU aX (hB "isinstance" bD) boot_isinstance bF (aj (ao dU) (aj (jU "int" Gh (hB "int" Pr) boot_int Q9) aA rfl) rfl) rfl rfl) (zQ (W3 (bY cU aX (hB "isinstance" bD) boot_isinstance bF (aj (ao dU) (aj (jU "bool" mW (hB "bool" Al) boot_bool Bj) aA rfl) rfl) rfl rfl)) (EY (uH (b7 hr.bA) (ao dU) (ao dm) (aP _)))))))))),?_⟩
 cases tx with
 | non=>
  cases ty;refine aO fun k hk=>?_;push_cast;refine⟨aK δ,fun t ht=>?_⟩;subst hk;refine aO fun k hk=>?_;push_cast;exact q _ (au ht)
 | bl b=>
  cases ty;refine aO fun k hk=>?_;push_cast;refine⟨aK δ,fun t ht=>?_⟩;subst hk;refine aO fun k hk=>?_;push_cast;subst hk;refine aO fun k hk=>?_;push_cast;exact q _ (au ht)
 | int i=>
  cases ty;refine aO fun k hk=>?_;push_cast;refine⟨aK δ,fun t ht=>?_⟩;subst hk;refine aO fun k hk=>?_;push_cast;subst hk;refine aO fun k hk=>?_;push_cast;subst hk;push_cast;exact q _ (au ht)
 | str x=>
  cases ty;refine aO fun k hk=>?_;push_cast;refine⟨aK δ,fun t ht=>?_⟩;subst hk;refine aO fun k hk=>?_;push_cast;exact q _ (au ht)
 | lst o1 e1 z1 ts1=>
  rename_i p1 xs1 ds;cases ty with
  | lst o2 e2 z2 ts2=>
   rename_i p2 xs2;have l1:=ts1.length;have l2:=ts2.length;refine aO fun k hk=>?_;push_cast [e1,e2];refine⟨aK δ,fun t ht=>?_⟩;have s1:=au (o:=HO.tup [V.ty "list",V.ty "tuple"]) ht;have e1:=s1 _ _ e1;have e2:=s1 _ _ e2;generalize upd H t (HO.tup [V.ty "list",V.ty "tuple"])=H1 at s1 e1 e2 |-;push_cast [e1,e2];rw[decide_eq_true (show(xs1.length:Int)=(xs2.length:Int) by omega),Bool.not_true,if_neg δ];refine gR fun R hR=>?_;push_cast [e1,e2];obtain⟨Pc,hPc⟩:∃Pv:Nat->List V->L2.St->Hp->Prop,Pv=fun(i:Nat) acc τ H'=>∃(o0 o1:Option V),Same H1 H'/\acc=(List.replicate i true).map V.bl/\τ=[o0,o1]:=⟨_,rfl⟩;refine VB hR (xs:=xs1) (ys:=xs2) (aK z1) ω Pc (by rw[hPc];exact⟨_,_,Same.refl _,rfl,rfl⟩) ?_ ?_ ?_ ?_
   ·intro i acc τ H2 pc;rw[hPc] at pc;obtain⟨_,_,_,rfl,_⟩:=pc;simp
   ·intro i acc τ H2 pc;rw[hPc] at pc;obtain⟨_,_,s2,_,_⟩:=pc;exact⟨s2 _ _ e1,s2 _ _ e2⟩
   ·intro i x y acc τ H2 r hx hy pc hr2;rw[hPc] at pc;obtain⟨o0,o1,s2,rfl,rfl⟩:=pc;obtain⟨dx,hdx,tx⟩:=ts1.get hx;obtain⟨dy,hdy,ty⟩:=ts2.get hy;rw[hdx] at hdy;cases hdy;have s3:=au (o:=HO.tup [x,y]) hr2;have s13:=(s1.trans s2).trans s3;push_cast;refine⟨x,y,ok,dx,rfl,tx.same s13,ty.same s13,by have:=(yN (mem_of_getElem? hdx)).1;omega,fun H4 s4=>?_⟩;rw[hPc];refine⟨_,_,(s2.trans s3).trans s4,?_,rfl⟩;rw[List.replicate_succ',map_append];rfl
   intro acc τ H2 d2 pc hd2;rw[hPc] at pc;obtain⟨o0,o1,s2,rfl,rfl⟩:=pc;have s3:=s1.trans (s2.trans (au (o:=HO.lst ((List.replicate xs1.length true).map V.bl)) hd2));have e3:upd H2 d2 (HO.lst ((List.replicate xs1.length true).map V.bl)) d2=_:=aB;generalize upd H2 d2 (HO.lst ((List.replicate xs1.length true).map V.bl))=H3 at s3 e3 |-;push_cast [e3];refine⟨_,rfl,?_⟩;rw[show(List.replicate xs1.length true).all id=true by simp];exact q _ s3
 | tup o1 e1 z1 ts1=>
  rename_i p1 xs1 ds;cases ty with
  | tup o2 e2 z2 ts2=>
   rename_i p2 xs2;have l1:=ts1.length;have l2:=ts2.length;refine aO fun k hk=>?_;push_cast [e1,e2];refine⟨aK δ,fun t ht=>?_⟩;have s1:=au (o:=HO.tup [V.ty "list",V.ty "tuple"]) ht;have e1:=s1 _ _ e1;have e2:=s1 _ _ e2;generalize upd H t (HO.tup [V.ty "list",V.ty "tuple"])=H1 at s1 e1 e2 |-;push_cast [e1,e2];rw[decide_eq_true (show(xs1.length:Int)=(xs2.length:Int) by omega),Bool.not_true,if_neg δ];refine gR fun R hR=>?_;push_cast [e1,e2];obtain⟨Pc,hPc⟩:∃Pv:Nat->List V->L2.St->Hp->Prop,Pv=fun(i:Nat) acc τ H'=>∃(o0 o1:Option V),Same H1 H'/\acc=(List.replicate i true).map V.bl/\τ=[o0,o1]:=⟨_,rfl⟩;refine Vz hR (xs:=xs1) (ys:=xs2) (aK z1) ω Pc (by rw[hPc];exact⟨_,_,Same.refl _,rfl,rfl⟩) ?_ ?_ ?_ ?_
   ·intro i acc τ H2 pc;rw[hPc] at pc;obtain⟨_,_,_,rfl,_⟩:=pc;simp
   ·intro i acc τ H2 pc;rw[hPc] at pc;obtain⟨_,_,s2,_,_⟩:=pc;exact⟨s2 _ _ e1,s2 _ _ e2⟩
   ·intro i x y acc τ H2 r hx hy pc hr2;rw[hPc] at pc;obtain⟨o0,o1,s2,rfl,rfl⟩:=pc;obtain⟨dx,hdx,tx⟩:=ts1.get hx;obtain⟨dy,hdy,ty⟩:=ts2.get hy;rw[hdx] at hdy;cases hdy;have s3:=au (o:=HO.tup [x,y]) hr2;have s13:=(s1.trans s2).trans s3;push_cast;refine⟨x,y,ok,dx,rfl,tx.same s13,ty.same s13,by have:=(yN (mem_of_getElem? hdx)).2;omega,fun H4 s4=>?_⟩;rw[hPc];refine⟨_,_,(s2.trans s3).trans s4,?_,rfl⟩;rw[List.replicate_succ',map_append];rfl
   intro acc τ H2 d2 pc hd2;rw[hPc] at pc;obtain⟨o0,o1,s2,rfl,rfl⟩:=pc;have s3:=s1.trans (s2.trans (au (o:=HO.lst ((List.replicate xs1.length true).map V.bl)) hd2));have e3:upd H2 d2 (HO.lst ((List.replicate xs1.length true).map V.bl)) d2=_:=aB;generalize upd H2 d2 (HO.lst ((List.replicate xs1.length true).map V.bl))=H3 at s3 e3 |-;push_cast [e3];refine⟨_,rfl,?_⟩;rw[show(List.replicate xs1.length true).all id=true by simp];exact q _ s3
theorem same_none:dF P w K mg base CX0 0 f fd q6_ (pK 0):=by
 have no:∀vs H Q E,¬pK 0 vs H Q E:=fun vs H Q E h=>by
  obtain⟨x,y,ok,d,_,_,_,h1,_⟩:=h;omega
 exact⟨fun vs H Q E h=>absurd h (no vs H Q E),fun A outer s H args us vs Q E _ _ _ _ h=>absurd h (no vs H Q E)⟩
noncomputable abbrev ou:List Str:=["_law_script","_law_k","_law_tape_here","_law_rows_here","_law_kept","_law_turn","_law_low","_law_high","_law_come_here","_law_due","_law_again","_law_found"]
noncomputable abbrev dI:Stmt:=top 27
theorem iy:bB ou ["_law_script"] (ak dI):=⟨rfl,rfl,rfl,ψ,rfl,ψ,ψ⟩
theorem Pg:NM_ ou dI 0 "_law_script" := .of ψ
theorem Pb:NM_ ou dI 1 "_law_k" := .of ψ
theorem iG:NM_ ou dI 2 "_law_tape_here" := .of ψ
theorem fL:NM_ ou dI 3 "_law_rows_here" := .of ψ
theorem Pa:NM_ ou dI 4 "_law_kept" := .of ψ
theorem XM:NM_ ou dI 5 "_law_turn" := .of ψ
theorem jm:NM_ ou dI 6 "_law_low" := .of ψ
theorem lz:NM_ ou dI 7 "_law_high" := .of ψ
theorem O9:NM_ ou dI 8 "_law_come_here" := .of ψ
theorem O8:NM_ ou dI 9 "_law_due" := .of ψ
theorem UL:NM_ ou dI 10 "_law_again" := .of ψ
theorem Aj:NM_ ou dI 11 "_law_found" := .of ψ
theorem Bf:GI_ dI "_law_beyond" := by decide +kernel
theorem Gp:GI_ dI "_law_come" := by decide +kernel
theorem Bd:GI_ dI "_law_far_due" := by decide +kernel
theorem wW:GI_ dI "_law_far_rows" := by decide +kernel
theorem Gn:GI_ dI "_law_rows" := by decide +kernel
theorem pG:GI_ dI "_law_same" := by decide +kernel
theorem dj:GI_ dI "_law_take" := by decide +kernel
theorem Gm:GI_ dI "_law_tape" := by decide +kernel
theorem oR:GI_ dI "beyond_of" := by decide +kernel
theorem vJ:GI_ dI "enumerate" := by decide +kernel
theorem Qs:GI_ dI "len" := by decide +kernel
theorem Qq:GI_ dI "min" := by decide +kernel
theorem mZ:GI_ dI "never_done" := by decide +kernel
theorem pF:GI_ dI "range" := by decide +kernel
theorem yI:GI_ dI "repr" := by decide +kernel
noncomputable def Hg (K:PySem.W.Frag):Sp:=fun vs H Q _=>∃(a:Addr)(ns:List Int),vs=[.ref a]/\SqL K H a (ns.map V.int)/\ns.length<=63/\∀H',Q (.bl true) H'
theorem XF (hB:∀x:Str,x∈BLs->mg x=none) (CZTape:Cal P w K mg base "_law_tape" 2 q3_ (Mf K)) (CZTake:Cal P w K mg base "_law_take" 2 q1_ (oW 2)) (CZRows:Cal P w K mg base "_law_rows" 3 q1_ zf) (CBeyondOf:Cal P w K mg base "beyond_of" 4 q2_ V4) (CNeverDone:Cal P w K mg base "never_done" 4 q2_ V3) (CZCome:Cal P w K mg base "_law_come" 3 q0_ Hi) (CZBeyond:Cal P w K mg base "_law_beyond" 3 q0_ Mh) (CZSame:Cal P w K mg base "_law_same" 4 q6_ (pK 4))
  (CZFarRows:Cal P w K mg base "_law_far_rows" 4 q1_ Mi) (CZFarDue:Cal P w K mg base "_law_far_due" 3 q0_ Mj)
  (F:Fun K "law" "law" dI f fd):dF P w K mg base CX0 5 f fd ["_law_script"] (Hg K):=by
 refine F.okq iy (fun vs H Q E h=>?_) (fun cdv A outer s H vs Q E hr h=>?_)
 ·obtain⟨a,ns,rfl,_⟩:=h;rfl
 obtain⟨a,ns,rfl,hS,h63,q⟩:=h;refine⟨_,(aD (fJ PassesOwn.never rfl (gM pF (hB "range" fj) (aj (aL aU aq (bY (rM rfl) Qq (hB "min" vo) boot_min vW (aj aq (aj (bY iU Qs (hB "len" jK) PySem.boot_len jM (aj (ao Pg) aA rfl) rfl rfl) aA rfl) rfl) rfl rfl)) aA rfl) rfl) (bV Pb iy.nd (.inl rfl))
  (aD (bU iG iy.nd (bw CZTape (hr.mono δ) Gm VF (aj (ao Pg) (aj (ao Pb) aA rfl) rfl) rfl rfl) rfl (.inl rfl))
  (aD (bU fL iy.nd (bw CZRows (hr.mono δ) Gn IW (aj (ao iG) (aj (aL aU aq (bw CZTake (hr.mono δ) dj bR (aj (ao iG) (aj aq aA rfl) rfl) rfl rfl)) aA rfl) rfl) rfl rfl) rfl (.inl rfl))
  (aD (bH (aQ (b7 hr.bA) (bw CZTake (hr.mono δ) dj bR (aj (ao iG) (aj aq aA rfl) rfl) rfl rfl) aq (aP _)) (aD (pY (NX:=ou) (kX:=(ak dI).names) ["_law_row"] [none] fL iy.nd rfl rfl ⟨rfl,ψ,ψ,ψ,ψ⟩ rfl (fD (ao fL)) (fun _ _ _ _ _=>(cZ 0 (show List.Nodup (["_law_row"]:List Str) from by decide +kernel) rfl (Or.inl rfl))) (fun _ _ _ _ _=>mj) (fun _ _ _ _ _=>(jT (aQ (b7 hr.bA) (aJ aR (cO 0) aq (fun _ _=>rfl)) bG (aP _)) (aY (aj bG (aj aq aA rfl) rfl)) (cO 0))))
  (aG (pY (NX:=ou) (kX:=(ak dI).names) ["_law_row"] [none] fL iy.nd rfl rfl ⟨rfl,ψ,ψ,ψ,ψ⟩ rfl (fD (ao fL)) (fun _ _ _ _ _=>(cZ 0 (show List.Nodup (["_law_row"]:List Str) from by decide +kernel) rfl (Or.inl rfl))) (fun _ _ _ _ _=>mj) (fun _ _ _ _ _=>(jT (aQ (b7 hr.bA) (aJ aR (cO 0) aq (fun _ _=>rfl)) bG (aP _)) (aY (aj bG (aj (aJ aR (cO 0) aq (fun _ _=>rfl)) (aj (aJ aR (cO 0) aq (fun _ _=>rfl)) aA rfl) rfl) rfl)) (cO 0)))))) bK)
  (aD (bU Pa iy.nd (bY (vU hr.gd hr.V1) yI (hB "repr" HY) boot_repr IV (aj (ao fL) aA rfl) rfl rfl) rfl (.inl rfl))
  (aD (fJ PassesOwn.never rfl (gM pF (hB "range" fj) (aj aq aA rfl) rfl) (bV XM iy.nd (.inl rfl))
  (aD (bU jm iy.nd (aL eO (bw CZTake (hr.mono δ) dj bR (aj (ao iG) (aj aq aA rfl) rfl) rfl rfl) aq) rfl (.inl rfl))
  (aD (bU lz iy.nd (aL aU (ao jm) (bw CZTake (hr.mono δ) dj bR (aj (ao iG) (aj (aJ aR (cD (aj aq (aj aq aA rfl) rfl)) (bw CZTake (hr.mono δ) dj bR (aj (ao iG) (aj aq aA rfl) rfl) rfl rfl) (fun _ _=>rfl)) aA rfl) rfl) rfl rfl)) rfl (.inl rfl))
  (aD (bU O9 iy.nd (bw CZCome (hr.mono δ) Gp VH (aj (ao fL) (aj (ao jm) (aj (ao lz) aA rfl) rfl) rfl) rfl rfl) rfl (.inl rfl))
  (aD (pY (NX:=ou) (kX:=(ak dI).names) ["_law_place","_law_some"] [none,none] O8 iy.nd rfl rfl ⟨rfl,ψ,ψ,ψ,ψ⟩ rfl (pZ vJ (hB "enumerate" gq) (aj (ao O9) aA rfl) rfl) (fun _ _ _ _ _=>(eN (n:=2) rfl (aV (cZ 0 (show List.Nodup (["_law_place","_law_some"]:List Str) from by decide +kernel) rfl (Or.inl rfl)) (aV (cZ 1 (show List.Nodup (["_law_place","_law_some"]:List Str) from by decide +kernel) rfl (Or.inl rfl)) cQ rfl) rfl) rfl rfl)) (fun _ _ _ _ _=>(zR (aQ (Xy hr.bA) (cO 1) (cD aA) (aP _)))) (fun _ _ _ _ _=>(cO 0)))
  (aD (bH (zN (qT (bw CZSame (hr.mono δ) pG tX (aj (bw CBeyondOf (hr.mono δ) oR vX (aj (ao fL) (aj (ao jm) (aj (ao lz) aA rfl) rfl) rfl) rfl rfl) (aj (bw CZBeyond (hr.mono δ) Bf KQ (aj (ao fL) (aj (ao jm) (aj (ao lz) aA rfl) rfl) rfl) rfl rfl) aA rfl) rfl) rfl rfl) (fun _=>rfl))) (aG (aW uI)) bK)
  (aG (fJ PassesOwn.never rfl (gM pF (hB "range" fj) (aj aq aA rfl) rfl) (bV UL iy.nd (.inl rfl))
  (aD (bU Aj iy.nd (bw CNeverDone (hr.mono δ) mZ sO (aj (ao fL) (aj (ao jm) (aj (ao lz) aA rfl) rfl) rfl) rfl rfl) rfl (.inl rfl))
  (aD (bH (Ci (Hu (zN (qT (bw CZSame (hr.mono δ) pG tX (aj (ao Aj) (aj (ao O8) aA rfl) rfl) rfl rfl) (fun _=>rfl))) (zK (aQ (qW hr.bA) (bY (vU hr.gd hr.V1) yI (hB "repr" HY) boot_repr IV (aj (ao fL) aA rfl) rfl rfl) (ao Pa) (aP _))))) (aG (aW uI)) bK)
  (aG (cB (cJ (ao Aj) aq rfl rfl rfl rfl rfl) rfl)))) (fun _=>rfl)))))))) (fun _=>rfl))
  (aD (bU fL iy.nd (bw CZFarRows (hr.mono δ) wW GD (aj (ao iG) (aj (aL aU aq (bw CZTake (hr.mono δ) dj bR (aj (ao iG) (aj aq aA rfl) rfl) rfl rfl)) aA rfl) rfl) rfl rfl) rfl (.inl rfl))
  (aD (bU jm iy.nd (aL aU (aL eE (aL eO (bw CZTake (hr.mono δ) dj bR (aj (ao iG) (aj aq aA rfl) rfl) rfl rfl) aq) (aL uL aq aq)) (bw CZTake (hr.mono δ) dj bR (aj (ao iG) (aj aq aA rfl) rfl) rfl rfl)) rfl (.inl rfl))
  (aD (bU lz iy.nd (aL aU (ao jm) (bw CZTake (hr.mono δ) dj bR (aj (ao iG) (aj (aL uL aq aq) aA rfl) rfl) rfl rfl)) rfl (.inl rfl))
  (aG (bH (zN (qT (bw CZSame (hr.mono δ) pG tX (aj (aY (aj (bw CBeyondOf (hr.mono δ) oR vX (aj (ao fL) (aj (ao jm) (aj (ao lz) aA rfl) rfl) rfl) rfl rfl) (aj (bw CNeverDone (hr.mono δ) mZ sO (aj (ao fL) (aj (ao jm) (aj (ao lz) aA rfl) rfl) rfl) rfl rfl) aA rfl) rfl)) (aj (bw CZFarDue (hr.mono δ) Bd KJ (aj (ao fL) (aj (ao jm) (aj (ao lz) aA rfl) rfl) rfl) rfl rfl) aA rfl) rfl) rfl rfl) (fun _=>rfl))) (aG (aW uI)) bK)))))))))) (fun _=>rfl))
  (aG (aW uI))),?_⟩
 refine aO fun k hk=>?_;refine jr fun R hR=>?_;push_cast [oN];refine⟨_,.inl hS,?_⟩;rw[length_map];have m6:(0:Int)<=1+(if (ns.length:Int)<5 then (ns.length:Int) else 5)/\1+(if (ns.length:Int)<5 then (ns.length:Int) else 5)<=6:=by
  split <;> omega
 refine⟨ω,ω,?_⟩;obtain⟨Pv,hPv⟩:∃Pv:Nat->L2.St->Hp->Prop,Pv=fun(i:Nat) σ H'=>Same H H'/\∃o1 o2 o3 o4 o5 o6 o7 o8 o9 o10 o11,σ=[some (.ref a),o1,o2,o3,o4,o5,o6,o7,o8,o9,o10,o11]:=⟨_,rfl⟩;refine yJ hR Pv (by rw[hPv];exact⟨Same.refl _,_,_,_,_,_,_,_,_,_,_,_,rfl⟩) ?_ ?_
 ·intro i σ H1 hi pv;rw[hPv] at pv;obtain⟨s1,o1,o2,o3,o4,o5,o6,o7,o8,o9,o10,o11,rfl⟩:=pv;refine aO fun k2 hk2=>?_;push_cast;refine⟨a,ns,(0:Int)+(i:Int),rfl,s1.seq hS,ω,ω,fun p H2 hp s2 tp2=>?_⟩;push_cast;have hp0:H p=none:=s1.none hp;have sx2:cF p H H2:=(s1.trans s2).x;subst hk2;refine aO fun k2 hk2=>?_;push_cast;refine⟨p,16,0,rfl,tp2,δ,δ,δ,δ,fun z=>absurd z δ,fun r3 H3 r30 r31 s3 tp3=>?_⟩;push_cast;refine⟨p,1+r3,0+2,rfl,tp3,δ,δ,ω,ω,fun l rs H4 s4 tp4 t4 hrl rok nrs=>?_⟩;push_cast;have sx4:cF p H H4:=(sx2.trans s3).trans s4;subst hk2;obtain⟨cs,ecs,hG⟩:=MP hrl ω ω rok nrs;rw[ecs] at t4;refine aO fun k2 hk2=>?_;have go:∀(H5:Hp)(l:Addr)(cs:List RowC),cF p H H5->bT H5 p 20010->wg cs->aN (·≠p) H5 (.ref l) (.list (cs.map bJ))->k2 [some (.ref a),some (.int (0+(i:Int))),some (.ref p),some (.ref l),o4,o5,o6,o7,o8,o9,o10,o11] H5:=by
   intro H4 l cs sx4 tp4 hG t4;subst hk2;have shr:=Jq hG;have hrows:=hG.ok;have hrb:=hG.rb;have hcl:=hG.ln;refine aO fun k2 hk2=>?_;push_cast;refine⟨_,_,_,rfl,t4,shr,?_⟩;push_cast;generalize hsh:(PyData.list (cs.map bJ)).shown=shown;subst hk2;refine aO fun k2 hk2=>?_;refine jr fun R2 hR2=>?_;push_cast [oN];refine⟨δ,δ,?_⟩;obtain⟨Pv2,hPv2⟩:∃Pv:Nat->L2.St->Hp->Prop,Pv=fun(j:Nat) σ H'=>∃(o5 o6 o7 o8 o9 o10 o11:Option V),cF p H4 H'/\bT H' p (20010+6*(j:Int))/\σ=[some (.ref a),some (.int (0+(i:Int))),some (.ref p),some (.ref l),some (.str shown),o5,o6,o7,o8,o9,o10,o11]:=⟨_,rfl⟩;refine yJ hR2 Pv2 (by rw[hPv2];exact⟨_,_,_,_,_,_,_,cF.refl _ _,tp4,rfl⟩) ?_ ?_
   ·intro j σ H5 hj pv;rw[hPv2] at pv;obtain⟨o5,o6,o7,o8,o9,o10,o11,s5,tp5,rfl⟩:=pv;have hj4:(j:Int)<4:=ω;have t5:=t4.keep (ok':=(·≠p)) fun a o n e=>⟨n,s5 _ _ n e⟩;refine aO fun k3 hk3=>?_;push_cast;refine⟨p,50,20010+6*(j:Int),rfl,tp5,ω,δ,δ,δ,fun z=>absurd z δ,fun r6 H6 r60 r61 s6 tp6=>?_⟩;push_cast;subst hk3;refine aO fun k3 hk3=>?_;push_cast;refine⟨aK δ,fun l9 hl9=>?_⟩;have v9:=au (o:=HO.lst [V.int 12,V.int 61]) hl9;have e9:upd H6 l9 (HO.lst [V.int 12,V.int 61]) l9=_:=aB;have n9:=tp6.ne hl9;have tp9:=tp6.same v9;have s59:=s6.trans v9.x;generalize upd H6 l9 (HO.lst [V.int 12,V.int 61])=H9 at v9 e9 tp9 s59 |-;refine⟨p,2,20010+6*(j:Int)+2,rfl,tp9,ω,δ,δ,δ,fun z=>absurd z δ,fun r7 H7 r70 r71 s7 tp7=>?_⟩;obtain⟨mo,hmo,emo⟩:=N5 (is:=[12,61]) r70 r71;replace emo:atI [V.int 12,V.int 61] r7=some (.int mo):=emo;have e7:=s7 _ _ n9 e9;have bmo:12<=mo/\mo<=61:=by
     simp only[mem_cons,not_mem_nil,or_false] at hmo;omega
    push_cast [e7,emo];refine⟨p,mo,20010+6*(j:Int)+2+2,rfl,tp7,ω,ω,ω,δ,fun z=>absurd z ω,fun dh H10 hd0 hd1 s10 tp10=>?_⟩;have s510:=(s59.trans s7).trans s10;push_cast;subst hk3;have t10:=t5.keep (ok':=(·≠p)) fun a o n e=>⟨n,s510 _ _ n e⟩;obtain⟨low,hlow⟩:∃z,z=r6-24:=⟨_,rfl⟩;rw[<- hlow];obtain⟨high,hhigh⟩:∃z,z=low+dh:=⟨_,rfl⟩;rw[<- hhigh];refine aO fun k3 hk3=>?_;push_cast;refine⟨l,_,cs,low,high,rfl,t10,hrows,ω,ω,ω,ω,fun rd pd Y kd H11 s11 hrd hpd rad hpdl lc ln hk11=>?_⟩;push_cast;subst hk3;have t11:=t10.same s11;refine aO fun k3 hk3=>?_;push_cast;refine gR fun R3 hR3=>?_;have er:=rad.e;push_cast [er,nT,tW,tU];obtain⟨Pc,hPc⟩:∃Pv:Nat->List V->L2.St->Hp->Prop,Pv=fun(g:Nat) acc τ H'=>∃(o0 o1:Option V),Same H11 H'/\acc=kO ((List.range g).filter fun j=>(Y j).isEmpty)/\τ=[o0,o1]:=⟨_,rfl⟩;refine QZ hR3 (xs:=pd.map V.ref) (aK (by rw[length_map];omega)) Pc (by rw[hPc];exact⟨_,_,Same.refl _,rfl,rfl⟩) ?_ ?_ ?_ ?_
    ·intro g acc τ H2 pc;rw[hPc] at pc;obtain⟨_,_,_,rfl,_⟩:=pc;rw[mH];have:=length_filter_le (fun j=>(Y j).isEmpty) (List.range g);rwa [length_range] at this
    ·intro g acc τ H2 pc;rw[hPc] at pc;obtain⟨_,_,s2,_⟩:=pc;exact SqL.of (s2 _ _ er)
    ·intro g x acc τ H2 pe hx pc hpe;rw[hPc] at pc;obtain⟨o0,o1,s2,rfl,rfl⟩:=pc;rw[getElem?_map] at hx;obtain⟨b,hb,rfl⟩:=map_eq_some_iff.mp hx;obtain⟨us,eb,tb⟩:=rad.el g b hb;have s3:=au (o:=HO.tup [V.int (g:Nat),V.ref b]) hpe;have ep:upd H2 pe (HO.tup [V.int (g:Nat),V.ref b]) pe=_:=aB;have eb3:=s3 _ _ (s2 _ _ eb);generalize upd H2 pe (HO.tup [V.int (g:Nat),V.ref b])=H3 at s3 ep eb3 |-;push_cast [ep];refine⟨aK δ,fun p4 hp4=>?_⟩;have v4:=au (o:=HO.lst []) hp4;refine⟨b,p4,us,rfl,rfl,v4 _ _ eb3,aB,_,rfl,?_⟩;have hl:=tb.length;have hse:us.isEmpty=(Y g).isEmpty:=by cases us <;> cases hX:Y g <;> first|rfl|(rw[hX] at hl;cases hl)
     have hst:=iD (fun j=>(Y j).isEmpty) g;rw[hse,hPc];split
     ·rename_i c;rw[if_pos c] at hst;exact⟨_,_,(s2.trans s3).trans v4,by rw[hst,qZ],rfl⟩
     rename_i c;rw[if_neg c,append_nil] at hst;exact⟨_,_,(s2.trans s3).trans v4,by rw[hst],rfl⟩
    intro acc τ H2 d pc hd;rw[hPc] at pc;obtain⟨o0,o1,s2,rfl,rfl⟩:=pc;push_cast;rw[length_map,hpdl];have nevY:=lc.nev;generalize (List.range cs.length).filter (fun j=>(Y j).isEmpty)=jd at nevY |-;have s3:=au (o:=HO.lst (kO jd)) hd;have ed:upd H2 d (HO.lst (kO jd)) d=_:=aB;have s113:=s2.trans s3;generalize upd H2 d (HO.lst (kO jd))=H12 at s3 ed s113 |-;clear hR3 hPc;have t12:=t11.same s113;subst hk3;refine aO fun k3 hk3=>?_;push_cast;refine⟨l,_,cs,low,high,rfl,t12,hrows,hrb,ω,vO ω,ω,ω,fun v1 H13 ob s13 tv1 bo1=>?_⟩;push_cast;refine⟨l,_,cs,low,high,rfl,t12.same s13,hrows,ω,ω,ω,ω,fun v2 H14 ob' s14 tv2 bo2=>?_⟩;have eo:=bo1.one bo2;subst eo;push_cast;refine⟨_,_,fun _=>True,_,rfl,tv1.same s14,tv2,by have:=xV ob;omega,fun H15 s15=>?_⟩;push_cast;subst hk3;have s1215:=(s13.trans s14).trans s15;have t15:=t12.same s1215;have ed15:=s1215 _ _ ed;have hnl:=zZ nevY;refine jr fun R4 hR4=>?_;push_cast [oN];refine⟨δ,δ,?_⟩;obtain⟨Pv3,hPv3⟩:∃Pv:Nat->L2.St->Hp->Prop,Pv=fun(_:Nat) σ H'=>∃(o10 o11:Option V),Same H15 H'/\σ=[some (.ref a),some (.int (0+(i:Int))),some (.ref p),some (.ref l),some (.str shown),some (.int (0+(j:Int))),some (.int low),some (.int high),some (.ref rd),some (.ref d),o10,o11]:=⟨_,rfl⟩;refine yJ hR4 Pv3 (by rw[hPv3];exact⟨_,_,Same.refl _,rfl⟩) ?_ ?_
    ·intro j2 σ H16 hj2 pv;rw[hPv3] at pv;obtain⟨o10,o11,s16,rfl⟩:=pv;refine aO fun k4 hk4=>?_;push_cast;refine⟨l,_,cs,low,high,rfl,t15.same s16,hrows,hrb,ω,vO ω,ω,ω,fun rn H17 jn s17 hrn ern nev=>?_⟩;have en:=nev.one nevY;subst en;push_cast;subst hk4;refine aO fun k4 hk4=>?_;push_cast;refine⟨_,_,fun _=>True,_,rfl,tQ ern ω,tQ (s17 _ _ (s16 _ _ ed15)) ω,by have:=Cw jn;omega,fun H18 s18=>?_⟩;push_cast;refine⟨_,_,_,rfl,((t15.same s16).same s17).same s18,shr,?_⟩;rw[hsh];push_cast;subst hk4;have er18:=s18 _ _ ern;push_cast [er18];refine⟨lt_of_le_of_lt (show(kO jn).length<=10000 by rw[mH];omega) δ,?_⟩;rw[hPv3];exact⟨_,_,s16.trans (jQ (s17.trans s18) hrn),rfl⟩
    intro σ H16 pv;rw[hPv3] at pv;obtain⟨o10,o11,s16,rfl⟩:=pv;rw[hPv2];have sF:=(s11.trans s113).trans (s1215.trans s16);exact⟨_,_,_,_,_,_,_,(s5.trans s510).trans sF.x,(tp10.same sF).le (by show 20010+6*(j:Int)+2+2+2<=20010+6*((j+1:Nat):Int);omega),rfl⟩
   intro σ H5 pv;rw[hPv2] at pv;obtain⟨o5,o6,o7,o8,o9,o10,o11,s5,tp5,rfl⟩:=pv;show k2 _ _;subst hk2;have sx7:=sx4.trans s5;replace tp7:bT H5 p 20040:=tp5.le δ;refine aO fun k2 hk2=>?_;push_cast;refine⟨p,12,20040,rfl,tp7,δ,δ,δ,δ,fun z=>absurd z δ,fun r8 H8 r80 r81 s8 tp8=>?_⟩;push_cast;refine⟨p,1+r8,20040+2,rfl,tp8,δ,δ,ω,ω,fun lf cf H9 s9 tp9 t9 hfl frows frb fnr=>?_⟩;push_cast;subst hk2;refine aO fun k2 hk2=>?_;push_cast;refine⟨p,50,20040+2+20100,rfl,tp9,δ,δ,δ,δ,fun z=>absurd z δ,fun r10 H10 r100 r101 s10 tp10=>?_⟩;push_cast;refine⟨⟨δ,δ,δ⟩,.inr ⟨δ,δ⟩,p,3,20040+2+20100+2,rfl,tp10,δ,δ,δ,δ,fun z=>absurd z δ,fun r11 H11 r110 r111 s11 tp11=>?_⟩;push_cast;subst hk2;refine aO fun k2 hk2=>?_;push_cast;refine⟨⟨δ,δ,δ⟩,p,10^Int.toNat 11,20040+2+20100+2+2,rfl,tp11,δ,δ,δ,δ,fun _=>by decide,fun r12 H12 r120 r121 s12 tp12=>?_⟩;push_cast;subst hk2;have r121':r12<100000000000:=r121;obtain⟨low,hlow⟩:∃z,z=(r10-24)*10^Int.toNat 9+r11:=⟨_,rfl⟩;have hlow':low=(r10-24)*1000000000+r11:=hlow;rw[<- hlow];obtain⟨high,hhigh⟩:∃z,z=low+r12:=⟨_,rfl⟩;rw[<- hhigh];have s912:=(s10.trans s11).trans s12;have t12:=t9.keep (ok':=(·≠p)) fun a o n e=>⟨n,s912 _ _ n e⟩;have sx12:=((sx7.trans s8).trans s9).trans s912;have few:GX cf low high:=Kc frows ω fnr;push_cast;refine⟨lf,_,cf,low,high,rfl,t12,frows,frb,ω,few,ω,ω,fun v1 H13 ob s13 tv1 bo1=>?_⟩;push_cast;refine⟨lf,_,cf,low,high,rfl,t12.same s13,frows,frb,ω,few,ω,ω,fun rn H14 jn s14 hrn ern nev=>?_⟩;push_cast;refine⟨aK δ,fun p15 hp15=>?_⟩;have s15:=au (o:=HO.tup [v1,V.ref rn]) hp15;have hnl:=zZ nev;have tf:aN (fun _=>True) (upd H14 p15 (HO.tup [v1,V.ref rn])) (.ref p15) (.tuple [Fg ob,nvD jn]):=.tup trivial aB (by show 2<=1000000;decide) (.cons ((tv1.same s14).same s15) (.cons ((tQ ern ω).same s15) .nil));have s1315:=(s13.trans s14).trans s15;generalize upd H14 p15 (HO.tup [v1,V.ref rn])=H15 at s15 tf s1315 |-;refine⟨lf,_,cf,low,high,rfl,t12.same s1315,frows,frb,ω,fnr,ω,ω,ω,fun v2 H16 ob' jn' s16 tv2 bo2 nev2=>?_⟩;have eo:=bo1.one bo2;have en:=nev.one nev2;subst eo en;push_cast;refine⟨_,_,fun _=>True,_,rfl,tf.same s16,tv2,by have:=xV ob;have:=Cw jn;show max (Fg ob).depth (max (nvD jn).depth 0)+1<4;omega,fun H17 s17=>?_⟩;push_cast;rw[hPv];exact⟨Sg (sx12.trans ((s1315.trans s16).trans s17).x) hp0,_,_,_,_,_,_,_,_,_,_,_,rfl⟩
  refine jA fun kt ke hkt hke=>?_;push_cast;refine⟨p,2,0+2+20000,rfl,tp4,δ,δ,δ,δ,fun z=>absurd z δ,fun r6 H6 r60 r61 s6 tp6=>?_⟩;push_cast;have sx6:=sx4.trans s6;have t6:=t4.keep (ok':=(·≠p)) fun a o n e=>⟨n,s6 _ _ n e⟩;split
  ·subst hkt;refine aO fun k3 hk3=>?_;push_cast;refine gR fun R3 hR3=>?_;cases t6 with
   | lst ol el zl tsl=>
    rename_i xs;have hxl:=tsl.length;rw[length_map] at hxl;have hl30:=hG.ln;push_cast [el];obtain⟨Pc,hPc⟩:∃Pv:Nat->List V->L2.St->Hp->Prop,Pv=fun(g:Nat) acc τ H'=>∃(o0:Option V),Same H6 H'/\aM (·≠p) H' acc (((cs.take g).map HN).map bJ)/\τ=[o0]:=⟨_,rfl⟩;refine rK hR3 (xs:=xs) (aK ω) Pc (by rw[hPc];exact⟨_,Same.refl _,.nil,rfl⟩) ?_ ?_ ?_ ?_
    ·intro g acc τ H2 pc;rw[hPc] at pc;obtain⟨_,_,ts,_⟩:=pc;rw[ts.length,length_map,length_map];exact length_take_le _ _
    ·intro g acc τ H2 pc;rw[hPc] at pc;obtain⟨_,s2,_⟩:=pc;exact SqL.of (s2 _ _ el)
    ·intro g x acc τ H2 hx pc;rw[hPc] at pc;obtain⟨o0,s2,ts,rfl⟩:=pc;have li:g<cs.length:=by have:=(List.getElem?_eq_some_iff.mp hx).1;omega
     have hc:cs[g]?=some cs[g]:=getElem?_eq_getElem li;obtain⟨d,hd,td⟩:=(tsl.same s2).get hx;rw[getElem?_map,hc] at hd;cases hd;have htk:=gZ hc;generalize cs[g]=c at hc td htk;obtain⟨b,gg,rfl,e,eg⟩:=td.row;push_cast [e];refine⟨_,lX c gg,?_⟩;push_cast;by_cases c1:jw c = "table"
     ·rw[if_pos c1];obtain⟨lo,gs,rfl⟩:=lM c1;refine⟨aK δ,fun t ht=>?_⟩;have v:=au (o:=HO.tup [V.str (Str.ofString "pick"),V.int 1]) ht;rw[hPc];refine⟨_,s2.trans v,?_,rfl⟩;rw[htk,map_append,map_append];exact(ts.same v).append (.cons (.tup (((tp6.same s2).ne ht)) aB (by show 2<=1000000;decide) (.cons (.str _) (.cons (.int _) .nil))) .nil)
     rw[if_neg c1,hPc];refine⟨_,s2,?_,rfl⟩;rw[htk,map_append,map_append];have e0:HN c=c:=by cases c <;> first|rfl|exact absurd rfl c1
     refine ts.append (.cons ?_ .nil);rw[e0];exact td
    intro acc τ H2 d2 pc hd2;rw[hPc] at pc;obtain⟨o0,s2,ts,rfl⟩:=pc;rw[hxl,take_length] at ts;have v:=au (o:=HO.lst acc) hd2;have e7:upd H2 d2 (HO.lst acc) d2=_:=aB;have ts7:=ts.same v;have s67:=s2.trans v;have tp7:=tp6.same s67;generalize upd H2 d2 (HO.lst acc)=H7 at v e7 ts7 s67 tp7 |-;push_cast;clear hR3 hPc;have hG2:=Ux hG;generalize cs.map HN=cs2 at ts7 hG2;have hal:=ts7.length;rw[length_map] at hal;have hl30:=hG2.ln;subst hk3;refine gR fun R4 hR4=>?_;push_cast [e7];obtain⟨Pc,hPc⟩:∃Pv:Nat->List V->L2.St->Hp->Prop,Pv=fun(g:Nat) acc τ H'=>∃(o0:Option V),Same H7 H'/\aM (·≠p) H' acc (((cs2.take g).map O1).map bJ)/\τ=[o0]:=⟨_,rfl⟩;refine rK hR4 (xs:=acc) (aK ω) Pc (by rw[hPc];exact⟨_,Same.refl _,.nil,rfl⟩) ?_ ?_ ?_ ?_
    ·intro g acc τ H2 pc;rw[hPc] at pc;obtain⟨_,_,ts,_⟩:=pc;rw[ts.length,length_map,length_map];exact length_take_le _ _
    ·intro g acc τ H2 pc;rw[hPc] at pc;obtain⟨_,s2,_⟩:=pc;exact SqL.of (s2 _ _ e7)
    ·intro g x acc τ H2 hx pc;rw[hPc] at pc;obtain⟨o0,s2,ts,rfl⟩:=pc;have li:g<cs2.length:=by have:=(List.getElem?_eq_some_iff.mp hx).1;omega
     have hc:cs2[g]?=some cs2[g]:=getElem?_eq_getElem li;obtain⟨d,hd,td⟩:=(ts7.same s2).get hx;rw[getElem?_map,hc] at hd;cases hd;have htk:=gZ hc;generalize cs2[g]=c at hc td htk;obtain⟨b,gg,rfl,e,eg⟩:=td.row;push_cast [e];refine⟨_,lX c gg,?_⟩;push_cast;by_cases c1:jw c = "mask"
     ·rw[if_pos c1];obtain⟨lo,wd,bits,tt,rfl⟩:=lN c1;push_cast [e,cu];refine⟨aK δ,fun t ht=>?_⟩;have v:=au (o:=HO.tup [V.str (Str.ofString "below"),V.int lo,V.int tt]) ht;rw[hPc];refine⟨_,s2.trans v,?_,rfl⟩;rw[htk,map_append,map_append];exact(ts.same v).append (.cons (.tup (((tp7.same s2).ne ht)) aB (by show 3<=1000000;decide) (.cons (.str _) (.cons (.int _) (.cons (.int _) .nil)))) .nil)
     rw[if_neg c1,hPc];refine⟨_,s2,?_,rfl⟩;rw[htk,map_append,map_append];have e0:O1 c=c:=by cases c <;> first|rfl|exact absurd rfl c1
     refine ts.append (.cons ?_ .nil);rw[e0];exact td
    intro acc τ H2 d3 pc hd3;rw[hPc] at pc;obtain⟨o0,s2,ts,rfl⟩:=pc;rw[hal,take_length] at ts;have v:=au (o:=HO.lst acc) hd3;have hl2:=ts.length;rw[length_map,length_map] at hl2;push_cast;have s8:=s67.trans (s2.trans v);exact go _ _ _ (sx6.trans s8.x) ((tp6.same s8).le δ) (Uy hG2) (.lst ((tp7.same s2).ne hd3) aB ω (ts.same v))
  subst hke;push_cast;exact go _ _ _ sx6 (tp6.le δ) hG t6
 intro σ H1 pv;rw[hPv] at pv;obtain⟨s1,o1,o2,o3,o4,o5,o6,o7,o8,o9,o10,o11,rfl⟩:=pv;show k _ _;subst hk;exact q _
end
theorem all_mk {l:PySem.W.OpenLaw}{w:World}{K:PySem.W.Frag}{h:Heap}{mg:Str->Option Value}{fa:Addr}{f1:Addr}{od1 an1:Option Addr}{sl1:Array (Option Value)}{oc1 kV1 dc1 pm1 cd1 ct1:Value}{f2:Addr}{od2 an2:Option Addr}{sl2:Array (Option Value)}{oc2 kV2 dc2 pm2 cd2 ct2:Value}{f3:Addr}{od3 an3:Option Addr}{sl3:Array (Option Value)}{oc3 kV3 dc3 pm3 cd3 ct3:Value}{f4:Addr}{od4 an4:Option Addr}{sl4:Array (Option Value)}{oc4 kV4 dc4 pm4 cd4 ct4:Value}{f5:Addr}{od5 an5:Option Addr}{sl5:Array (Option Value)}{oc5 kV5 dc5 pm5 cd5 ct5:Value}{f6:Addr}{od6 an6:Option Addr}{sl6:Array (Option Value)}{oc6 kV6 dc6 pm6 cd6 ct6:Value}{f7:Addr}{od7 an7:Option Addr}{sl7:Array (Option Value)}{oc7 kV7 dc7 pm7 cd7 ct7:Value}{f8:Addr}{od8 an8:Option Addr}{sl8:Array (Option Value)}{oc8 kV8 dc8 pm8 cd8 ct8:Value}{f9:Addr}{od9 an9:Option Addr}{sl9:Array (Option Value)}{oc9 kV9 dc9 pm9 cd9 ct9:Value}{f10:Addr}{od10 an10:Option Addr}{sl10:Array (Option Value)}{oc10 kV10 dc10 pm10 cd10 ct10:Value}{f11:Addr}{od11 an11:Option Addr}{sl11:Array (Option Value)}{oc11 kV11 dc11 pm11 cd11 ct11:Value}{f12:Addr}{od12 an12:Option Addr}{sl12:Array (Option Value)}{oc12 kV12 dc12 pm12 cd12 ct12:Value}{f13:Addr}{od13 an13:Option Addr}{sl13:Array (Option Value)}{oc13 kV13 dc13 pm13 cd13 ct13:Value}{f14:Addr}{od14 an14:Option Addr}{sl14:Array (Option Value)}{oc14 kV14 dc14 pm14 cd14 ct14:Value}{f15:Addr}{od15 an15:Option Addr}{sl15:Array (Option Value)}{oc15 kV15 dc15 pm15 cd15 ct15:Value}{f16:Addr}{od16 an16:Option Addr}{sl16:Array (Option Value)}{oc16 kV16 dc16 pm16 cd16 ct16:Value}{f17:Addr}{od17 an17:Option Addr}{sl17:Array (Option Value)}{oc17 kV17 dc17 pm17 cd17 ct17:Value}{f18:Addr}{od18 an18:Option Addr}{sl18:Array (Option Value)}{oc18 kV18 dc18 pm18 cd18 ct18:Value}{f19:Addr}{od19 an19:Option Addr}{sl19:Array (Option Value)}{oc19 kV19 dc19 pm19 cd19 ct19:Value}{f20:Addr}{od20 an20:Option Addr}{sl20:Array (Option Value)}{oc20 kV20 dc20 pm20 cd20 ct20:Value}{f21:Addr}{od21 an21:Option Addr}{sl21:Array (Option Value)}{oc21 kV21 dc21 pm21 cd21 ct21:Value}{f22:Addr}{od22 an22:Option Addr}{sl22:Array (Option Value)}{oc22 kV22 dc22 pm22 cd22 ct22:Value}{f23:Addr}{od23 an23:Option Addr}{sl23:Array (Option Value)}{oc23 kV23 dc23 pm23 cd23 ct23:Value}{f24:Addr}{od24 an24:Option Addr}{sl24:Array (Option Value)}{oc24 kV24 dc24 pm24 cd24 ct24:Value}(X:K.In h) (G:h.Ns mainGlobals mg) (hfa:mg "law" = some (.ref fa))
  (d1:DA K "ends_of" pX f1 od1 an1 sl1 oc1 kV1 dc1 pm1 cd1 ct1)
  (d2:DA K "joined" iR f2 od2 an2 sl2 oc2 kV2 dc2 pm2 cd2 ct2)
  (d3:DA K "runs_of" iQ f3 od3 an3 sl3 oc3 kV3 dc3 pm3 cd3 ct3)
  (d4:DA K "mask_goals" cX f4 od4 an4 sl4 oc4 kV4 dc4 pm4 cd4 ct4)
  (d5:DA K "ways_of" fC f5 od5 an5 sl5 oc5 kV5 dc5 pm5 cd5 ct5)
  (d6:DA K "send_on" cP f6 od6 an6 sl6 oc6 kV6 dc6 pm6 cd6 ct6)
  (d7:DA K "come_to" dG f7 od7 an7 sl7 oc7 kV7 dc7 pm7 cd7 ct7)
  (d8:DA K "least_beyond" b8 f8 od8 an8 sl8 oc8 kV8 dc8 pm8 cd8 ct8)
  (d9:DA K "beyond_among" cg f9 od9 an9 sl9 oc9 kV9 dc9 pm9 cd9 ct9)
  (d10:DA K "beyond_of" fO f10 od10 an10 sl10 oc10 kV10 dc10 pm10 cd10 ct10)
  (d11:DA K "never_done" cW f11 od11 an11 sl11 oc11 kV11 dc11 pm11 cd11 ct11)
  (d12:DA K "_law_cell_at" jR f12 od12 an12 sl12 oc12 kV12 dc12 pm12 cd12 ct12)
  (d13:DA K "_law_tape" kE f13 od13 an13 sl13 oc13 kV13 dc13 pm13 cd13 ct13)
  (d14:DA K "_law_take" kI f14 od14 an14 sl14 oc14 kV14 dc14 pm14 cd14 ct14)
  (d15:DA K "_law_same" fH f15 od15 an15 sl15 oc15 kV15 dc15 pm15 cd15 ct15)
  (d16:DA K "_law_rows" dO f16 od16 an16 sl16 oc16 kV16 dc16 pm16 cd16 ct16)
  (d17:DA K "_law_behind" fZ f17 od17 an17 sl17 oc17 kV17 dc17 pm17 cd17 ct17)
  (d18:DA K "_law_run" rW f18 od18 an18 sl18 oc18 kV18 dc18 pm18 cd18 ct18)
  (d19:DA K "_law_come" iC f19 od19 an19 sl19 oc19 kV19 dc19 pm19 cd19 ct19)
  (d20:DA K "_law_beyond" cR f20 od20 an20 sl20 oc20 kV20 dc20 pm20 cd20 ct20)
  (d21:DA K "_law_far_rows" dB f21 od21 an21 sl21 oc21 kV21 dc21 pm21 cd21 ct21)
  (d22:DA K "_law_cuts" fY f22 od22 an22 sl22 oc22 kV22 dc22 pm22 cd22 ct22)
  (d23:DA K "_law_far_due" bW f23 od23 an23 sl23 oc23 kV23 dc23 pm23 cd23 ct23)
  (d24:DA K "law" dI f24 od24 an24 sl24 oc24 kV24 dc24 pm24 cd24 ct24)
  (z1:nsIn K mainGlobals "abs" = some none)
  (z2:nsIn K mainGlobals "all" = some none)
  (z3:nsIn K mainGlobals "bool" = some none)
  (z4:nsIn K mainGlobals "enumerate" = some none)
  (z5:nsIn K mainGlobals "int" = some none)
  (z6:nsIn K mainGlobals "isinstance" = some none)
  (z7:nsIn K mainGlobals "len" = some none)
  (z8:nsIn K mainGlobals "list" = some none)
  (z9:nsIn K mainGlobals "max" = some none)
  (z10:nsIn K mainGlobals "min" = some none)
  (z11:nsIn K mainGlobals "range" = some none)
  (z12:nsIn K mainGlobals "repr" = some none)
  (z13:nsIn K mainGlobals "set" = some none)
  (z14:nsIn K mainGlobals "sorted" = some none)
  (z15:nsIn K mainGlobals "str" = some none)
  (z16:nsIn K mainGlobals "tuple" = some none)
  (z17:nsIn K mainGlobals "zip" = some none) :
  ∃fd:FuncData,(∀(s:Shared)(v:Value),BindsTo s fd ⟨[v],[]⟩ [("_law_script",v)])/\∀base:Heap,K.In base->base.Ns mainGlobals mg->dF l.prog w K mg base CX0 5 fa fd ["_law_script"] (Hg K):=by
 have e:=hfa.symm.trans (mg_of X G d24.a);cases e;have DEndsOf:=d1.d ["row"] X G fun _ _ _ _ _ _ us hl=>by obtain⟨z0,rfl⟩:=ln1 hl;rfl
 have DJoined:=d2.d ["spans"] X G fun _ _ _ _ _ _ us hl=>by obtain⟨z0,rfl⟩:=ln1 hl;rfl
 have DRunsOf:=d3.d ["first","goals"] X G fun _ _ _ _ _ _ us hl=>by obtain⟨z0,z1,rfl⟩:=ln2 hl;rfl
 have DMaskGoals:=d4.d ["row","at"] X G fun _ _ _ _ _ _ us hl=>by obtain⟨z0,z1,rfl⟩:=ln2 hl;rfl
 have DWaysOf:=d5.d q7_ X G fun _ _ _ _ _ _ us hl=>by obtain⟨z0,z1,z2,z3,rfl⟩:=ln4 hl;rfl
 have DSendOn:=d6.d q8_ X G fun _ _ _ _ _ _ us hl=>by obtain⟨z0,z1,z2,rfl⟩:=ln3 hl;rfl
 have DComeTo:=d7.d q2_ X G fun _ _ _ _ _ _ us hl=>by obtain⟨z0,z1,z2,rfl⟩:=ln3 hl;rfl
 have DLeastBeyond:=d8.d ["row","spans"] X G fun _ _ _ _ _ _ us hl=>by obtain⟨z0,z1,rfl⟩:=ln2 hl;rfl
 have DBeyondAmong:=d9.d ["rows","reached"] X G fun _ _ _ _ _ _ us hl=>by obtain⟨z0,z1,rfl⟩:=ln2 hl;rfl
 have DBeyondOf:=d10.d q2_ X G fun _ _ _ _ _ _ us hl=>by obtain⟨z0,z1,z2,rfl⟩:=ln3 hl;rfl
 have DNeverDone:=d11.d q2_ X G fun _ _ _ _ _ _ us hl=>by obtain⟨z0,z1,z2,rfl⟩:=ln3 hl;rfl
 have DZCellAt:=d12.d q3_ X G fun _ _ _ _ _ _ us hl=>by obtain⟨z0,z1,rfl⟩:=ln2 hl;rfl
 have DZTape:=d13.d q3_ X G fun _ _ _ _ _ _ us hl=>by obtain⟨z0,z1,rfl⟩:=ln2 hl;rfl
 have DZTake:=d14.d q1_ X G fun _ _ _ _ _ _ us hl=>by obtain⟨z0,z1,rfl⟩:=ln2 hl;rfl
 have DZSame:=d15.d q6_ X G fun _ _ _ _ _ _ us hl=>by obtain⟨z0,z1,rfl⟩:=ln2 hl;rfl
 have DZRows:=d16.d q1_ X G fun _ _ _ _ _ _ us hl=>by obtain⟨z0,z1,rfl⟩:=ln2 hl;rfl
 have DZBehind:=d17.d q5_ X G fun _ _ _ _ _ _ us hl=>by obtain⟨z0,z1,z2,rfl⟩:=ln3 hl;rfl
 have DZRun:=d18.d q4_ X G fun _ _ _ _ _ _ us hl=>by obtain⟨z0,z1,rfl⟩:=ln2 hl;rfl
 have DZCome:=d19.d q0_ X G fun _ _ _ _ _ _ us hl=>by obtain⟨z0,z1,z2,rfl⟩:=ln3 hl;rfl
 have DZBeyond:=d20.d q0_ X G fun _ _ _ _ _ _ us hl=>by obtain⟨z0,z1,z2,rfl⟩:=ln3 hl;rfl
 have DZFarRows:=d21.d q1_ X G fun _ _ _ _ _ _ us hl=>by obtain⟨z0,z1,rfl⟩:=ln2 hl;rfl
 have DZCuts:=d22.d q0_ X G fun _ _ _ _ _ _ us hl=>by obtain⟨z0,z1,z2,rfl⟩:=ln3 hl;rfl
 have DZFarDue:=d23.d q0_ X G fun _ _ _ _ _ _ us hl=>by obtain⟨z0,z1,z2,rfl⟩:=ln3 hl;rfl
 have DLaw:=d24.d ["_law_script"] X G fun _ _ _ _ _ _ us hl=>by obtain⟨z0,rfl⟩:=ln1 hl;rfl
 have hB:∀x:Str,x∈BLs->mg x=none:=by
  intro x hx;replace hx:x∈(["abs","all","bool","enumerate","int","isinstance","len","list","max","min","range","repr","set","sorted","str","tuple","zip"]:List Str):=hx;simp only[mem_cons,not_mem_nil,or_false] at hx;rcases hx with rfl|rfl|rfl|rfl|rfl|rfl|rfl|rfl|rfl|rfl|rfl|rfl|rfl|rfl|rfl|rfl|rfl
  ·exact mg_none_of X G z1
  ·exact mg_none_of X G z2
  ·exact mg_none_of X G z3
  ·exact mg_none_of X G z4
  ·exact mg_none_of X G z5
  ·exact mg_none_of X G z6
  ·exact mg_none_of X G z7
  ·exact mg_none_of X G z8
  ·exact mg_none_of X G z9
  ·exact mg_none_of X G z10
  ·exact mg_none_of X G z11
  ·exact mg_none_of X G z12
  ·exact mg_none_of X G z13
  ·exact mg_none_of X G z14
  ·exact mg_none_of X G z15
  ·exact mg_none_of X G z16
  exact mg_none_of X G z17
 refine⟨fnOf "law" "law" (gD dI) (eF dI) (ak dI) .none kV24 dc24 pm24 an24 cd24 ct24,fun s v=>.of_eq rfl,fun base kb nb=>?_⟩;have CCell:=DZCellAt.cal (Uu (P:=l.prog) (w:=w) (base:=base) hB DZCellAt.fn);have CTape:=DZTape.cal (Ug hB CCell DZTape.fn);have CTake0:=DZTake.cal (Jk (P:=l.prog) (w:=w) (mg:=mg) (base:=base));have CTake1:=DZTake.cal (HF (n:=0) hB δ CTake0 DZTake.fn);have CTake2:=DZTake.cal (HF (n:=1) hB δ CTake1 DZTake.fn);have CSame0:=DZSame.cal (same_none (P:=l.prog) (w:=w) (mg:=mg) (base:=base));have CSame1:=DZSame.cal (tO (n:=0) hB CSame0 DZSame.fn);have CSame2:=DZSame.cal (tO (n:=1) hB CSame1 DZSame.fn);have CSame3:=DZSame.cal (tO (n:=2) hB CSame2 DZSame.fn);have CSame:=DZSame.cal (tO (n:=3) hB CSame3 DZSame.fn);have CJn:=DJoined.cal (JM (P:=l.prog) (w:=w) (base:=base) hB DJoined.fn);have CRo:=DRunsOf.cal (Ui (P:=l.prog) (w:=w) (base:=base) hB DRunsOf.fn);have CMg:=DMaskGoals.cal (Oq (P:=l.prog) (w:=w) (base:=base) hB DMaskGoals.fn);have CWo:=DWaysOf.cal (Ue hB CRo CMg DWaysOf.fn);have CSo:=DSendOn.cal (Uh (P:=l.prog) (w:=w) (base:=base) hB DSendOn.fn);have CCt:=DComeTo.cal (Ut hB CJn CWo CSo DComeTo.fn);have CRows:=DZRows.cal (Uj hB CTake2 DZRows.fn);have CLBeh:=DZBehind.cal (Fl (P:=l.prog) (w:=w) (base:=base) hB DZBehind.fn);have CLRun:=DZRun.cal (Ul hB CLBeh DZRun.fn);have CLCome:=DZCome.cal (Ou hB CLRun DZCome.fn);have CCuts:=DZCuts.cal (Us (P:=l.prog) (w:=w) (base:=base) hB DZCuts.fn);have CFarR:=DZFarRows.cal (Uo hB CRows CTake2 DZFarRows.fn);have CFarD:=DZFarDue.cal (Uq hB CCuts CLRun DZFarDue.fn);have CLBey:=DZBeyond.cal (Um hB CLRun DZBeyond.fn);have CEnds:=DEndsOf.cal (Ur (P:=l.prog) (w:=w) (base:=base) hB DEndsOf.fn);have CLb:=DLeastBeyond.cal (Ot hB CEnds DLeastBeyond.fn);have CBa:=DBeyondAmong.cal (Ow hB CLb DBeyondAmong.fn);have CBo:=DBeyondOf.cal (Ov hB CCt CBa DBeyondOf.fn);have CNd:=DNeverDone.cal (Oo hB CCt DNeverDone.fn);exact XF hB CTape CTake2 CRows CBo CNd CLCome CLBey CSame CFarR CFarD DLaw.fn
theorem walk {l:PySem.W.OpenLaw}{q:Program}{loose:List Str}{XP:(Str->Option Value)->Heap->Prop}{YP:World->Heap->Prop}{d:DefRec}{K:Params->PySem.W.Frag}(hn:l.most=some 63)(hdf:d.params.defaults=[])
  (hY:∀(w:World)(h:Heap),YP w h->(K w.params).In h)
  (F:∀(w:World)(mg:Str->Option Value)(fa:Addr)(h:Heap),(K w.params).In h->h.Ns mainGlobals mg->mg d.name=some (.ref fa) ->
   ∃fd:FuncData,(∀(s:Shared)(u:Value),BindsTo s fd ⟨[u],[]⟩ [("_law_script",u)])/\∀base:Heap,(K w.params).In base->base.Ns mainGlobals mg->dF l.prog w (K w.params) mg base CX0 5 fa fd ["_law_script"] (Hg (K w.params))) :
  PySem.W.WalkO q loose XP YP l.row.toRowW d [] (fun f vs=>PySem.call f vs):=
 L2.RK (n:=63) (k:=5) (x := "_law_script") (CX:=fun _=>CX0) (sp:=fun w=>Hg (K w.params)) hn δ hdf ⟨rfl,δ,δ,rfl⟩ hY F (fun _ _ a ns hl _ hS=>⟨a,ns,rfl,hS,hl,fun _=>rfl⟩) fun _ _ _ _ _ z=>z
end K16
namespace PySem.W.Fast
theorem tw1239687732649708670:True:=⟨⟩
theorem tw12713423832760293823:True:=⟨⟩
theorem tw13873860743590631047:True:=⟨⟩
theorem tw15444170587237014117:True:=⟨⟩
theorem tw15704812640441263585:True:=⟨⟩
theorem tw15822501955527016242:True:=⟨⟩
theorem tw15887988342163888247:True:=⟨⟩
theorem tw16722927249596655689:True:=⟨⟩
theorem tw3021560110759016492:True:=⟨⟩
theorem tw3947607716062228022:True:=⟨⟩
theorem tw4603852909891381581:True:=⟨⟩
theorem tw5552223781301769418:True:=⟨⟩
theorem tw636853697426699542:True:=⟨⟩
theorem tw8056903411568003606:True:=⟨⟩
end PySem.W.Fast
open PySem PySem.W PyProof.Rows
set_option maxRecDepth 100000 in
set_option maxHeartbeats 0 in
theorem PySem.Challenge.cw_caseways_k16_first_beyond_and_never_done_holds : PySem.Challenge.rw_caseways_k16_first_beyond_and_never_done.Holds := by
 w_on; o_law; k_head; (case hw=>w_witness2)
 k_fill
 refine K16.walk (l:=PySem.Challenge.rw_caseways_k16_first_beyond_and_never_done) rfl rfl (fun w h Y=>PySem.W.kIn_of Y) ?F
 case F=>
  intro w mg fa h KX G hmg
  refine' K16.all_mk KX G hmg ⟨?a1,?l1,?c1,?k1⟩ ⟨?a2,?l2,?c2,?k2⟩ ⟨?a3,?l3,?c3,?k3⟩ ⟨?a4,?l4,?c4,?k4⟩ ⟨?a5,?l5,?c5,?k5⟩ ⟨?a6,?l6,?c6,?k6⟩ ⟨?a7,?l7,?c7,?k7⟩ ⟨?a8,?l8,?c8,?k8⟩ ⟨?a9,?l9,?c9,?k9⟩ ⟨?a10,?l10,?c10,?k10⟩ ⟨?a11,?l11,?c11,?k11⟩ ⟨?a12,?l12,?c12,?k12⟩ ⟨?a13,?l13,?c13,?k13⟩ ⟨?a14,?l14,?c14,?k14⟩ ⟨?a15,?l15,?c15,?k15⟩ ⟨?a16,?l16,?c16,?k16⟩ ⟨?a17,?l17,?c17,?k17⟩ ⟨?a18,?l18,?c18,?k18⟩ ⟨?a19,?l19,?c19,?k19⟩ ⟨?a20,?l20,?c20,?k20⟩ ⟨?a21,?l21,?c21,?k21⟩ ⟨?a22,?l22,?c22,?k22⟩ ⟨?a23,?l23,?c23,?k23⟩ ⟨?a24,?l24,?c24,?k24⟩ ?z1 ?z2 ?z3 ?z4 ?z5 ?z6 ?z7 ?z8 ?z9 ?z10 ?z11 ?z12 ?z13 ?z14 ?z15 ?z16 ?z17
  case a1|l1|c1|k1|a2|l2|c2|k2|a3|l3|c3|k3|a4|l4|c4|k4|a5|l5|c5|k5|a6|l6|c6|k6|a7|l7|c7|k7|a8|l8|c8|k8|a9|l9|c9|k9|a10|l10|c10|k10|a11|l11|c11|k11|a12|l12|c12|k12|a13|l13|c13|k13|a14|l14|c14|k14|a15|l15|c15|k15|a16|l16|c16|k16|a17|l17|c17|k17|a18|l18|c18|k18|a19|l19|c19|k19|a20|l20|c20|k20|a21|l21|c21|k21|a22|l22|c22|k22|a23|l23|c23|k23|a24|l24|c24|k24|z1|z2|z3|z4|z5|z6|z7|z8|z9|z10|z11|z12|z13|z14|z15|z16|z17=>k_is
#print axioms PySem.Challenge.cw_caseways_k16_first_beyond_and_never_done_holds
