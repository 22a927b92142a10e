import PyProof.Rows.All
import Wide.All
import OpenK.AllK
import Wide.FinOn
import Lean
import PyProof.EqAt
import PyProof.EqKinds
import PyProof.TupleCall
import PyProof.NeData
import PySem.Challenge.RW_caseways_k27_best_rows_of_tests
local macro_rules | `(tactic| omega) => `(tactic| first | with_reducible assumption | lia | omega +splitDisjunctions)
set_option Elab.async false
set_option linter.all false
set_option maxRecDepth 100000
theorem ω {p : Prop}(h : p := by omega) : p := h
theorem δ {p : Prop}(h : p := by decide) : p := h
theorem ψ {p : Prop}(h : p := by decide +kernel) : p := h
open List (all_cons all_eq_true all_map any_cons append_assoc append_nil drop_eq_getElem_cons drop_length drop_zero ext_getElem filterMap_cons filterMap_map filter_cons find?_cons flatten_cons forIn_cons forIn_nil getElem?_append_left getElem?_append_right getElem?_eq_getElem getElem?_eq_none getElem?_map getElem?_reverse getElem?_toArray getElem_mem length_append length_cons length_drop length_filter_le length_map length_nil length_range length_reverse length_singleton length_take length_take_le lookup_cons mapM_nil mapM_toArray map_append map_congr_left map_cons map_map map_nil mem_append mem_append_right mem_cons mem_cons_of_mem mem_cons_self mem_filter mem_iff_getElem mem_map mem_of_getElem? mem_range mem_singleton nodup_cons not_mem_nil of_mem_zip pairwise_cons pairwise_iff_getElem pairwise_lt_range pairwise_map range_succ replicate_succ size_toArray sum_cons take_add_one take_length take_of_length_le)
open PySem.Heap (get?_push_ne get?_push_of_some get?_push_size get?_update_other get?_update_self lt_size size_push size_update)
open Option (getD_none map_eq_some_iff map_some)
open PySem.W (codeIn fnOf keepIn kitOne mg_none_of mg_of nsIn)
open Array (getElem?_toList length_toList size_map toList_map toList_push)
open Nat (add_sub_cancel le_of_lt le_refl le_succ le_trans lt_irrefl lt_of_le_of_lt lt_of_lt_of_le lt_of_sub_pos lt_or_ge lt_succ_of_lt lt_succ_self lt_trans max_eq_right mod_lt ne_of_gt ne_of_lt not_lt_zero sub_self sub_zero zero_add zero_le zero_lt_succ)
open Int (add_zero emod_lt_of_pos emod_nonneg mul_add mul_comm mul_zero neg_mul toNat_natCast)
open Bool (and_eq_true false_eq_true)
namespace L2
open PySem PySem.Spec PyProof.Rows
noncomputable abbrev Key:=Sum Int Str
noncomputable def tU:Key->Value->Bool
 | .inl k,v=>Value.isInt k v
 | .inr x,v=>Value.isStrOf x v
noncomputable def Vw (w:World):Key->Int
 | .inl k=>hashInt k
 | .inr x=>hashStr w x
theorem cL:∀{k:Key}{v:Value},tU k v=true->(∃i t,k=Sum.inl i/\v=Value.int i t)\/(∃x t,k=Sum.inr x/\v=Value.str x t)
 | .inl i,v,h=>by
  obtain⟨t,e⟩:=Value.isInt_shape (k:=i) (v:=v) h;exact .inl ⟨i,t,rfl,e⟩
 | .inr x,v,h=>by
  obtain⟨t,e⟩:=Value.isStrOf_shape (x:=x) (v:=v) h;exact .inr ⟨x,t,rfl,e⟩
theorem Ep (i:Int)(t:Tok):tU (.inl i) (.int i t)=true:=by simp [tU,Value.isInt]
theorem Eo (x:Str)(t:Tok):tU (.inr x) (.str x t)=true:=by simp [tU,Value.isStrOf]
theorem SM (a b:Int):decide ((Sum.inl a:Key)=Sum.inl b)=(a == b):=by
 by_cases e:a=b
 ·subst e;simp
 have h:¬(Sum.inl a:Key)=Sum.inl b:=fun q=>e (Sum.inl.inj q);rw[decide_eq_false h];exact(beq_eq_false_iff_ne.mpr e).symm
theorem Sx (a b:Str):decide ((Sum.inr a:Key)=Sum.inr b)=decide (a=b):=by
 by_cases e:a=b
 ·subst e;simp
 have h:¬(Sum.inr a:Key)=Sum.inr b:=fun q=>e (Sum.inr.inj q);rw[decide_eq_false h,decide_eq_false e]
theorem SJ (a:Int)(b:Str):decide ((Sum.inl a:Key)=Sum.inr b)=false:=decide_eq_false (fun q=>nomatch q)
theorem Sy (a:Str)(b:Int):decide ((Sum.inr a:Key)=Sum.inl b)=false:=decide_eq_false (fun q=>nomatch q)
noncomputable def bO (prog:Program)(w:World):PySem.KeyKind prog w Key where
 is:=tU
 hash:=Vw w
 inj:=fun v a b ha hb=>by
  rcases cL ha with⟨i,t,rfl,rfl⟩|⟨x,t,rfl,rfl⟩
  ·rcases cL hb with⟨j,u,rfl,e⟩|⟨y,u,rfl,e⟩
   ·injection e with e1 _;rw[e1]
   exact nomatch e
  rcases cL hb with⟨j,u,rfl,e⟩|⟨y,u,rfl,e⟩
  ·exact nomatch e
  injection e with e1 _;rw[e1]
 byValue:=fun k v h=>by
  rcases cL h with⟨i,t,rfl,rfl⟩|⟨x,t,rfl,rfl⟩ <;> rfl
 pyHash:=fun hv h=>by
  rcases cL hv with⟨i,t,rfl,rfl⟩|⟨x,t,rfl,rfl⟩
  ·exact wpAny_pyHash_int h
  exact wpAny_pyHash_str h
 eqBool:=fun hu hv h=>by
  rcases cL hu with⟨i,t,rfl,rfl⟩|⟨x,t,rfl,rfl⟩
  ·rcases cL hv with⟨j,u,rfl,rfl⟩|⟨y,u,rfl,rfl⟩
   ·rw[SM] at h;exact wpAny_eqBool_int h
   rw[SJ] at h;exact SeqAt.EqAt.int_str i t y u _ _ _ _ h
  rcases cL hv with⟨j,u,rfl,rfl⟩|⟨y,u,rfl,rfl⟩
  ·rw[Sy] at h;exact SeqAt.EqAt.str_int x t j u _ _ _ _ h
  rw[Sx] at h;exact wpAny_eqBool_str h
 «strs»:=fun k x t v h=>by
  rcases cL h with⟨i,u,rfl,e⟩|⟨y,u,rfl,e⟩
  ·exact nomatch e
  injection e with e1 _;subst e1;cases v <;> rfl
theorem yd (prog:Program)(w:World)(i:Int)(t:Tok):(bO prog w).is (.inl i) (.int i t)=true:=Ep i t
theorem yc (prog:Program)(w:World)(x:Str)(t:Tok):(bO prog w).is (.inr x) (.str x t)=true:=Eo x t
inductive V where
 | non|bl (b:Bool)|int (i:Int)|str (x:Str)|byt (b:Array UInt8)|flt (b:UInt64)|ref (a:Addr)|ty (n:String)
 deriving DecidableEq
noncomputable def RelV:V->Value->Prop
 | .non,u=>u=Value.none
 | .bl b,u=>u=Value.bool b
 | .int i,u=>∃t,u=Value.int i t
 | .str x,u=>∃t,u=Value.str x t
 | .byt b,u=>∃t,u=Value.bytes b t
 | .flt b,u=>∃t,u=Value.float b t
 | .ref a,u=>u=Value.ref a
 | .ty n,u=>u=Value.type n
noncomputable abbrev Vals:List V->List Value->Prop:=Paired RelV
theorem Vals.length {xs:List V}{us:List Value}(r:Vals xs us):xs.length=us.length:=Paired.length r
theorem Vals.get:∀{xs:List V}{us:List Value}{i:Nat}{x:V},Vals xs us->xs[i]?=some x->∃u,us[i]?=some u/\RelV x u
 | _,_,_,_,.nil,e=>by simp at e
 | _,_,0,_,.cons r _,e=>by simp at e;subst e;exact⟨_,rfl,r⟩
 | _,_,i+1,x,.cons _ t,e=>by
  obtain⟨u,h1,h2⟩:=Vals.get (i:=i) (x:=x) t (by simpa using e);exact⟨u,by simpa using h1,h2⟩
theorem Vals.set {x:V}{u:Value}(r:RelV x u):∀{xs:List V}{us:List Value}(i:Nat),Vals xs us->Vals (xs.set i x) (us.set i u)
 | _,_,_,.nil=>.nil
 | _,_,0,.cons _ t=>.cons r t
 | _,_,i+1,.cons q t=>.cons q (Vals.set r i t)
theorem Vals.append:∀{xs ys:List V}{us ws:List Value},Vals xs us->Vals ys ws->Vals (xs++ys) (us++ws)
 | _,_,_,_,.nil,s=>s
 | _,_,_,_,.cons r t,s=>.cons r (Vals.append t s)
theorem Vals.take:∀{xs:List V}{us:List Value}(n:Nat),Vals xs us->Vals (xs.take n) (us.take n)
 | _,_,0,_=>.nil
 | _,_,_+1,.nil=>.nil
 | _,_,n+1,.cons r t=>.cons r (Vals.take n t)
theorem Vals.drop:∀{xs:List V}{us:List Value}(n:Nat),Vals xs us->Vals (xs.drop n) (us.drop n)
 | _,_,0,r=>r
 | _,_,_+1,.nil=>.nil
 | _,_,n+1,.cons _ t=>Vals.drop n t
theorem Vals.none_of:∀{xs:List V}{us:List Value}{i:Nat},Vals xs us->xs[i]?=none->us[i]?=none:=fun {xs us i} r e=>by
 have h1:=r.length;have h2:xs.length<=i:=List.getElem?_eq_none_iff.mp e;exact List.getElem?_eq_none_iff.mpr ω
noncomputable def v5:Option V->Option Value->Prop
 | some v,some u=>RelV v u
 | none,none=>True
 | _,_=>False
noncomputable def KV {κ:Type}:List (κ×V)->List (κ×Value)->Prop:=Paired fun(p:κ×V)(q:κ×Value)=>p.1=q.1/\RelV p.2 q.2
noncomputable def kV:Key->V
 | .inl i=>.int i
 | .inr x=>.str x
inductive HO where
 /-- a list -/
 | lst (xs:List V)
 /-- a tuple (never changes) -/
 | tup (xs:List V)
 /-- a dict whose keys are ints and texts;one whose keys are tuples of ints and texts (the empty one is both) -/
 | dK (kvs:List (Key×V))|dT (kvs:List (List Key×V))
 /-- a set of ints: its members,its size -/
 | set (S:Int->Bool) (n:Nat)
 /-- an instance of the class at C,its dict at dx,its attributes -/
 | ins (C dx:Addr) (fs:List (Str×V))
 /-- the dict of the instance at x -/
 | own (x:Addr)
 /-- the dict of an exception -/
 | xd (fs:List (Str×V))
 /-- a bound method,f of x -/
 | met (f x:Addr)
 /-- a range object lo,lo+1,.. below hi -/
 | rng (lo hi:Int)
 /-- a thing that is known to the object (the script;a dict while a loop walks it): read,never written while it is so -/
 | frz (o:Obj) (u:HO)
 /-- a code object's table -/
 | tbl (ps:Array Value)
 /-- any other thing,by what is true of its one object (a def of one's own: SetO a S n:=HO.ext fun h=>..) -/
 | ext (φ:Heap->Prop)
noncomputable abbrev Hp:=Addr->Option HO
noncomputable def upd (H:Hp)(a:Addr)(o:HO):Hp:=fun b=>if b=a then some o else H b
theorem au {H:Hp}{a:Addr}{o:HO}:upd H a o a=some o:=by unfold upd;rw[if_pos rfl]
theorem aG {H:Hp}{a b:Addr}{o:HO}(h:b≠a):upd H a o b=H b:=by unfold upd;rw[if_neg h]
theorem aD {H:Hp}{a b:Addr}{o:HO}(h:H a=some o)(h':H b=none):a≠b:=by
 intro e;subst e;rw[h] at h';cases h'
section
variable (P:Program)(w:World)
noncomputable def bI (H:Hp)(h:Heap)(a:Addr):HO->Prop
 | .lst xs=>xs.length<=sizeLine/\∃(its:List Value)(n:Nat),Vals xs its/\h.get? a=some { cls:=.type "list",data:=.seq its.toArray n }
 | .tup xs=>xs.length<=sizeLine/\∃its:List Value,Vals xs its/\IsTup h a its.toArray
 | .dK kvs=>kvs.length<=sizeLine/\(a == sysModules)=false/\∃vs,KV kvs vs/\h.DictOf (bO P w) a vs
 | .dT kvs=>kvs.length<=sizeLine/\(a == sysModules)=false/\∃xs:List (List Key×Addr×Value),
   Paired (fun(p:List Key×V)(q:List Key×Addr×Value)=>p.1=q.1/\H q.2.1=some (.tup (p.1.map kV))/\RelV p.2 q.2.2) kvs xs /\
   ∃o es ep,h.get? a=some o/\o.ExactDict/\o.data=.dict es ep/\es.toList=xs.map (entryOfKey (tupleKind (bO P w)))/\(xs.map (·.1)).Nodup
 | .set S n=>h.SetOf (intKind P w) a S n
 | .ins C dx fs=>H dx=some (.own a)/\fs.length<=1000/\dx≠a/\h.get? a=some (PySem.W.instObj C dx) /\
   ∃mA,h.Ns1 dx mA/\(∀f,v5 (fs.lookup f) (mA f))/\PySem.Within mA (fs.map (·.1))
 | .own _=>∃o,h.get? a=some o
 | .xd fs=>∃mA,h.Ns1 a mA/\∀f,v5 (fs.lookup f) (mA f)
 | .rng lo hi=>∃t u v,h.get? a=some { cls:=.type "range",data:=.fields #[.int lo t,.int hi u,.int 1 v] }
 | .frz o u=>h.get? a=some o/\bI H h a u
 | .tbl ps=>h.get? a=some { cls:=.none,data:=.fields ps }
 | .met f x=>h.get? a=some (PySem.W.methodObj (.ref f) (.ref x))
 | .ext φ=>φ h/\(∃o,h.get? a=some o)/\∀h1 h2:Heap,φ h1->(∀o,h1.get? a=some o->h2.get? a=some o)->φ h2
noncomputable def HOk (H:Hp)(h:Heap):Prop:=∀a o,H a=some o->bI P w H h a o
end
section
variable {P:Program}{w:World}{H H':Hp}{h h':Heap}{a:Addr}{o:HO}
theorem bI.lt (x:bI P w H h a o):a<h.objs.size:=by
 cases o with
 | lst xs=>obtain⟨_,_,_,_,e⟩:=x;exact lt_size e
 | tup xs=>obtain⟨_,_,_,p⟩:=x;exact p.lt
 | dK kvs=>obtain⟨_,_,_,_,o,_,_,e,_⟩:=x;exact lt_size e
 | dT kvs=>obtain⟨_,_,_,_,o,_,_,e,_⟩:=x;exact lt_size e
 | set S n=>obtain⟨o,_,_,_,e,_⟩:=x;exact lt_size e
 | ins C dx fs=>obtain⟨_,_,_,e,_⟩:=x;exact lt_size e
 | own y=>obtain⟨_,e⟩:=x;exact lt_size e
 | xd fs=>obtain⟨_,⟨_,_,_,e,_⟩,_⟩:=x;exact lt_size e
 | rng lo hi=>obtain⟨_,_,_,e⟩:=x;exact lt_size e
 | frz ob u=>obtain⟨e,_⟩:=x;exact lt_size e
 | tbl ps=>exact lt_size (show h.get? a=some _ from x)
 | met f y=>exact lt_size (show h.get? a=some _ from x)
 | ext φ=>obtain⟨_,⟨_,e⟩,_⟩:=x;exact lt_size e
theorem Paired.U8 {α β:Type}{F G:α->β->Prop}:∀{l₁:List α}{l₂:List β},Paired F l₁ l₂->(∀a b,F a b->G a b)->Paired G l₁ l₂
 | _,_,.nil,_=>.nil
 | _,_,.cons r t,f=>.cons (f _ _ r) (Paired.U8 t f)
theorem bI.stay (x:bI P w H h a o)(k:∀b u,(b=a\/H b=some (.own a))->h.get? b=some u->h'.get? b=some u)
  (ho:∀b,H b=some (.own a)->H' b=some (.own a)) (ht:∀b xs,H b=some (.tup xs)->H' b=some (.tup xs)):bI P w H' h' a o:=by
 induction o with
 | lst xs=>obtain⟨z,its,n,r,e⟩:=x;exact⟨z,its,n,r,k _ _ (.inl rfl) e⟩
 | tup xs=>obtain⟨z,its,r,ob,e,c⟩:=x;exact⟨z,its,r,ob,k _ _ (.inl rfl) e,c⟩
 | dK kvs=>obtain⟨z,y,vs,r,ob,es,ep,e,c⟩:=x;exact⟨z,y,vs,r,ob,es,ep,k _ _ (.inl rfl) e,c⟩
 | dT kvs=>
  obtain⟨z,y,xs,r,ob,es,ep,e,c⟩:=x;exact⟨z,y,xs,Paired.U8 r fun p q z=>⟨z.1,ht _ _ z.2.1,z.2.2⟩,ob,es,ep,k _ _ (.inl rfl) e,c⟩
 | set S n=>obtain⟨ob,es,ep,t,e,c⟩:=x;exact⟨ob,es,ep,t,k _ _ (.inl rfl) e,c⟩
 | ins C dx fs=>
  obtain⟨d,z,ne,e,mA,⟨od,es,ep,e2,c⟩,r⟩:=x;exact⟨ho _ d,z,ne,k _ _ (.inl rfl) e,mA,⟨od,es,ep,k _ _ (.inr d) e2,c⟩,r⟩
 | own y=>obtain⟨ob,e⟩:=x;exact⟨ob,k _ _ (.inl rfl) e⟩
 | xd fs=>obtain⟨mA,⟨od,es,ep,e,c⟩,r⟩:=x;exact⟨mA,⟨od,es,ep,k _ _ (.inl rfl) e,c⟩,r⟩
 | rng lo hi=>obtain⟨t,u,v,e⟩:=x;exact⟨t,u,v,k _ _ (.inl rfl) e⟩
 | frz ob u ih=>obtain⟨e,q⟩:=x;exact⟨k _ _ (.inl rfl) e,ih q⟩
 | tbl ps=>
  have e:h.get? a=some { cls:=.none,data:=.fields ps }:=x;show h'.get? a=some { cls:=.none,data:=.fields ps };exact k a _ (.inl rfl) e
 | met f y=>
  have e:h.get? a=some (PySem.W.methodObj (.ref f) (.ref y)):=x;show h'.get? a=some (PySem.W.methodObj (.ref f) (.ref y));exact k a _ (.inl rfl) e
 | ext φ=>obtain⟨p,⟨o,e⟩,st⟩:=x;exact⟨st _ _ p fun o q=>k _ _ (.inl rfl) q,⟨o,k _ _ (.inl rfl) e⟩,st⟩
theorem HOk.lt (x:HOk P w H h)(e:H a=some o):a<h.objs.size:=(x a o e).lt
theorem HOk.fresh (x:HOk P w H h)(e:h.objs.size<=a):H a=none:=by
 cases q:H a with
 | none=>rfl
 | some u=>exact absurd (lt_of_lt_of_le (x.lt q) e) (lt_irrefl _)
theorem HOk.kept (x:HOk P w H h)(k:∀b u,h.get? b=some u->h'.get? b=some u):HOk P w H h':=fun a o e=>
 (x a o e).stay (fun b u _ q=>k b u q) (fun _ q=>q) fun _ _ q=>q
theorem HOk.laid (x:HOk P w H h)(k:∀b u,h.get? b=some u->h'.get? b=some u)(hp:h.objs.size<=a)(new:bI P w (upd H a o) h' a o):HOk P w (upd H a o) h':=fun b u e=>by
 have hn:=x.fresh hp;by_cases hb:b=a
 ·subst hb;rw[au] at e;cases e;exact new
 rw[aG hb] at e;exact(x b u e).stay (fun c v _ q=>k c v q) (fun c q=>by rw[aG (aD q hn)];exact q) fun c xs q=>by rw[aG (aD q hn)];exact q
end
noncomputable def Rd (H:Hp)(a:Addr)(u:HO):Prop:=H a=some u\/∃o,H a=some (.frz o u)
theorem Rd.ok {P:Program}{w:World}{H:Hp}{h:Heap}{a:Addr}{u:HO}(r:Rd H a u)(x:HOk P w H h):bI P w H h a u:=by
 rcases r with r|⟨o,r⟩
 ·exact x a u r
 obtain⟨_,q⟩:=x a _ r;exact q
noncomputable def Mut:Option HO->Prop
 | some (.lst _)=>True
 | some (.dK _)=>True
 | some (.dT _)=>True
 | some (.set _ _)=>True
 | some (.ins _ _ _)=>True
 | some (.ext _)=>True
 | _=>False
section
variable {P:Program}{w:World}{H:Hp}{h h':Heap}{x e:Addr}{o':HO}
theorem HOk.write (ok:HOk P w H h)(mu:Mut (H x))(he:e=x\/H e=some (.own x))(k:∀b u,b≠e->h.get? b=some u->h'.get? b=some u)(heo:∃u,h'.get? e=some u)
  (new:bI P w (upd H x o') h' x o'):HOk P w (upd H x o') h':=fun b u q=>by
 have nown:∀c y,H c=some (.own y)->c≠x:=fun c y r z=>by subst z;rw[r] at mu;exact mu
 have ntup:∀c xs,H c=some (.tup xs)->c≠x:=fun c xs r z=>by subst z;rw[r] at mu;exact mu
 by_cases hb:b=x
 ·subst hb;rw[au] at q;cases q;exact new
 rw[aG hb] at q;by_cases hbe:b=e
 ·have q':H b=some (.own x):=by
   rcases he with z|z
   ·exact absurd (hbe.trans z) hb
   rw[hbe];exact z
  rw[q] at q';cases q';obtain⟨v,hv⟩:=heo;exact⟨v,by rw[hbe];exact hv⟩
 refine(ok b u q).stay (fun c v hc r=>k c v ?_ r) (fun c r=>by rw[aG (nown c b r)];exact r) fun c xs r=>by rw[aG (ntup c xs r)];exact r
 rcases hc with rfl|hc
 ·exact hbe
 rintro rfl;rcases he with z|z
 ·exact nown c b hc z
 rw[hc] at z;cases z;exact hb rfl
end
structure Un (fs ex:List Addr)(H H':Hp)(h h':Heap):Prop where
 keep:∀b o,h.get? b=some o->H b=none->b∉fs->b∉ex->h'.get? b=some o
 slot:∀b o,h.get? b=some o->H b=none->b∈fs->b∉ex->∃sl,h'.get? b=some { o with slots:=sl }
 free:∀b o,h.get? b=some o->H b=none->b∉ex->H' b=none
 there:∀b o,h.get? b=some o->b∉ex->∃o',h'.get? b=some o'
 tups:∀b xs,H b=some (.tup xs)->H' b=some (.tup xs)
 frzs:∀b o u,H b=some (.frz o u)->H' b=some (.frz o u)
 tbls:∀b ps,H b=some (.tbl ps)->∃more,H' b=some (.tbl (ps++more))
section
variable {fs fs' ex ex':List Addr}{H H1 H2:Hp}{h h1 h2 h':Heap}{a x e:Addr}{o:HO}
theorem Un.any (u:Un fs ex H H1 h h1){b:Addr}{ob:Obj}(q:h.get? b=some ob)(n:H b=none)(hx:b∉ex):∃sl,h1.get? b=some { ob with slots:=sl }:=by
 by_cases hb:b∈fs
 ·exact u.slot b ob q n hb hx
 exact⟨ob.slots,u.keep b ob q n hb hx⟩
theorem Un.kept (k:∀b u,h.get? b=some u->h'.get? b=some u):Un fs ex H H h h':=
 ⟨fun b ob q _ _ _=>k b ob q,fun b ob q _ _ _=>⟨ob.slots,k b ob q⟩,fun _ _ _ n _=>n,fun b ob q _=>⟨ob,k b ob q⟩,fun _ _ q=>q,fun _ _ _ q=>q,fun _ ps q=>⟨#[],by rw[q];simp⟩⟩
theorem Un.refl:Un fs ex H H h h:=Un.kept fun _ _ q=>q
theorem Un.laid (k:∀b u,h.get? b=some u->h'.get? b=some u)(hp:h.objs.size<=a)(hn:H a=none):Un fs ex H (upd H a o) h h' where
 keep:=fun b u q _ _ _=>k b u q
 slot:=fun b u q _ _ _=>⟨u.slots,k b u q⟩
 free:=fun b u q n _=>by rw[aG (ne_of_lt (lt_of_lt_of_le (lt_size q) hp))];exact n
 there:=fun b u q _=>⟨u,k b u q⟩
 tups:=fun b xs q=>by rw[aG (aD q hn)];exact q
 frzs:=fun b u xs q=>by rw[aG (aD q hn)];exact q
 tbls:=fun b ps q=>⟨#[],by rw[aG (aD q hn),q];simp⟩
theorem Un.write (mu:Mut (H x))(he:e=x\/H e=some (.own x))(k:∀b u,b≠e->h.get? b=some u->h'.get? b=some u)(heo:∃u,h'.get? e=some u):Un fs ex H (upd H x o) h h':=by
 have hx:∀b,H b=none->b≠x:=fun b n z=>by subst z;rw[n] at mu;exact mu
 have hb:∀b,H b=none->b≠e:=fun b n z=>by
  subst z;rcases he with r|r
  ·exact hx b n r
  rw[n] at r;cases r
 have hm:∀b u,H b=some u->¬Mut (some u)->b≠x:=fun b u q nm z=>by subst z;rw[q] at mu;exact nm mu
 refine⟨fun b u q n _ _=>k b u (hb b n) q,fun b u q n _ _=>⟨u.slots,k b u (hb b n) q⟩,fun b u q n _=>by rw[aG (hx b n)];exact n,fun b u q _=>?_,
  fun b xs q=>by rw[aG (hm b _ q fun z=>z)];exact q,fun b u xs q=>by rw[aG (hm b _ q fun z=>z)];exact q,fun b ps q=>⟨#[],by rw[aG (hm b _ q fun z=>z),q];simp⟩⟩
 by_cases hbe:b=e
 ·subst hbe;exact heo
 exact⟨u,k b u hbe q⟩
end
noncomputable def trk (h:Heap)(H:Hp):List Addr:=(List.range h.objs.size).filter fun a=>(H a).isSome
noncomputable def rQ (h:Heap)(H:Hp):Heap:=PySem.W.hideAll h (trk h H)
theorem Eu (h:Heap)(H:Hp):(rQ h H).objs.size=h.objs.size:=PySem.W.hideAll_size _ _
theorem JW {h:Heap}{H:Hp}{b:Addr}{o:Obj}(e:h.get? b=some o)(n:H b=none):(rQ h H).get? b=some o:=
 PySem.W.hideAll_get _ e fun hm=>by
  have q:(H b).isSome=true:=(mem_filter.mp hm).2;rw[n] at q;simp at q
theorem Nr {h:Heap}{H:Hp}{b:Addr}{o:Obj}(e:(rQ h H).get? b=some o):h.get? b=some o/\H b=none:=by
 have e':h.get? b=some o:=PySem.W.of_hideAll (trk h H) e;refine⟨e',?_⟩;cases q:H b with
 | none=>rfl
 | some x=>
  have hm:b∈trk h H:=mem_filter.mpr ⟨mem_range.mpr (lt_size e'),by simp [q]⟩;have z:(rQ h H).get? b=none:=PySem.W.hideAll_none (trk h H) hm;rw[z] at e;cases e
structure Mod (K:PySem.W.Frag)(mg:Str->Option Value)(base:Heap):Prop where
 kin:K.In base
 glob:base.Ns mainGlobals mg
 blt:∃mb,base.Ns builtinsNs mb/\∀x:Str,x ≠ "__name__" -> mb x=bootBuiltins x
 nolimit:base.NoLimit
structure Cx where
 prog:Program
 w:World
 K:PySem.W.Frag
 mg:Str->Option Value
 base:Heap
 A:Around
 N:List Str
 s₀:Shared
 H₀:Hp
 env:Env
 outer:List Env
 stack:List Env
 ex:List Addr
 fn:Str->Bool
 calm:Bool
 pn:List (Addr×Obj)
 xe:Value->Shared->Prop
noncomputable def frs (l:List Env):List Addr:=l.filterMap (·.frame)
noncomputable abbrev Cx.fs (X:Cx):List Addr:=frs X.outer
noncomputable def Vis (sc:Scope)(x:Str):Prop:=sc.names.lookup x=some .local\/sc.names.lookup x=some .cell\/sc.names.lookup x=some .free
noncomputable def Loc (sc:Scope)(x:Str):Prop:=sc.names.lookup x=some .local\/sc.names.lookup x=some .cell
noncomputable def Look (env:Env)(h:Heap)(m:Str->Option Value)(x:Str)(u:Value):Prop:=
 (env.kindOf x=some .local/\m x=some u)\/((env.kindOf x=some .cell\/env.kindOf x=some .free)/\∃c,env.cells.lookup x=some c/\h.IsCell c (some u))
structure Cx.Ok (X:Cx):Prop where
 mod:Mod X.K X.mg X.base
 kind:X.env.scope.kind=.function
 glob:X.env.globals=mainGlobals
 blt:X.env.builtins=builtinsNs
 above:X.s₀.heap.objs.size<=X.env.locals
 inj:∀x y c,X.env.cells.lookup x=some c->X.env.cells.lookup y=some c->x=y
 has:∀x,(X.env.kindOf x=some .cell\/X.env.kindOf x=some .free)->∃c,X.env.cells.lookup x=some c
 cab:∀x c,X.fn x=true->X.env.cells.lookup x=some c->X.s₀.heap.objs.size<=c
 hd:X.calm=true->X.A.handled=none
 frames:X.A.frames=some X.stack
 stk:X.stack=X.outer\/(X.stack=X.env::X.outer/\X.env.frame=some X.env.locals)
 exf:∀b∈X.ex,b≠X.env.locals/\∀x c,X.env.cells.lookup x=some c->c≠b
 bs:∀b o,X.base.get? b=some o->X.s₀.heap.get? b=some o/\X.H₀ b=none
 bsz:X.base.objs.size<=X.s₀.heap.objs.size
 noex:∀b o,X.base.get? b=some o->b∉X.ex
 exfs:∀b∈X.ex,b∉X.fs
 nU:X.s₀.heap.FunFrames X.base X.outer
 frf:∀b∈X.fs,X.H₀ b=none
structure Inv (X:Cx)(pins:List (Addr×Obj))(σ:List (Option V))(H:Hp)(s:Shared):Prop where
 ok:X.Ok
 os:s.os=X.s₀.os
 bare:AllBare s.gens
 base:Un X.fs X.ex X.H₀ H X.s₀.heap s.heap
 loc:∃m,s.heap.Ns X.env.locals m/\∀(i:Nat)(x:Str)(v:V),X.N[i]?=some x->σ[i]?=some (some v)->Vis X.env.scope x->∃u,RelV v u/\Look X.env s.heap m x u
 cell:∀x c,X.env.cells.lookup x=some c->∃v,s.heap.IsCell c v
 free:H X.env.locals=none
 freeC:∀x c,X.env.cells.lookup x=some c->H c=none
 pin:∀p∈X.pn++pins,s.heap.get? p.1=some p.2/\H p.1=none/\p.1≠X.env.locals/\p.1∉X.fs/\∀v,p.2.data≠.cell v
 hok:HOk X.prog X.w H s.heap
 len:σ.length=X.N.length
section
variable {X:Cx}{pins:List (Addr×Obj)}{σ:List (Option V)}{H H':Hp}{s:Shared}{h':Heap}
theorem Cx.Ok.Vu (ok:X.Ok){b:Addr}{o:Obj}(e:X.base.get? b=some o):b∉X.fs:=fun hb=>by
 have:=(ok.nU.mem hb).1;rw[e] at this;cases this
theorem Inv.bs (I:Inv X pins σ H s):∀b o,X.base.get? b=some o->s.heap.get? b=some o/\H b=none:=fun b o e=>
 ⟨I.base.keep b o (I.ok.bs b o e).1 (I.ok.bs b o e).2 (I.ok.Vu e) (I.ok.noex b o e),I.base.free b o (I.ok.bs b o e).1 (I.ok.bs b o e).2 (I.ok.noex b o e)⟩
theorem Inv.bk (I:Inv X pins σ H s):∀b o,X.base.get? b=some o->s.heap.get? b=some o:=fun b o e=>(I.bs b o e).1
theorem Inv.mod (I:Inv X pins σ H s):Mod X.K X.mg X.base:=I.ok.mod
theorem Inv.kIn (I:Inv X pins σ H s):X.K.In s.heap:=I.ok.mod.kin.keeps I.bk
theorem Inv.lt (I:Inv X pins σ H s):X.env.locals<s.heap.objs.size:=let ⟨_,hn,_⟩:=I.loc;hn.lt
theorem Inv.sz (I:Inv X pins σ H s):X.s₀.heap.objs.size<=s.heap.objs.size:=le_trans I.ok.above (le_of_lt I.lt)
theorem Inv.Nv (I:Inv X pins σ H s){a:Addr}(h:s.heap.objs.size<=a):a∉X.fs:=fun hb=>by
 obtain⟨_,o,ho,_⟩:=I.ok.nU.mem hb;exact absurd (lt_of_lt_of_le (lt_size ho) (le_trans I.sz h)) (lt_irrefl _)
theorem Inv.cne (I:Inv X pins σ H s):∀x c,X.env.cells.lookup x=some c->c≠X.env.locals:=fun x c e z=>by
 obtain⟨v,o,ho,hd⟩:=I.cell x c e;obtain⟨m,⟨o',es,ep,ho',hd',_⟩,_⟩:=I.loc;rw[z,ho'] at ho;cases ho;rw[hd'] at hd;cases hd
theorem Inv.nU (I:Inv X pins σ H s):s.heap.FunFrames X.base X.outer:=by
 have all:∀(l:List Env),(∀b∈frs l,b∈X.fs)->X.s₀.heap.FunFrames X.base l->s.heap.FunFrames X.base l:=by
  intro l
  induction l with
  | nil=>intro _ _;trivial
  | cons env r ih=>
   intro hs hl;obtain⟨hk,⟨L,o,hf,hn,ho,hd⟩,hr⟩:=hl;have hL:L∈X.fs:=hs L (by unfold frs;rw[filterMap_cons,hf];exact mem_cons_self);obtain⟨sl,e⟩:=I.base.slot L o ho (I.ok.frf L hL) hL fun z=>I.ok.exfs L z hL;exact⟨hk,⟨L,_,hf,hn,e,hd⟩,ih (fun b hb=>hs b (by unfold frs;rw[filterMap_cons,hf];exact mem_cons_of_mem _ hb)) hr⟩
 exact all X.outer (fun _ hb=>hb) I.ok.nU
theorem Inv.stack (I:Inv X pins σ H s):s.heap.FunFrames X.base X.stack:=by
 rcases I.ok.stk with e|⟨e,hf⟩
 ·rw[e];exact I.nU
 rw[e];obtain⟨m,hn,_⟩:=I.loc;refine .cons (by rw[I.ok.kind];decide) hf hn ?_ I.nU;exact Heap.get?_none_of_le (le_trans I.ok.bsz I.ok.above)
theorem Inv.lg (I:Inv X pins σ H s):∀b∈frs X.stack,b∈X.env.locals::X.fs:=fun b hb=>by
 rcases I.ok.stk with e|⟨e,hf⟩
 ·rw[e] at hb;exact mem_cons_of_mem _ hb
 rw[e] at hb;unfold frs at hb;rw[filterMap_cons,hf] at hb;exact hb
theorem Inv.Bv (I:Inv X pins σ H s):∀b∈frs X.stack,H b=none:=fun b hb=>by
 rcases mem_cons.mp (I.lg b hb) with e|hb
 ·rw[e];exact I.free
 obtain⟨_,o,ho,_⟩:=I.ok.nU.mem hb;exact I.base.free b o ho (I.ok.frf b hb) fun z=>I.ok.exfs b z hb
theorem Inv.step {g':Array GenState}{t':Nat}{d':Drawn}{ch:List Addr}(I:Inv X pins σ H s)
  (hch:∀b∈ch,(b∈X.ex\/X.s₀.heap.objs.size<=b)/\b≠X.env.locals/\(∀x c,X.env.cells.lookup x=some c->c≠b)/\∀p∈X.pn++pins,p.1≠b)
  (keep:∀b o,b≠X.env.locals->b∉X.fs->b∉ch->s.heap.get? b=some o->H b=none->h'.get? b=some o)
  (slot:∀b o,b≠X.env.locals->b∈X.fs->b∉ch->s.heap.get? b=some o->H b=none->∃sl,h'.get? b=some { o with slots:=sl }) (free:∀b o,b∉ch->s.heap.get? b=some o->H b=none->H' b=none)
  (there:∀b o,b∉ch->s.heap.get? b=some o->∃o',h'.get? b=some o')
  (tups:∀b xs,H b=some (.tup xs)->H' b=some (.tup xs)) (frzs:∀b o u,H b=some (.frz o u)->H' b=some (.frz o u)) (tbls:∀b ps,H b=some (.tbl ps)->∃more,H' b=some (.tbl (ps++more)))
  (ns:∀m,s.heap.Ns X.env.locals m->h'.Ns X.env.locals m) (hok:HOk X.prog X.w H' h') (hg:AllBare g') :
  Inv X pins σ H' { s with heap:=h',gens:=g',drawn:=d',toks:=t' }:=by
 have neL:∀b o,X.s₀.heap.get? b=some o->b≠X.env.locals:=fun b o e=>ne_of_lt (lt_of_lt_of_le (lt_size e) I.ok.above);have neC:∀b o,X.s₀.heap.get? b=some o->b∉X.ex->b∉ch:=fun b o e hx hb=>by
  rcases(hch b hb).1 with z|z
  ·exact hx z
  exact absurd (lt_of_lt_of_le (lt_size e) z) (lt_irrefl _)
 have cellK:∀x c,X.env.cells.lookup x=some c->∀v,s.heap.IsCell c v->h'.IsCell c v:=fun x c e v ⟨o,ho,hd⟩=>by
  have nch:c∉ch:=fun z=>(hch c z).2.2.1 x c e rfl;by_cases hc:c∈X.fs
  ·obtain⟨sl,q⟩:=slot c o (I.cne x c e) hc nch ho (I.freeC x c e);exact⟨_,q,hd⟩
  exact⟨o,keep c o (I.cne x c e) hc nch ho (I.freeC x c e),hd⟩
 refine⟨I.ok,I.os,hg,⟨fun b o e n hb hx=>?_,fun b o e n hb hx=>?_,fun b o e n hx=>?_,fun b o e hx=>?_,fun b xs e=>tups b xs (I.base.tups b xs e),fun b o xs e=>frzs b o xs (I.base.frzs b o xs e),fun b ps e=>?_⟩,?_,fun x c e=>?_,?_,fun x c e=>?_,fun p hp=>?_,hok,I.len⟩
 ·exact keep b o (neL b o e) hb (neC b o e hx) (I.base.keep b o e n hb hx) (I.base.free b o e n hx)
 ·obtain⟨sl,e1⟩:=I.base.slot b o e n hb hx;obtain⟨sl',e2⟩:=slot b _ (neL b o e) hb (neC b o e hx) e1 (I.base.free b o e n hx);exact⟨sl',e2⟩
 ·obtain⟨o',e1⟩:=I.base.there b o e hx;exact free b o' (neC b o e hx) e1 (I.base.free b o e n hx)
 ·obtain⟨o',e1⟩:=I.base.there b o e hx;exact there b o' (neC b o e hx) e1
 ·obtain⟨m1,e1⟩:=I.base.tbls b ps e;obtain⟨m2,e2⟩:=tbls b _ e1;exact⟨m1++m2,by rw[e2,Array.append_assoc]⟩
 ·obtain⟨m,hn,hl⟩:=I.loc;refine⟨m,ns m hn,fun i x v e1 e2 e3=>?_⟩;obtain⟨u,r,l⟩:=hl i x v e1 e2 e3;refine⟨u,r,?_⟩;rcases l with l|⟨k,c,e,z⟩
  ·exact .inl l
  exact .inr ⟨k,c,e,cellK x c e _ z⟩
 ·obtain⟨v,z⟩:=I.cell x c e;exact⟨v,cellK x c e v z⟩
 ·obtain⟨m,⟨o,_,_,ho,_⟩,_⟩:=I.loc;exact free _ o (fun z=>(hch _ z).2.1 rfl) ho I.free
 ·obtain⟨v,o,ho,hd⟩:=I.cell x c e;exact free c o (fun z=>(hch c z).2.2.1 x c e rfl) ho (I.freeC x c e)
 obtain⟨e,n,ne,nf,d⟩:=I.pin p hp;have nch:p.1∉ch:=fun z=>(hch p.1 z).2.2.2 p hp rfl;exact⟨keep p.1 p.2 ne nf nch e n,free p.1 p.2 nch e n,ne,nf,d⟩
theorem Inv.un {t':Nat}(I:Inv X pins σ H s)(u:Un X.fs [] H H' s.heap h')(hok:HOk X.prog X.w H' h'):Inv X pins σ H' { s with heap:=h',toks:=t' }:=by
 obtain⟨m,⟨o,es,ep,ho,r⟩,_⟩:=id I.loc;obtain⟨sl,hL⟩:=u.any ho I.free (by simp);exact I.step (g':=s.gens) (d':=s.drawn) (ch:=[]) (fun _ z=>nomatch z) (fun b o _ hb _ e n=>u.keep b o e n hb (by simp)) (fun b o _ hb _ e n=>u.slot b o e n hb (by simp)) (fun b o _ e n=>u.free b o e n (by simp)) (fun b o _ e=>u.there b o e (by simp)) u.tups u.frzs u.tbls (fun m' hm=>by
  obtain⟨o',es',ep',ho',r'⟩:=hm;rw[ho] at ho';cases ho';exact⟨_,es',ep',hL,r'⟩) hok I.bare
theorem Inv.call {g':Array GenState}{t':Nat}{d':Drawn}{ch:List Addr}(I:Inv X pins σ H s)(u:Un (frs X.stack) ch H H' s.heap h')(hok:HOk X.prog X.w H' h')(hg:AllBare g')
  (hch:∀b∈ch,(b∈X.ex\/X.s₀.heap.objs.size<=b)/\b≠X.env.locals/\(∀x c,X.env.cells.lookup x=some c->c≠b)/\∀p∈X.pn++pins,p.1≠b) :
  Inv X pins σ H' { s with heap:=h',gens:=g',drawn:=d',toks:=t' }:=by
 obtain⟨m,⟨o,es,ep,ho,r⟩,_⟩:=id I.loc;obtain⟨sl,hL⟩:=u.any ho I.free fun z=>(hch _ z).2.1 rfl;exact I.step (ch:=ch) hch (fun b o hL hb hc e n=>u.keep b o e n (fun z=>(mem_cons.mp (I.lg b z)).elim hL hb) hc) (fun b o _ _ hc e n=>u.any e n hc) (fun b o hc e n=>u.free b o e n hc) (fun b o hc e=>u.there b o e hc) u.tups u.frzs u.tbls (fun m' hm=>by
  obtain⟨o',es',ep',ho',r'⟩:=hm;rw[ho] at ho';cases ho';exact⟨_,es',ep',hL,r'⟩) hok hg
theorem Inv.turned {t':Nat}{it:Addr}(I:Inv X pins σ H s)(k:∀b o,b≠it->s.heap.get? b=some o->h'.get? b=some o)(hn:H it=none)(hL:it≠X.env.locals)
  (h1:it∈X.ex\/X.s₀.heap.objs.size<=it) (h2:∀x c,X.env.cells.lookup x=some c->c≠it) (h3:∀p∈X.pn++pins,p.1≠it):Inv X pins σ H { s with heap:=h',toks:=t' }:=by
 have nit:∀b u,H b=some u->b≠it:=fun b u e z=>by rw[z,hn] at e;cases e
 refine I.step (g':=s.gens) (d':=s.drawn) (ch:=[it]) (fun b hb=>?_) (fun b o _ _ hc e _=>k b o (fun z=>hc (by simp [z])) e) (fun b o _ _ hc e _=>⟨o.slots,k b o (fun z=>hc (by simp [z])) e⟩) (fun _ _ _ _ n=>n)
  (fun b o hc e=>⟨o,k b o (fun z=>hc (by simp [z])) e⟩) (fun _ _ e=>e) (fun _ _ _ e=>e) (fun b ps e=>⟨#[],by rw[e];simp⟩) (fun m hm=>?_) (fun b u e=>?_) I.bare
 ·have e:b=it:=by simpa using hb
  subst e;exact⟨h1,hL,h2,h3⟩
 ·obtain⟨o,es,ep,ho,r⟩:=hm;exact⟨o,es,ep,k _ o (Ne.symm hL) ho,r⟩
 refine(I.hok b u e).stay (fun c v hc q=>k c v ?_ q) (fun _ q=>q) fun _ _ q=>q;rcases hc with z|z
 ·rw[z];exact nit b u e
 exact nit c _ z
theorem Inv.tok (I:Inv X pins σ H s)(t:Nat):Inv X pins σ H { s with toks:=t }:=I.un (h':=s.heap) (t':=t) Un.refl I.hok
theorem Inv.kept {t':Nat}(I:Inv X pins σ H s)(k:∀b u,s.heap.get? b=some u->h'.get? b=some u):Inv X pins σ H { s with heap:=h',toks:=t' }:=I.un (Un.kept k) (I.hok.kept k)
theorem Inv.laid {a:Addr}{o:HO}{t':Nat}(I:Inv X pins σ H s)(k:∀b u,s.heap.get? b=some u->h'.get? b=some u)(hp:s.heap.objs.size<=a)(new:bI X.prog X.w (upd H a o) h' a o) :
  Inv X pins σ (upd H a o) { s with heap:=h',toks:=t' }:=I.un (Un.laid k hp (I.hok.fresh hp)) (I.hok.laid k hp new)
theorem Inv.write {x e:Addr}{o:HO}{t':Nat}(I:Inv X pins σ H s)(mu:Mut (H x))(he:e=x\/H e=some (.own x))(k:∀b u,b≠e->s.heap.get? b=some u->h'.get? b=some u)(heo:∃u,h'.get? e=some u)
  (new:bI X.prog X.w (upd H x o) h' x o):Inv X pins σ (upd H x o) { s with heap:=h',toks:=t' }:=I.un (Un.write mu he k heo) (I.hok.write mu he k heo new)
theorem Inv.gW {pins':List (Addr×Obj)}(I:Inv X pins σ H s)(h:∀p∈pins',s.heap.get? p.1=some p.2/\H p.1=none/\p.1≠X.env.locals/\p.1∉X.fs/\∀v,p.2.data≠.cell v):Inv X pins' σ H s:=
 ⟨I.ok,I.os,I.bare,I.base,I.loc,I.cell,I.free,I.freeC,fun p hp=>(mem_append.mp hp).elim (fun z=>I.pin p (List.mem_append_left _ z)) (h p),I.hok,I.len⟩
theorem xH {N:List Str}(hN:N.Nodup){i j:Nat}{x:Str}(a:N[i]?=some x)(b:N[j]?=some x):i=j:=by
 obtain⟨h1,e1⟩:=List.getElem?_eq_some_iff.mp a;obtain⟨h2,e2⟩:=List.getElem?_eq_some_iff.mp b;exact(List.getElem_inj hN).mp (e1.trans e2.symm)
theorem sV {M:Model}{A:Around}{E:Value->Shared->Prop}{i:Nat}{x:Str}{v:V}{u:Value}{Q:Unit->Shared->Prop}(I:Inv X pins σ H s)(hN:X.N.Nodup)(hi:X.N[i]?=some x)(hx:Loc X.env.scope x)(r:RelV v u)
  (h:∀s',Inv X pins (σ.set i (some v)) H s'->(∃a,Heap.SameBut a s.heap s'.heap/\(a=X.env.locals\/X.env.cells.lookup x=some a))->Q () s') (hf:X.fn x=true\/X.env.scope.names.lookup x=some .local:=by first|exact .inl rfl|exact .inr rfl|assumption):wpAny M A (storeName X.env x u) Q E s:=by
 obtain⟨m,hn,hl⟩:=id I.loc;have hcls:(X.env.scope.kind == .class||(X.env.scope.kind == .module&&X.env.locals != X.env.globals))=false:=by rw[I.ok.kind];rfl
 have hiσ:i<σ.length:=by rw[I.len];exact(List.getElem?_eq_some_iff.mp hi).1
 have cne:=I.cne;have tracked:∀{a:Addr}{h':Heap},(∃o,s.heap.get? a=some o/\H a=none)->Heap.SameBut a s.heap h'->HOk X.prog X.w H h':=fun {a h'} ha hs b ob e=>by
  obtain⟨_,_,hfree⟩:=ha;refine(I.hok b ob e).stay (fun c w' hc q=>(hs.2 c ?_).trans q) (fun _ q=>q) fun _ _ q=>q;rintro rfl;rcases hc with rfl|hc
  ·rw[hfree] at e;cases e
  rw[hfree] at hc;cases hc
 rcases hx with hk|hk
 ·refine wpAny_storeName_local hk hn (fun h' hn' hs=>?_) hcls;obtain⟨oL,_,_,hoL,_⟩:=id hn;refine h _ ⟨I.ok,I.os,I.bare,⟨fun b o e n hb hx=>?_,fun b o e n hb hx=>?_,I.base.free,fun b o e hx=>?_,I.base.tups,I.base.frzs,I.base.tbls⟩,⟨_,hn',fun j y v' e1 e2 e3=>?_⟩,fun y c e=>?_,I.free,I.freeC,fun p hp=>?_,tracked ⟨oL,hoL,I.free⟩ hs,by simpa using I.len⟩ ⟨_,hs,.inl rfl⟩
  ·exact(hs.2 b (ne_of_lt (lt_of_lt_of_le (lt_size e) I.ok.above))).trans (I.base.keep b o e n hb hx)
  ·obtain⟨sl,e1⟩:=I.base.slot b o e n hb hx;exact⟨sl,(hs.2 b (ne_of_lt (lt_of_lt_of_le (lt_size e) I.ok.above))).trans e1⟩
  ·obtain⟨o',e1⟩:=I.base.there b o e hx;exact⟨o',(hs.2 b (ne_of_lt (lt_of_lt_of_le (lt_size e) I.ok.above))).trans e1⟩
  ·by_cases hj:j=i
   ·subst hj;rw[hi] at e1;cases e1;rw[List.getElem?_set_self hiσ] at e2;cases e2;exact⟨u,r,.inl ⟨hk,by simp⟩⟩
   rw[List.getElem?_set_ne (Ne.symm hj)] at e2;obtain⟨u',r',q⟩:=hl j y v' e1 e2 e3;refine⟨u',r',?_⟩;rcases q with⟨k,e⟩|⟨k,c,e,z⟩
   ·refine .inl ⟨k,?_⟩;have:y≠x:=fun e=>hj (xH hN e1 (e ▸ hi));simp [this,e]
   exact .inr ⟨k,c,e,z.sameBut hs (cne y c e)⟩
  ·obtain⟨w',z⟩:=I.cell y c e;exact⟨w',z.sameBut hs (cne y c e)⟩
  obtain⟨e,n,ne,nf,d⟩:=I.pin p hp;exact⟨(hs.2 p.1 ne).trans e,n,ne,nf,d⟩
 have hfn:X.fn x=true:=by
  rcases hf with z|z
  ·exact z
  rw[z] at hk;cases hk
 obtain⟨c,hc⟩:=I.ok.has x (.inl hk);obtain⟨w',z⟩:=I.cell x c hc;refine wpAny_storeName_cell I.ok.kind hk hc z (fun h' hc' hs=>?_);obtain⟨oc,hoc,hocd⟩:=id z;refine h { s with heap:=h' } ⟨I.ok,I.os,I.bare,⟨fun b o e n hb hx=>?_,fun b o e n hb hx=>?_,I.base.free,fun b o e hx=>?_,I.base.tups,I.base.frzs,I.base.tbls⟩,⟨m,hn.sameBut hs (Ne.symm (cne x c hc)),fun j y v' e1 e2 e3=>?_⟩,fun y c' e=>?_,I.free,I.freeC,fun p hp=>?_,tracked ⟨oc,hoc,I.freeC x c hc⟩ hs,by simpa using I.len⟩ ⟨c,hs,.inr hc⟩
 ·exact(hs.2 b (ne_of_lt (lt_of_lt_of_le (lt_size e) (I.ok.cab x c hfn hc)))).trans (I.base.keep b o e n hb hx)
 ·obtain⟨sl,e1⟩:=I.base.slot b o e n hb hx;exact⟨sl,(hs.2 b (ne_of_lt (lt_of_lt_of_le (lt_size e) (I.ok.cab x c hfn hc)))).trans e1⟩
 ·obtain⟨o',e1⟩:=I.base.there b o e hx;exact⟨o',(hs.2 b (ne_of_lt (lt_of_lt_of_le (lt_size e) (I.ok.cab x c hfn hc)))).trans e1⟩
 ·by_cases hj:j=i
  ·subst hj;rw[hi] at e1;cases e1;rw[List.getElem?_set_self hiσ] at e2;cases e2;exact⟨u,r,.inr ⟨.inl hk,c,hc,hc'⟩⟩
  rw[List.getElem?_set_ne (Ne.symm hj)] at e2;obtain⟨u',r',q⟩:=hl j y v' e1 e2 e3;refine⟨u',r',?_⟩;rcases q with q|⟨k,c',e,z'⟩
  ·exact .inl q
  refine .inr ⟨k,c',e,z'.sameBut hs ?_⟩;rintro rfl;exact hj (xH hN e1 (I.ok.inj _ _ _ e hc ▸ hi))
 ·by_cases hcc:c'=c
  ·subst hcc;exact⟨_,hc'⟩
  obtain⟨w2,z2⟩:=I.cell y c' e;exact⟨w2,z2.sameBut hs hcc⟩
 obtain⟨e,n,ne,nf,d⟩:=I.pin p hp;refine⟨(hs.2 p.1 ?_).trans e,n,ne,nf,d⟩;intro q;rw[q,hoc] at e;have q':oc=p.2:=Option.some.inj e;exact d w' (by rw[<- q'];exact hocd)
theorem jm {M:Model}{A:Around}{E:Value->Shared->Prop}{i:Nat}{x:Str}{v:V}{u:Value}{Q:Unit->Shared->Prop}(I:Inv X pins σ H s)(hN:X.N.Nodup)(hi:X.N[i]?=some x)(hx:Loc X.env.scope x)(r:RelV v u)
  (h:∀s',Inv X pins (σ.set i (some v)) H s'->Q () s') (hf:X.fn x=true\/X.env.scope.names.lookup x=some .local:=by first|exact .inl rfl|exact .inr rfl|assumption):wpAny M A (storeName X.env x u) Q E s:=
 sV I hN hi hx r (fun s' I' _=>h s' I') hf
theorem Inv.call' {s':Shared}{ch:List Addr}(I:Inv X pins σ H s)(ho:s'.os=s.os)(u:Un (frs X.stack) ch H H' s.heap s'.heap)(hok:HOk X.prog X.w H' s'.heap)(hg:AllBare s'.gens)
  (hch:∀b∈ch,(b∈X.ex\/X.s₀.heap.objs.size<=b)/\b≠X.env.locals/\(∀x c,X.env.cells.lookup x=some c->c≠b)/\∀p∈X.pn++pins,p.1≠b):Inv X pins σ H' s':=by
 obtain⟨h',g',d',t',o'⟩:=s';have e:o'=s.os:=ho;subst e;exact I.call (g':=g') (t':=t') (d':=d') u hok hg hch
end
noncomputable abbrev XK:=Value->Option Addr->Hp->Prop
noncomputable abbrev St:=List (Option V)
noncomputable abbrev VK:=V->Hp->Prop
noncomputable abbrev TE:=St->Hp->VK->Prop
noncomputable abbrev TT:=St->Hp->(Bool->Hp->Prop)->Prop
noncomputable abbrev TA:=St->Hp->(List V->Hp->Prop)->Prop
structure Ends where
 nx:St->Hp->Prop
 rt:VK
 bk:St->Hp->Prop:=fun _ _=>False
 ct:St->Hp->Prop:=fun _ _=>False
noncomputable abbrev TS:=Ends->St->Hp->Prop
noncomputable def EP (X:Cx)(pins:List (Addr×Obj))(σ:St)(Q:VK)(u:Value)(s':Shared):Prop:=∃v H',Inv X pins σ H' s'/\RelV v u/\Q v H'
noncomputable def TP (X:Cx)(pins:List (Addr×Obj))(σ:St)(Q:Bool->Hp->Prop)(b:Bool)(s':Shared):Prop:=∃H',Inv X pins σ H' s'/\Q b H'
noncomputable def AP (X:Cx)(pins:List (Addr×Obj))(σ:St)(Q:List V->Hp->Prop)(us:List Value)(s':Shared):Prop:=∃vs H',Inv X pins σ H' s'/\Vals vs us/\Q vs H'
noncomputable def SP (X:Cx)(pins:List (Addr×Obj))(D:Ends)(f:Flow)(s':Shared):Prop:=
 match f with
 | .next=>∃σ' H',Inv X pins σ' H' s'/\D.nx σ' H'
 | .brk=>∃σ' H',Inv X pins σ' H' s'/\D.bk σ' H'
 | .cont=>∃σ' H',Inv X pins σ' H' s'/\D.ct σ' H'
 | .ret u=>∃v σ' H',Inv X pins σ' H' s'/\RelV v u/\D.rt v H'
noncomputable def PE (X:Cx)(e:Expr)(t:TE):Prop:=
 ∀(pins:List (Addr×Obj)) (s:Shared) (σ:St) (H:Hp) (Q:VK),Inv X pins σ H s->t σ H Q->wpAny (model X.prog X.w) X.A (eval e X.env) (EP X pins σ Q) X.xe s
noncomputable def PT (X:Cx)(e:Expr)(t:TT):Prop:=
 ∀(pins:List (Addr×Obj)) (s:Shared) (σ:St) (H:Hp) (Q:Bool->Hp->Prop),Inv X pins σ H s->t σ H Q->wpAny (model X.prog X.w) X.A (isTrue e X.env (eval e X.env)) (TP X pins σ Q) X.xe s
noncomputable def PW (X:Cx)(e:Expr)(t:TT):Prop:=
 ∀(whole:Sem Value)(pins:List (Addr×Obj)) (s:Shared) (σ:St) (H:Hp) (Q:Bool->Hp->Prop),Inv X pins σ H s->t σ H Q->wpAny (model X.prog X.w) X.A (isTrue e X.env whole) (TP X pins σ Q) X.xe s
theorem PW.pt {X:Cx}{e:Expr}{t:TT}(h:PW X e t):PT X e t:=h _
noncomputable def PA (X:Cx)(es:List Expr)(t:TA):Prop:=
 ∀(pos:Pos)(pins:List (Addr×Obj)) (s:Shared) (σ:St) (H:Hp) (Q:List V->Hp->Prop),Inv X pins σ H s->t σ H Q->wpAny (model X.prog X.w) X.A (spliced (backTo pos (starEach es X.env))) (AP X pins σ Q) X.xe s
noncomputable def PS (X:Cx)(st:Stmt)(t:TS):Prop:=
 ∀(pins:List (Addr×Obj)) (s:Shared) (σ:St) (H:Hp) (D:Ends),Inv X pins σ H s->t D σ H->wpAny (model X.prog X.w) X.A (exec st X.env) (SP X pins D) X.xe s
noncomputable def PSs (X:Cx)(st:List Stmt)(t:TS):Prop:=
 ∀(pins:List (Addr×Obj)) (s:Shared) (σ:St) (H:Hp) (D:Ends),Inv X pins σ H s->t D σ H->wpAny (model X.prog X.w) X.A (execs st X.env) (SP X pins D) X.xe s
theorem thn {α:Type}{t:Sem α}{Q Q':α->Shared->Prop}{M:Model}{A:Around}{E:Value->Shared->Prop}{s:Shared}(h:wpAny M A t Q E s)(hQ:∀a s,Q a s->Q' a s):wpAny M A t Q' E s:=wpAny_mono h hQ fun _ _ x=>x
theorem thE {t:Sem Value}{X:Cx}{pins:List (Addr×Obj)}{σ:St}{Q:VK}{Q':Value->Shared->Prop}{M:Model}{A:Around}{E:Value->Shared->Prop}{s:Shared}(h:wpAny M A t (EP X pins σ Q) E s)(hQ:∀u s x H,Inv X pins σ H s->RelV x u->Q x H->Q' u s):wpAny M A t Q' E s:=thn h fun u s z=>by
 obtain⟨x,H,I,r,q⟩:=z;exact hQ u s x H I r q
theorem thA {t:Sem (List Value)}{X:Cx}{pins:List (Addr×Obj)}{σ:St}{Q:List V->Hp->Prop}{Q':List Value->Shared->Prop}{M:Model}{A:Around}{E:Value->Shared->Prop}{s:Shared}(h:wpAny M A t (AP X pins σ Q) E s)(hQ:∀u s x H,Inv X pins σ H s->Vals x u->Q x H->Q' u s):wpAny M A t Q' E s:=thn h fun u s z=>by
 obtain⟨x,H,I,r,q⟩:=z;exact hQ u s x H I r q
theorem thT {t:Sem Bool}{X:Cx}{pins:List (Addr×Obj)}{σ:St}{Q:Bool->Hp->Prop}{Q':Bool->Shared->Prop}{M:Model}{A:Around}{E:Value->Shared->Prop}{s:Shared}(h:wpAny M A t (TP X pins σ Q) E s)(hQ:∀u s H,Inv X pins σ H s->Q u H->Q' u s):wpAny M A t Q' E s:=thn h fun u s z=>by
 obtain⟨H,I,q⟩:=z;exact hQ u s H I q
section
variable {X:Cx}
noncomputable def Gm (i:Nat):TE:=fun σ H Q=>∃v,σ[i]?=some (some v)/\Q v H
noncomputable def tC (v:V):TE:=fun _ H Q=>Q v H
theorem Ir {i:Nat}{x:Str}{pos:Pos}(hN:X.N[i]?=some x) (hv:Vis X.env.scope x) (hd:(x == ("__debug__" : Str))=false:=by decide) (hcd:(x == ("__classdict__" : Str))=false:=by decide):PE X (.Name x pos) (Gm i):=by
 intro pins s σ H Q I h;obtain⟨v,e,h⟩:=h;obtain⟨m,hn,hl⟩:=I.loc;obtain⟨u,r,l⟩:=hl i x v hN e hv;have fin:EP X pins σ Q u s:=⟨v,H,I,r,h⟩;rcases l with⟨hk,hm⟩|⟨hk,c,hc,hcell⟩
 ·exact wpAny_Name (wpAny_loadName_local I.ok.kind hk hn hm fin) hd
 rcases hk with hk|hk
 ·exact wpAny_Name (wpAny_loadName_cell I.ok.kind hk hc hcell fin) hd
 exact wpAny_Name (wpAny_loadName_free I.ok.kind hk hc hcell fin hcd) hd
theorem zB {i j pos}:PE X (.Constant (.int i) j pos) (tC (.int i)):=fun _ _ _ H _ I h=>wpAny_Constant_int ⟨.int i,H,I.tok _,⟨_,rfl⟩,h⟩
theorem UW {b j pos}:PE X (.Constant (.bool b) j pos) (tC (.bl b)):=fun _ _ _ H _ I h=>Constant_bool ⟨.bl b,H,I,rfl,h⟩
theorem Ry {j pos}:PE X (.Constant .none j pos) (tC .non):=fun _ _ _ H _ I h=>Constant_none ⟨.non,H,I,rfl,h⟩
theorem Rt {x j pos}:PE X (.Constant (.str x) j pos) (tC (.str x)):=fun _ _ _ H _ I h=>Calls.Constant_str ⟨.str x,H,I.tok _,⟨_,rfl⟩,h⟩
noncomputable def Gl (X:Cx)(x:Str):Prop:=X.env.kindOf x=some .globalImplicit
theorem Cv {E:Value->Shared->Prop}{pins:List (Addr×Obj)}{s:Shared}{σ:St}{H:Hp}{x:Str}{u:Value}{pos:Pos}{Q:Value->Shared->Prop}(I:Inv X pins σ H s)(hg:Gl X x)(hm:X.mg x=some u)(h:Q u s)
  (hd:(x == ("__debug__" : Str))=false:=by decide):wpAny (model X.prog X.w) X.A (eval (.Name x pos) X.env) Q E s:=
 Calls.Name_function_global I.ok.kind hg (Calls.loadGlobal_global (by rw[I.ok.glob];exact I.mod.glob.keeps I.bk) hm h) hd
theorem eU {E:Value->Shared->Prop}{pins:List (Addr×Obj)}{s:Shared}{σ:St}{H:Hp}{x:Str}{u:Value}{pos:Pos}{Q:Value->Shared->Prop}(I:Inv X pins σ H s)(hg:Gl X x)(hm:X.mg x=none)(hv:bootBuiltins x=some u)(h:Q u s)
  (hn:x ≠ "__name__" := by decide) (hd:(x == ("__debug__" : Str))=false:=by decide):wpAny (model X.prog X.w) X.A (eval (.Name x pos) X.env) Q E s:=by
 obtain⟨mb,h1,h2⟩:=I.mod.blt;exact Calls.Name_function_global I.ok.kind hg (Calls.loadGlobal_builtin (by rw[I.ok.glob];exact I.mod.glob.keeps I.bk) hm (by rw[I.ok.blt];exact h1.keeps I.bk) ((h2 x hn).trans hv) h) hd
theorem M4 {x:Str}{v:V}{u:Value}{pos:Pos}(hg:Gl X x) (hm:X.mg x=some u) (r:RelV v u) (hd:(x == ("__debug__" : Str))=false:=by decide):PE X (.Name x pos) (tC v):=
 fun _ _ _ H _ I h=>Cv I hg hm ⟨v,H,I,r,h⟩ hd
theorem Nb {x:Str}{v:V}{u:Value}{pos:Pos}(hg:Gl X x) (hm:X.mg x=none) (hv:bootBuiltins x=some u) (r:RelV v u) (hn:x ≠ "__name__" := by decide) (hd:(x == ("__debug__" : Str))=false:=by decide):PE X (.Name x pos) (tC v):=
 fun _ _ _ H _ I h=>eU I hg hm hv ⟨v,H,I,r,h⟩ hn hd
variable {a b:Expr}{ta tb:TE}{pos:Pos}
noncomputable def tB (t:TE):TT:=fun σ H Q=>t σ H fun x H1=>∃c,x=.bl c/\Q c H1
theorem Ra {e:Expr}{t:TE}(h:PE X e t)(he:∀whole,isTrue e X.env whole=(do let v <- whole;standAt e.pos;holding [v] (truthy v)):=by intro _;rfl):PT X e (tB t):=by
 intro pins s σ H Q I hw;refine isTrue_plain (thE (h pins s σ H _ I hw) fun v s1 x H1 I1 r1 q1=>?_) (he _);obtain⟨d,rfl,q⟩:=q1;cases r1;exact wpAny_truthy_bool ⟨H1,I1,q⟩
variable {tA tB':TT}{rest:List Expr}
noncomputable def Qo (t u:TT):TT:=fun σ H Q=>t σ H fun c H1=>if c=true then u σ H1 Q else Q false H1
noncomputable def tOr (t u:TT):TT:=fun σ H Q=>t σ H fun c H1=>if c=true then Q true H1 else u σ H1 Q
noncomputable def Qh (t:TT):TT:=fun σ H Q=>t σ H fun c H1=>Q (!c) H1
theorem Mg (ha:PT X a tA):PW X (.BoolOp .And [a] pos) tA:=by
 intro wh pins s σ H Q I h;refine isTrue_and (thn (ha pins s σ H Q I h) fun c s1 e=>?_);cases c with
 | true=>exact isTrue_and_nil e
 | false=>exact e
theorem Q8 (ha:PT X a tA):PW X (.BoolOp .Or [a] pos) tA:=by
 intro wh pins s σ H Q I h;refine isTrue_or (thn (ha pins s σ H Q I h) fun c s1 e=>?_);cases c with
 | false=>exact isTrue_or_nil e
 | true=>exact e
theorem Q9 (ha:PT X a tA)(hb:PW X (.BoolOp .And (b::rest) pos) tB'):PW X (.BoolOp .And (a::b::rest) pos) (Qo tA tB'):=by
 intro wh pins s σ H Q I h;refine isTrue_and (thT (ha pins s σ H _ I h) fun c s1 H1 I1 q1=>?_);cases c with
 | true=>exact hb wh pins s1 σ H1 Q I1 q1
 | false=>exact⟨H1,I1,q1⟩
theorem Ut (ha:PT X a tA)(hb:PW X (.BoolOp .Or (b::rest) pos) tB'):PW X (.BoolOp .Or (a::b::rest) pos) (tOr tA tB'):=by
 intro wh pins s σ H Q I h;refine isTrue_or (thT (ha pins s σ H _ I h) fun c s1 H1 I1 q1=>?_);cases c with
 | true=>exact⟨H1,I1,q1⟩
 | false=>exact hb wh pins s1 σ H1 Q I1 q1
theorem Rb (ha:PT X a tA):PT X (.UnaryOp .Not a pos) (Qh tA):=by
 intro pins s σ H Q I h;exact isTrue_not (ha pins s σ H (fun c H1=>Q (!c) H1) I h)
noncomputable def GK (ta tb:TE):TE:=fun σ H Q=>ta σ H fun x H1=>∃c,x=.bl c/\if c=true then tb σ H1 Q else Q (.bl false) H1
noncomputable def Gw (ta:TE):TE:=fun σ H Q=>ta σ H fun x H1=>∃c,x=.bl c/\Q (.bl (!c)) H1
theorem Rw {op}{t:TE}(h:PE X a t):PE X (.BoolOp op [a] pos) t:=fun pins s σ H Q I hw=>BoolOp_one (h pins s σ H Q I hw)
theorem RG (ha:PE X a ta)(hb:PE X (.BoolOp .And (b::rest) pos) tb):PE X (.BoolOp .And (a::b::rest) pos) (GK ta tb):=by
 intro pins s σ H Q I h;refine BoolOp_and (thE (ha pins s σ H _ I h) fun v s1 x H1 I1 r1 q1=>?_);obtain⟨c,rfl,q1⟩:=q1;cases r1;refine wpAny_truthy_bool ?_;cases c with
 | true=>exact hb pins s1 σ H1 Q I1 q1
 | false=>exact⟨.bl false,H1,I1,rfl,q1⟩
theorem Rx (ha:PE X a ta):PE X (.UnaryOp .Not a pos) (Gw ta):=by
 intro pins s σ H Q I h;refine UnaryOp_ (thE (ha pins s σ H _ I h) fun v s1 x H1 I1 r1 q1=>?_);obtain⟨c,rfl,q1⟩:=q1;cases r1;exact not_of (wpAny_truthy_bool ⟨.bl (!c),H1,I1,rfl,q1⟩)
noncomputable def tIf (t:TT)(ta tb:TE):TE:=fun σ H Q=>t σ H fun c H1=>if c=true then ta σ H1 Q else tb σ H1 Q
theorem IV {c:Expr}(hc:PT X c tA)(ha:PE X a ta)(hb:PE X b tb):PE X (.IfExp c a b pos) (tIf tA ta tb):=by
 intro pins s σ H Q I h;refine wpAny_IfExp (thT (hc pins s σ H _ I h) fun d s1 H1 I1 q1=>?_);cases d with
 | true=>exact ha pins s1 σ H1 Q I1 q1
 | false=>exact hb pins s1 σ H1 Q I1 q1
end
noncomputable def SqL (K:PySem.W.Frag)(H:Hp)(a:Addr)(xs:List V):Prop:=
 Rd H a (.lst xs) \/
  ∃(o:Obj)(its:Array Value)(n:Nat),K.lookup a=some o/\o.cls=.type "list" /\ o.dict=none/\o.data=.seq its n/\its.size<=sizeLine/\Vals xs its.toList
noncomputable def SqT (K:PySem.W.Frag)(H:Hp)(a:Addr)(xs:List V):Prop:=
 Rd H a (.tup xs) \/
  ∃(o:Obj)(its:Array Value)(n:Nat),K.lookup a=some o/\o.cls=.type "tuple" /\ o.data=.seq its n/\its.size<=sizeLine/\Vals xs its.toList
noncomputable def VB:Value->Option V
 | .none=>some .non
 | .bool b=>some (.bl b)
 | .int i _=>some (.int i)
 | .str x _=>some (.str x)
 | .bytes b _=>some (.byt b)
 | .float b _=>some (.flt b)
 | .ref a=>some (.ref a)
 | .type n=>some (.ty n)
 | _=>none
theorem RelV.abs {x:V}{u:Value}(r:RelV x u):VB u=some x:=by
 cases x with
 | non=>cases r;rfl
 | bl _=>cases r;rfl
 | int _=>obtain⟨t,rfl⟩:=r;rfl
 | str _=>obtain⟨t,rfl⟩:=r;rfl
 | byt _=>obtain⟨t,rfl⟩:=r;rfl
 | flt _=>obtain⟨t,rfl⟩:=r;rfl
 | ref _=>cases r;rfl
 | ty _=>cases r;rfl
theorem RelV.inj {x y:V}{u:Value}(r:RelV x u)(q:RelV y u):x=y:=Option.some.inj (r.abs.symm.trans q.abs)
theorem Vals.inj:∀{xs ys:List V}{us:List Value},Vals xs us->Vals ys us->xs=ys
 | _,_,_,.nil,.nil=>rfl
 | _,_,_,.cons r t,.cons r' t'=>by rw[r.inj r',Vals.inj t t']
section
variable {X:Cx}{pins:List (Addr×Obj)}{σ:St}{H:Hp}{s:Shared}{a:Addr}{xs ys:List V}
theorem SqL.of {K:PySem.W.Frag}(h:H a=some (.lst xs)):SqL K H a xs:=.inl (.inl h)
theorem SqT.of {K:PySem.W.Frag}(h:H a=some (.tup xs)):SqT K H a xs:=.inl (.inl h)
theorem Inv.list (I:Inv X pins σ H s)(h:SqL X.K H a xs):∃its:List Value,Vals xs its/\PlainL s.heap a its.toArray/\xs.length<=sizeLine:=by
 rcases h with h|⟨o,its,n,hk,hc,hd,hs,hz,r⟩
 ·obtain⟨z,its,n,r,e⟩:=h.ok I.hok;exact⟨its,r,⟨_,n,e,rfl,rfl,rfl⟩,z⟩
 refine⟨its.toList,r,⟨o,n,I.kIn a o hk,hc,hd,by simpa using hs⟩,?_⟩;have e:=r.length;simp only[length_toList] at e;omega
theorem Inv.tuple (I:Inv X pins σ H s)(h:SqT X.K H a xs):∃its:List Value,Vals xs its/\IsTup s.heap a its.toArray/\xs.length<=sizeLine:=by
 rcases h with h|⟨o,its,n,hk,hc,hs,hz,r⟩
 ·obtain⟨z,its,r,p⟩:=h.ok I.hok;exact⟨its,r,p,z⟩
 refine⟨its.toList,r,⟨o,I.kIn a o hk,hc,n,by simpa using hs⟩,?_⟩;have e:=r.length;simp only[length_toList] at e;omega
theorem Inv.jy (I:Inv X pins σ H s)(h:SqL X.K H a xs)(h':SqL X.K H a ys):xs=ys:=by
 obtain⟨its,r,⟨o,n,e,_,_,d⟩,_⟩:=I.list h;obtain⟨its',r',⟨o',n',e',_,_,d'⟩,_⟩:=I.list h';rw[e] at e';cases e';rw[d] at d';injection d' with d1 _;have:its=its':=by simpa using congrArg Array.toList d1
 subst this;exact r.inj r'
theorem Inv.jH (I:Inv X pins σ H s)(h:SqT X.K H a xs)(h':SqT X.K H a ys):xs=ys:=by
 obtain⟨its,r,⟨o,e,_,n,d⟩,_⟩:=I.tuple h;obtain⟨its',r',⟨o',e',_,n',d'⟩,_⟩:=I.tuple h';rw[e] at e';cases e';rw[d] at d';injection d' with d1 _;have:its=its':=by simpa using congrArg Array.toList d1
 subst this;exact r.inj r'
end
noncomputable abbrev Cx.wish (X:Cx)(E:Value->Shared->Prop):Cx:={ X with xe:=E }
noncomputable abbrev Cx.nox (X:Cx):Cx:=X.wish fun _ _=>False
theorem Cx.Ok.wish {X:Cx}(ok:X.Ok)(E:Value->Shared->Prop):(X.wish E).Ok:=
 ⟨ok.mod,ok.kind,ok.glob,ok.blt,ok.above,ok.inj,ok.has,ok.cab,ok.hd,ok.frames,ok.stk,ok.exf,ok.bs,ok.bsz,ok.noex,ok.exfs,ok.nU,ok.frf⟩
theorem Cx.Ok.jl {X:Cx}{E:Value->Shared->Prop}(ok:(X.wish E).Ok):X.Ok:=
 ⟨ok.mod,ok.kind,ok.glob,ok.blt,ok.above,ok.inj,ok.has,ok.cab,ok.hd,ok.frames,ok.stk,ok.exf,ok.bs,ok.bsz,ok.noex,ok.exfs,ok.nU,ok.frf⟩
section
variable {X:Cx}{pins:List (Addr×Obj)}{σ:St}{H:Hp}{s:Shared}{E:Value->Shared->Prop}
theorem Inv.wish (I:Inv X pins σ H s)(E:Value->Shared->Prop):Inv (X.wish E) pins σ H s:=⟨I.ok.wish E,I.os,I.bare,I.base,I.loc,I.cell,I.free,I.freeC,I.pin,I.hok,I.len⟩
theorem Inv.jl (I:Inv (X.wish E) pins σ H s):Inv X pins σ H s:=⟨I.ok.jl,I.os,I.bare,I.base,I.loc,I.cell,I.free,I.freeC,I.pin,I.hok,I.len⟩
theorem SP.jl {D:Ends}{f:Flow}{s':Shared}(h:SP (X.wish E) pins D f s'):SP X pins D f s':=by
 cases f with
 | next=>obtain⟨σ',H',I,q⟩:=h;exact⟨σ',H',I.jl,q⟩
 | brk=>obtain⟨σ',H',I,q⟩:=h;exact⟨σ',H',I.jl,q⟩
 | cont=>obtain⟨σ',H',I,q⟩:=h;exact⟨σ',H',I.jl,q⟩
 | ret u=>obtain⟨v,σ',H',I,r,q⟩:=h;exact⟨v,σ',H',I.jl,r,q⟩
theorem PSs.nox {st:List Stmt}{t:TS}(h:PSs X.nox st t):PSs X st t:=fun pins s σ H D I hw=>
 wpAny_mono (h pins s σ H D (I.wish _) hw) (fun _ _ q=>q.jl) fun _ _ z=>False.elim z
end
section
variable {X:Cx}{st:Stmt}{rest:List Stmt}{t u:TS}{e:Expr}{te:TE}{pos:Pos}
noncomputable def Gx:TS:=fun D σ H=>D.nx σ H
noncomputable def KH (t u:TS):TS:=fun D σ H=>t { D with nx:=u D } σ H
theorem Mp:PSs X [] Gx:=fun _ _ σ H _ I h=>wpAny_execs_nil ⟨σ,H,I,h⟩
theorem Ih (h1:PS X st t)(h2:PSs X rest u):PSs X (st::rest) (KH t u):=by
 intro pins s σ H D I h;refine wpAny_execs_cons (thn (h1 pins s σ H { D with nx:=u D } I h) fun f s1 q=>?_);cases f with
 | next=>
  obtain⟨σ',H',I',q⟩:=q;exact h2 pins s1 σ' H' D I' q
 | ret v=>exact q
 | brk=>exact q
 | cont=>exact q
theorem Ml (h1:PS X st t):PSs X [st] t:=by
 intro pins s σ H D I h;refine wpAny_execs_cons (thn (h1 pins s σ H D I h) fun f s1 q=>?_);cases f with
 | next=>exact wpAny_execs_nil q
 | ret v=>exact q
 | brk=>exact q
 | cont=>exact q
theorem Inv.quiet {pins:List (Addr×Obj)}{σ:St}{H:Hp}{s:Shared}(I:Inv X pins σ H s):interactive X.env=false:=by simp [interactive,I.ok.kind]
noncomputable def GC (te:TE):TS:=fun D σ H=>te σ H fun _ H1=>D.nx σ H1
theorem Mr (he:PE X e te)(hs:swapsWith e none pos.line X.env=pure false:=by rfl):PS X (.Expr e pos) (GC te):=by
 intro pins s σ H D I h;exact wpAny_Expr_any (thE (he pins s σ H _ I h) fun v s1 x H1 I1 r1 q1=>⟨σ,H1,I1,q1⟩) I.quiet hs
noncomputable def Qf (te:TE):TS:=fun D σ H=>te σ H D.rt
theorem Rf (he:PE X e te):PS X (.Return (some e) pos) (Qf te):=by
 intro pins s σ H D I h;exact wpAny_Return_some (thE (he pins s σ H _ I h) fun v s1 x H1 I1 r1 q1=>⟨x,σ,H1,I1,r1,q1⟩)
noncomputable def KJ (c:TT)(t u:TS):TS:=fun D σ H=>c σ H fun b H1=>if b=true then t D σ H1 else u D σ H1
theorem Uv {c:Expr}{a b:List Stmt}{tc:TT}(hc:PT X c tc)(ha:PSs X a t)(hb:PSs X b u):PS X (.If c a b pos) (KJ tc t u):=by
 intro pins s σ H D I h;refine wpAny_If (thT (hc pins s σ H _ I h) fun d s1 H1 I1 q1=>?_);cases d with
 | true=>exact ha pins s1 σ H1 D I1 q1
 | false=>exact hb pins s1 σ H1 D I1 q1
end
noncomputable abbrev TG:=V->St->Hp->(St->Hp->Prop)->Prop
noncomputable abbrev TGs:=List V->St->Hp->(St->Hp->Prop)->Prop
noncomputable def PG (X:Cx)(target:Expr)(t:TG):Prop:=
 ∀(pins:List (Addr×Obj)) (s:Shared) (σ:St) (H:Hp) (v:V) (u:Value) (Q:St->Hp->Prop),Inv X pins σ H s->RelV v u->t v σ H Q ->
  wpAny (model X.prog X.w) X.A (assign target X.env u) (fun _ s'=>∃σ' H',Inv X pins σ' H' s'/\Q σ' H') X.xe s
noncomputable def PGs (X:Cx)(ts:List Expr)(t:TGs):Prop:=
 ∀(pins:List (Addr×Obj)) (s:Shared) (σ:St) (H:Hp) (vs:List V) (us:List Value) (Q:St->Hp->Prop),Inv X pins σ H s->Vals vs us->t vs σ H Q ->
  wpAny (model X.prog X.w) X.A (assignInOrder ((assignEach ts X.env).map (·.2)) us) (fun _ s'=>∃σ' H',Inv X pins σ' H' s'/\Q σ' H') X.xe s
noncomputable abbrev O3:=V->V->V->Hp->(Hp->Prop)->Prop
noncomputable def O4 (X:Cx)(t:O3):Prop:=
 ∀(pins:List (Addr×Obj)) (s:Shared) (σ:St) (H:Hp) (o i v:V) (ov iv u:Value) (Q:Hp->Prop),Inv X pins σ H s->RelV o ov->RelV i iv->RelV v u->t o i v H Q ->
  wpAny (model X.prog X.w) X.A (setItem ov iv u) (fun _ s'=>∃H',Inv X pins σ H' s'/\Q H') X.xe s
noncomputable abbrev TIp:=V->V->Hp->VK->Prop
noncomputable def PIp (X:Cx)(op:Operator)(t:TIp):Prop:=
 ∀(pins:List (Addr×Obj)) (s:Shared) (σ:St) (H:Hp) (x y:V) (v u:Value) (Q:VK),Inv X pins σ H s->RelV x v->RelV y u->t x y H Q ->
  wpAny (model X.prog X.w) X.A (inplaceOp op v u) (EP X pins σ Q) X.xe s
section
variable {X:Cx}{pos:Pos}
noncomputable def kJ (i:Nat):TG:=fun v σ H Q=>Q (σ.set i (some v)) H
theorem Ce {i:Nat}{x:Str}(hN:X.N.Nodup)(hi:X.N[i]?=some x)(hx:Loc X.env.scope x)(hf:X.fn x=true\/X.env.scope.names.lookup x=some .local:=by first|exact .inl rfl|exact .inr rfl|assumption):PG X (.Name x pos) (kJ i):=by
 intro pins s σ H v u Q I r h;exact wpAny_assign_Name (jm I hN hi hx r (fun s' I'=>⟨_,H,I',h⟩) hf)
noncomputable def Tf:TGs:=fun vs σ H Q=>vs=[]/\Q σ H
noncomputable def J0 (t:TG)(u:TGs):TGs:=fun vs σ H Q=>∃v r,vs=v::r/\t v σ H fun σ' H'=>u r σ' H' Q
theorem Mx:PGs X [] Tf:=by
 intro pins s σ H vs us Q I r h;obtain⟨e,h⟩:=h;subst e;cases r;exact assignInOrder_nil ⟨σ,H,I,h⟩
theorem Io {e:Expr}{es:List Expr}{t:TG}{u:TGs}(h1:PG X e t)(h2:PGs X es u)
  (hs:(assignEach (e::es) X.env).map (·.2)=assign e X.env::(assignEach es X.env).map (·.2):=by rfl):PGs X (e::es) (J0 t u):=by
 intro pins s σ H vs us Q I r h;obtain⟨v,vr,e1,h⟩:=h;subst e1;cases r with
 | cons r rr=>
  rw[hs];refine assignInOrder_cons (thn (h1 pins s σ H _ _ _ I r h) fun _ s1 ⟨σ1,H1,I1,q1⟩=>?_);exact h2 pins s1 σ1 H1 _ _ Q I1 rr q1
noncomputable def Vy (K:PySem.W.Frag)(n:Nat)(t:TGs):TG:=fun v σ H Q=>∃a xs,v=.ref a/\SqT K H a xs/\xs.length=n/\t xs σ H Q
theorem Rp {es:List Expr}{k:Nat}{t:TGs}{n:Nat}(hc:X.calm=true)(h:PGs X es t)
  (hn:(assignEach es X.env).length=n:=by rfl) (hst:(assignEach es X.env).findIdx? (·.1)=none:=by rfl):PG X (.Tuple es k pos) (Vy X.K n t):=by
 intro pins s σ H v u Q I r hw;obtain⟨a,xs,e1,hq,hl,hw⟩:=hw;subst e1;cases r;obtain⟨its,rv,ht,hz⟩:=I.tuple hq;refine assign_Tuple_tuple (I.ok.hd hc) ht (by simp [hn,<- hl,rv.length]) hst fun h' hx=>?_;have I1:Inv X pins σ H { s with heap:=h' }:=I.kept (t':=s.toks) fun b o e=>hx b o (ne_of_lt (lt_size e)) e;exact h pins _ σ H xs _ Q I1 (by simpa using rv) hw
noncomputable def Td (to ti:TE)(t:O3):TG:=fun v σ H Q=>to σ H fun o H1=>ti σ H1 fun i H2=>t o i v H2 fun H3=>Q σ H3
theorem Rq {o i:Expr}{to ti:TE}{t:O3}(ho:PE X o to)(hi:PE X i ti)(hs:O4 X t)
  (ha:∀v,assign (.Subscript o i pos) X.env v=(do
   let ov <- holding [v] (eval o X.env)
   let iv <- holding [v,ov] (eval i X.env)
   standAt pos
   holding [v,ov,iv] (setItem ov iv v)
   release [v,ov,iv] []):=by intro _;rfl):PG X (.Subscript o i pos) (Td to ti t):=by
 intro pins s σ H v u Q I r h;rw[ha];refine wpAny_bind (wpAny_holding (thE (ho pins s σ H _ I h) fun ov s1 x H1 I1 r1 q1=>?_));refine wpAny_bind (wpAny_holding (thE (hi pins s1 σ H1 _ I1 q1) fun iv s2 y H2 I2 r2 q2=>?_));refine wpAny_bind (wpAny_standAt (wpAny_bind (wpAny_holding (thn (hs pins s2 σ H2 x y v ov iv u _ I2 r1 r2 r q2) fun _ s3 ⟨H3,I3,q3⟩=>?_))));exact wpAny_release ⟨σ,H3,I3,q3⟩
noncomputable def wC (te:TE)(g:TG):TS:=fun D σ H=>te σ H fun x H1=>g x σ H1 D.nx
theorem Rj {tg e:Expr}{te:TE}{g:TG}(he:PE X e te)(hg:PG X tg g)(hs:swapsWithSole [tg] e pos.line X.env=pure false:=by rfl)(hw:swappedStores [tg] e X.env=pure none:=by rfl)
  (h1:(assignEach [tg] X.env).map (·.2)=[assign tg X.env]:=by rfl):PS X (.Assign [tg] e pos) (wC te g):=by
 intro pins s σ H D I h;refine wpAny_Assign_stores (thE (he pins s σ H _ I h) fun v s1 x H1 I1 r1 q1=>?_) hs hw;rw[h1];exact thn (hg pins s1 σ H1 x v _ I1 r1 q1) fun _ s2 q=>q
theorem Rc {i:Nat}{x:Str}{e:Expr}{te:TE}{pos':Pos}(hN:X.N.Nodup)(hi:X.N[i]?=some x)(hx:Loc X.env.scope x)(he:PE X e te)(hs:swapsWith e (some (.Name x pos')) pos.line X.env=pure false:=by rfl)(hf:X.fn x=true\/X.env.scope.names.lookup x=some .local:=by first|exact .inl rfl|exact .inr rfl|assumption) :
  PS X (.Assign [.Name x pos'] e pos) (wC te (kJ i)):=by
 intro pins s σ H D I h;refine wpAny_Assign_Name (thE (he pins s σ H _ I h) fun v s1 y H1 I1 r1 q1=>?_) hs;exact jm I1 hN hi hx r1 (fun s2 I2=>⟨_,H1,I2,q1⟩) hf
noncomputable def Qg (i j:Nat)(ta:TA):TS:=fun D σ H=>ta σ H fun vs H1=>∃v w,vs=[v,w]/\D.nx ((σ.set i (some v)).set j (some w)) H1
theorem Rg {i j:Nat}{x y:Str}{a b:Expr}{ta:TA}{px py pt:Pos}{kt k2 pt2}(hc:X.calm=true)(hN:X.N.Nodup)(hi:X.N[i]?=some x)(hj:X.N[j]?=some y)(hij:i≠j)
  (hx:X.env.scope.names.lookup x=some .local) (hy:X.env.scope.names.lookup y=some .local) (ha:PA X [a,b] ta)
  (hw:swappedStores [.Tuple [.Name x px,.Name y py] kt pt] (.Tuple [a,b] k2 pt2) X.env=pure (some [x,y]))
  (hs:swapsWithSole [.Tuple [.Name x px,.Name y py] kt pt] (.Tuple [a,b] k2 pt2) pos.line X.env=pure false:=by rfl) :
  PS X (.Assign [.Tuple [.Name x px,.Name y py] kt pt] (.Tuple [a,b] k2 pt2) pos) (Qg i j ta):=by
 intro pins s σ H D I h;rw[exec_Assign_arm];refine wpAny_bind (wpAny_standAt ?_);rw[hs];refine wpAny_bind (wpAny_pure ?_);rw[if_neg δ];refine wpAny_bind (Tuple_ (thA (ha _ pins s σ H _ I h) fun us s1 vs H1 I1 r1 q1=>?_));obtain⟨v,w,e1,q1⟩:=q1;subst e1;obtain⟨u1,u2,rfl,rv,rw'⟩:∃u1 u2,us=[u1,u2]/\RelV v u1/\RelV w u2:=by
  cases r1 with
  | cons p q=>
   cases q with
   | cons p' q'=>
    cases q';exact⟨_,_,rfl,p,p'⟩
 refine wpAny_newObj_type ?_ (by show 2<=sizeLine;decide);have I2:Inv X pins σ H1 { s1 with heap:=s1.heap.push { cls:=.type "tuple",data:=.seq [u1,u2].toArray } }:=I1.kept (t':=s1.toks) fun b o e=>get?_push_of_some _ e;rw[hw];refine wpAny_bind (wpAny_pure ?_);show wpAny (model X.prog X.w) X.A (do rule "assign.swapped-stores";let items <- unpackItems (.ref s1.heap.objs.size) 2 none;assignInOrder [fun v=>bindName X.env y v,fun v=>bindName X.env x v] items.reverse;pure Flow.next) _ _ _;refine wpAny_bind (wpAny_rule (wpAny_bind (unpackItems_tuple (items:=#[u1,u2]) (I.ok.hd hc) (IsTup.new s1.heap _) fun h' hx'=>?_)));have I3:=I2.kept (h':=h') (t':=s1.toks) fun b o e=>hx' b o (ne_of_lt (lt_size e)) e;show wpAny _ _ (assignInOrder [fun v=>bindName X.env y v,fun v=>bindName X.env x v] [u2,u1] >>= fun _=>pure Flow.next) _ _ _;refine wpAny_bind (assignInOrder_cons (wpAny_bindName (jm I3 hN hj (.inl hy) rw' (fun s2 I4=>?_) (.inr hy))));refine assignInOrder_cons (wpAny_bindName (jm I4 hN hi (.inl hx) rv (fun s3 I5=>assignInOrder_nil (wpAny_pure ?_)) (.inr hx)));rw[List.set_comm _ _ (Ne.symm hij)] at I5;exact⟨_,H1,I5,q1⟩
noncomputable def Qn (i:Nat)(te:TE)(ti:TIp):TS:=fun D σ H=>∃x,σ[i]?=some (some x)/\te σ H fun y H1=>ti x y H1 fun z H2=>D.nx (σ.set i (some z)) H2
theorem Ri {i:Nat}{x:Str}{e:Expr}{te:TE}{op:Operator}{ti:TIp}{pos':Pos}(hN:X.N.Nodup)(hi:X.N[i]?=some x)(hx:Loc X.env.scope x)(he:PE X e te)(ho:PIp X op ti)(hf:X.fn x=true\/X.env.scope.names.lookup x=some .local:=by first|exact .inl rfl|exact .inr rfl|assumption) :
  PS X (.AugAssign (.Name x pos') op e pos) (Qn i te ti):=by
 intro pins s σ H D I h;obtain⟨v,e1,h⟩:=h;obtain⟨m,hn,hl⟩:=I.loc;have vis:Vis X.env.scope x:=by rcases hx with k|k;exact .inl k;exact .inr (.inl k)
 obtain⟨u,r,l⟩:=hl i x v hi e1 vis;refine wpAny_AugAssign_Name ?_;have go:wpAny (model X.prog X.w) X.A (eval e X.env) (fun w s₂=>wpAny (model X.prog X.w) X.A (inplaceOp op u w) (fun r s₃=>wpAny (model X.prog X.w) X.A (storeName X.env x r) (fun _=>SP X pins D .next) X.xe s₃) X.xe s₂) X.xe s:=by
  refine thE (he pins s σ H _ I h) fun w s1 y H1 I1 r1 q1=>?_;refine thE (ho pins s1 σ H1 v y u w _ I1 r r1 q1) fun z s2 zv H2 I2 r2 q2=>?_;exact jm I2 hN hi hx r2 (fun s3 I3=>⟨_,H2,I3,q2⟩) hf
 rcases l with⟨hk,hm⟩|⟨hk,c,hc,hcell⟩
 ·exact wpAny_loadName_local I.ok.kind hk hn hm go
 rcases hk with hk|hk
 ·exact wpAny_loadName_cell I.ok.kind hk hc hcell go
 rcases hx with k|k
 ·have:X.env.scope.names.lookup x=some .free:=hk;rw[k] at this;cases this
 have:X.env.scope.names.lookup x=some .free:=hk;rw[k] at this;cases this
noncomputable def ipI (f:Int->Int->Int):TIp:=fun x y H Q=>∃i j,x=.int i/\y=.int j/\Q (.int (f i j)) H
theorem S7:PIp X .Add (ipI fun i j=>i+j):=by
 intro pins s σ H x y v u Q I r1 r2 h;obtain⟨i,j,e1,e2,q⟩:=h;subst e1;subst e2;obtain⟨t,rfl⟩:=r1;obtain⟨t',rfl⟩:=r2;exact iadd_int ⟨.int _,H,I.tok _,⟨_,rfl⟩,q⟩
theorem S6:PIp X .Sub (ipI fun i j=>i-j):=by
 intro pins s σ H x y v u Q I r1 r2 h;obtain⟨i,j,e1,e2,q⟩:=h;subst e1;subst e2;obtain⟨t,rfl⟩:=r1;obtain⟨t',rfl⟩:=r2;exact isub_int ⟨.int _,H,I.tok _,⟨_,rfl⟩,q⟩
noncomputable def yW (c:TT)(tb:TS):TS:=fun D σ H=>∃W:Nat->St->Hp->Prop,(∃m,W m σ H)/\∀m σ H,W m σ H ->
 c σ H fun b H1=>if b=true then ∃N:St->Hp->Prop,(∀σ' H',N σ' H'->∃m',m'<m/\W m' σ' H')/\tb { D with nx:=N,ct:=N,bk:=D.nx } σ H1 else D.nx σ H1
theorem Ii {c:Expr}{body:List Stmt}{tc:TT}{tb:TS}(hp:PassesOwn (model X.prog X.w) X.A X.env X.xe)(hc:PT X c tc)(hb:PSs X body tb):PS X (.While c body [] pos) (yW tc tb):=by
 intro pins s σ H D I h;obtain⟨W,⟨m0,w0⟩,turn⟩:=h;refine wpAny_While (codeAny_whileLoop (fun n s'=>∃σ' H',Inv X pins σ' H' s'/\W n σ' H') ?_ m0 ⟨σ,H,I,w0⟩);rintro n s1 ⟨σ1,H1,I1,w1⟩;refine wpAny_passesOwn hp (thT (hc pins s1 σ1 H1 _ I1 (turn n σ1 H1 w1)) fun b s2 H2 I2 q2=>?_);cases b with
 | true=>
  obtain⟨N,hN,q2⟩:=q2;rw[if_pos rfl];refine wpAny_passesOwn hp (thn (hb pins s2 σ1 H2 _ I2 q2) fun f s3 q3=>?_);cases f with
  | next=>
   obtain⟨σ3,H3,I3,n3⟩:=q3;obtain⟨m',hm,w3⟩:=hN σ3 H3 n3;exact⟨m',hm,σ3,H3,I3,w3⟩
  | cont=>
   obtain⟨σ3,H3,I3,n3⟩:=q3;obtain⟨m',hm,w3⟩:=hN σ3 H3 n3;exact⟨m',hm,σ3,H3,I3,w3⟩
  | brk=>exact q3
  | ret v=>exact q3
 | false=>
  rw[if_neg Bool.false_ne_true];exact wpAny_execs_nil ⟨σ1,H2,I2,q2⟩
end
structure It where
 go:Nat->Hp->Prop
 yld:Nat->Hp->V->Hp->Prop
 stop:Nat->Hp->Prop
noncomputable def gR (X:Cx)(pins:List (Addr×Obj))(H:Hp)(b:Addr):Prop:=
 H b=none/\b≠X.env.locals/\b∉X.fs/\(b∈X.ex\/X.s₀.heap.objs.size<=b)/\(∀x c,X.env.cells.lookup x=some c->c≠b)/\∀p∈X.pn++pins,p.1≠b
theorem Inv.rY {X:Cx}{pins:List (Addr×Obj)}{σ:St}{H H':Hp}{s:Shared}{b:Addr}(I:Inv X pins σ H s)(hb:s.heap.objs.size<=b)(hn:H' b=none):gR X pins H' b:=by
 refine⟨hn,ne_of_gt (lt_of_lt_of_le I.lt hb),I.Nv hb,.inr (le_trans I.sz hb),fun x c e z=>?_,fun p hp z=>?_⟩
 ·obtain⟨v,q⟩:=I.cell x c e;exact absurd (lt_of_lt_of_le q.lt (by rw[z];exact hb)) (lt_irrefl _)
 exact absurd (lt_of_lt_of_le (lt_size (I.pin p hp).1) (by rw[z];exact hb)) (lt_irrefl _)
structure Turn (P:Program)(w:World)(K:PySem.W.Frag)(tg:Expr)(J:It)(fp:List Addr)(it:Addr)(tn:Nat->Heap->Prop):Prop where
 mem:it∈fp
 obj:∀i h,tn i h->∀b∈fp,∃o,h.get? b=some o/\∀v,o.data≠.cell v
 keep:∀i h h',tn i h->(∀b∈fp,∀o,h.get? b=some o->h'.get? b=some o)->tn i h'
 item:∀(X:Cx),X.prog=P->X.w=w->X.K=K->X.calm=true->∀(i:Nat)(pins:List (Addr×Obj)) (s:Shared) (σ:St) (H:Hp) (E:Value->Shared->Prop),Inv X pins σ H s->(∀b∈fp,gR X pins H b)->tn i s.heap->J.go i H ->
  wpAny (model P w) X.A (pyNext (.ref it)) (fun r s1=>∃u,r=some u /\
   wpAny (model P w) X.A (letOwnedTupleGo tg (.ref it) u) (fun _ s2=>∃x H',Inv X pins σ H' s2/\RelV x u/\J.yld i H x H'/\tn (i+1) s2.heap/\∀b∈fp,H' b=none) E s1) E s
 done:∀(X:Cx),X.prog=P->X.w=w->X.K=K->X.calm=true->∀(i:Nat)(pins:List (Addr×Obj)) (s:Shared) (σ:St) (H:Hp) (E:Value->Shared->Prop),Inv X pins σ H s->(∀b∈fp,gR X pins H b)->tn i s.heap->J.stop i H ->
  wpAny (model P w) X.A (pyNext (.ref it)) (fun r s1=>r=none/\Inv X pins σ H s1) E s
 self:∀(A:Around)(i:Nat)(s:Shared)(Q:Value->Shared->Prop)(E:Value->Shared->Prop),tn i s.heap->Q (.ref it) s->wpAny (model P w) A (pyIter (.ref it)) Q E s
noncomputable abbrev TI:=St->Hp->(It->Hp->Prop)->Prop
noncomputable def PIE (X:Cx)(pins:List (Addr×Obj))(σ:St)(tg:Expr)(R:It->Hp->Prop)(itv:Value)(s2:Shared):Prop:=
 ∃(it:Addr)(fp:List Addr)(tn:Nat->Heap->Prop)(J:It)(H':Hp),itv=.ref it/\Inv X pins σ H' s2/\Turn X.prog X.w X.K tg J fp it tn/\tn 0 s2.heap/\(∀b∈fp,gR X pins H' b)/\R J H'
noncomputable def PI (X:Cx)(tg iter:Expr)(wi:TI):Prop:=
 ∀(pins:List (Addr×Obj)) (s:Shared) (σ:St) (H:Hp) (R:It->Hp->Prop),Inv X pins σ H s->wi σ H R ->
  wpAny (model X.prog X.w) X.A (eval iter X.env) (fun v s1=>wpAny (model X.prog X.w) X.A (pyIter v) (PIE X pins σ tg R) X.xe s1) X.xe s
theorem CW {M:Model}{A:Around}{E:Value->Shared->Prop}{s:Shared}{tg:Expr}{it:Addr}{u:Value}{o:Obj}{n:String}{vs:Array Value}{Q:Unit->Shared->Prop}(ho:s.heap.get? it=some o)(hc:o.cls=.type n)(hd:o.data=.fields vs)
  (hn:["enumerate","zip","dict_itemiterator","dict_reverseitemiterator","odict_iterator","itertools.zip_longest","itertools.pairwise"].contains n=false) (hQ:Q () s):wpAny M A (letOwnedTupleGo tg (.ref it) u) Q E s:=by
 unfold letOwnedTupleGo;cases tg <;> first
  | exact wpAny_pure hQ
  | (cases u <;> first
    | exact wpAny_pure hQ
    | (refine wpAny_bind (wpAny_load ho ?_)
       rw[hc,hd];show wpAny M A (if (["enumerate","zip","dict_itemiterator","dict_reverseitemiterator","odict_iterator","itertools.zip_longest","itertools.pairwise"].contains n&&vs[0]? == some (rawInt _))=true then _ else _) Q E s;rw[if_neg (by intro h;rw[hn,Bool.false_and] at h;cases h)];exact wpAny_pure hQ))
noncomputable def Itl (K:PySem.W.Frag)(a:Addr):It:=
 ⟨fun i H=>∃xs x,SqL K H a xs/\xs[i]?=some x,fun i H x H'=>H'=H/\∀xs,SqL K H a xs->xs[i]?=some x,fun i H=>∃xs,SqL K H a xs/\xs.length<=i⟩
noncomputable def Itt (K:PySem.W.Frag)(a:Addr):It:=
 ⟨fun i H=>∃xs x,SqT K H a xs/\xs[i]?=some x,fun i H x H'=>H'=H/\∀xs,SqT K H a xs->xs[i]?=some x,fun i H=>∃xs,SqT K H a xs/\xs.length<=i⟩
noncomputable def Itr (lo:Int)(n:Nat):It:=⟨fun i _=>i<n,fun i H x H'=>H'=H/\x=.int (lo+i),fun i _=>n<=i⟩
theorem Dv {P:Program}{w:World}{K:PySem.W.Frag}{tg:Expr}(a it:Addr):Turn P w K tg (Itl K a) [it] it (fun i h=>h.IsListIter it a i) where
 mem:=by simp
 obj:=fun i h st b hb=>by
  have e:b=it:=by simpa using hb
  subst e;obtain⟨o,e,c,d⟩:=st;exact⟨o,e,fun v z=>by rw[d] at z;cases z⟩
 keep:=fun i h h' st k=>st.at fun o e=>k it (by simp) o e
 item:=by
  intro X hP hw hK hc i pins s σ H E I hf st hg;subst hP hw hK;obtain⟨xs,x,hq,hx⟩:=hg;obtain⟨its,rv,p,hz⟩:=I.list hq;obtain⟨u,hu,ru⟩:=rv.get hx;obtain⟨f0,f1,f2,f3,f4,f5⟩:=hf it (by simp);refine wpAny_pyNext_list_item st p.isList (x:=u) (by simpa using hu) fun h' st' sb=>?_;have I1:Inv X pins σ H { s with heap:=h' }:=I.turned (t':=s.toks) (fun b o hb e=>(sb.2 b hb).trans e) f0 f1 f3 f4 f5;obtain⟨o,e,c,d⟩:=id st';exact⟨u,rfl,CW (s:={ s with heap:=h' }) e c d δ ⟨x,H,I1,ru,⟨rfl,fun ys hy=>by rw[I.jy hy hq];exact hx⟩,st',fun b hb=>(hf b hb).1⟩⟩
 done:=by
  intro X hP hw hK hc i pins s σ H E I hf st hg;subst hP hw hK;obtain⟨xs,hq,hx⟩:=hg;obtain⟨its,rv,p,hz⟩:=I.list hq;obtain⟨f0,f1,f2,f3,f4,f5⟩:=hf it (by simp);have hl:=rv.length;exact wpAny_pyNext_list_end (I.ok.hd hc) st p.isList (by simp;omega) fun h' eb=>⟨rfl,I.turned (t':=s.toks) (fun b o hb e=>eb b o hb e) f0 f1 f3 f4 f5⟩
 self:=fun _ _ _ _ _ st h=>wpAny_pyIter_listiter st h
theorem yS {P:Program}{w:World}{K:PySem.W.Frag}{tg:Expr}(a it:Addr):Turn P w K tg (Itt K a) [it] it (fun i h=>h.IsTupleIter it a i) where
 mem:=by simp
 obj:=fun i h st b hb=>by
  have e:b=it:=by simpa using hb
  subst e;obtain⟨o,e,c,d⟩:=st;exact⟨o,e,fun v z=>by rw[d] at z;cases z⟩
 keep:=fun i h h' st k=>st.at fun o e=>k it (by simp) o e
 item:=by
  intro X hP hw hK hc i pins s σ H E I hf st hg;subst hP hw hK;obtain⟨xs,x,hq,hx⟩:=hg;obtain⟨its,rv,p,hz⟩:=I.tuple hq;obtain⟨u,hu,ru⟩:=rv.get hx;obtain⟨f0,f1,f2,f3,f4,f5⟩:=hf it (by simp);refine wpAny_pyNext_tuple_item st (show s.heap.IsTuple a its.toArray from p) (x:=u) (by simpa using hu) fun h' st' sb=>?_;have I1:Inv X pins σ H { s with heap:=h' }:=I.turned (t':=s.toks) (fun b o hb e=>(sb.2 b hb).trans e) f0 f1 f3 f4 f5;obtain⟨o,e,c,d⟩:=id st';exact⟨u,rfl,CW (s:={ s with heap:=h' }) e c d δ ⟨x,H,I1,ru,⟨rfl,fun ys hy=>by rw[I.jH hy hq];exact hx⟩,st',fun b hb=>(hf b hb).1⟩⟩
 done:=by
  intro X hP hw hK hc i pins s σ H E I hf st hg;subst hP hw hK;obtain⟨xs,hq,hx⟩:=hg;obtain⟨its,rv,p,hz⟩:=I.tuple hq;obtain⟨f0,f1,f2,f3,f4,f5⟩:=hf it (by simp);have hl:=rv.length;exact wpAny_pyNext_tuple_end (I.ok.hd hc) st (show s.heap.IsTuple a its.toArray from p) (by simp;omega) fun h' eb=>⟨rfl,I.turned (t':=s.toks) (fun b o hb e=>eb b o hb e) f0 f1 f3 f4 f5⟩
 self:=fun _ _ _ _ _ st h=>wpAny_pyIter_tupleiter st h
theorem yU {P:Program}{w:World}{K:PySem.W.Frag}{tg:Expr}(it:Addr)(lo:Int)(n:Nat):Turn P w K tg (Itr lo n) [it] it (fun i h=>IsRangeIter h it (lo+(i:Nat)*1) ((n:Int)-(i:Nat)) 1) where
 mem:=by simp
 obj:=fun i h st b hb=>by
  have e:b=it:=by simpa using hb
  subst e;exact⟨_,st,fun v z=>by
   have z':Data.fields _=Data.cell v:=z;cases z'⟩
 keep:=fun i h h' st k=>k it (by simp) _ st
 item:=by
  intro X hP hw hK hc i pins s σ H E I hf st hg;subst hP hw hK;obtain⟨f0,f1,f2,f3,f4,f5⟩:=hf it (by simp);have W:=Walks.range (prog:=X.prog) (w:=X.w) (I.ok.hd hc) it lo 1 n;refine W.item i s _ _ hg st fun v h' tk hv st' kk=>?_;obtain⟨t,rfl⟩:=hv;have I1:Inv X pins σ H { s with heap:=h',toks:=tk }:=I.turned (fun b o hb e=>kk b o (by simpa using hb) e) f0 f1 f3 f4 f5;refine⟨_,rfl,CW (s:={ s with heap:=h',toks:=tk }) (n := "range_iterator") st' rfl rfl δ ⟨.int (lo+i),H,I1,⟨t,?_⟩,⟨rfl,rfl⟩,st',fun b hb=>(hf b hb).1⟩⟩;rw[Int.mul_one]
 done:=by
  intro X hP hw hK hc i pins s σ H E I hf st hg;subst hP hw hK;obtain⟨f0,f1,f2,f3,f4,f5⟩:=hf it (by simp);exact wpAny_pyNext_range_end (I.ok.hd hc) st (by have:n<=i:=hg;omega) fun h' eb=>⟨rfl,I.turned (t':=s.toks) (fun b o hb e=>eb b o hb e) f0 f1 f3 f4 f5⟩
 self:=fun _ _ _ _ _ st h=>wpAny_pyIter_rangeiter st h
section
variable {X:Cx}{tg:Expr}
theorem Hj {pins:List (Addr×Obj)}{σ:St}{H:Hp}{s:Shared}{R:It->Hp->Prop}{E:Value->Shared->Prop}{lo hi:Int}{t u v:Tok}{tk:Nat}(I:Inv X pins σ H s)(h1:-(2^62)<=lo)(h2:lo<2^62)(h3:-(2^62)<=hi)(h4:hi<2^62)
  (q:R (Itr lo (hi-lo).toNat) H):wpAny (model X.prog X.w) X.A (pyIter (.ref s.heap.objs.size)) (PIE X pins σ tg R) E { s with heap:=s.heap.push { cls:=.type "range",data:=.fields #[.int lo t,.int hi u,.int 1 v] },toks:=tk }:=by
 refine wpAny_pyIter_range (IsRange.new ..) (small_one h1 h2 h3 h4) ?_;have I1:Inv X pins σ H { s with heap:=s.heap.push { cls:=.type "range",data:=.fields #[.int lo t,.int hi u,.int 1 v] },toks:=tk }:=I.kept fun b o e=>get?_push_of_some _ e;refine⟨(s.heap.push { cls:=.type "range",data:=.fields #[.int lo t,.int hi u,.int 1 v] }).objs.size,[(s.heap.push { cls:=.type "range",data:=.fields #[.int lo t,.int hi u,.int 1 v] }).objs.size],_,_,H,rfl,
  I1.kept (t':=tk) fun b o e=>get?_push_of_some _ e,yU _ lo (hi-lo).toNat,?_,fun b hb=>?_,q⟩
 ·have e1:lo+((0:Nat):Int)*1=lo:=by simp
  have e2:(((hi-lo).toNat:Nat):Int)-((0:Nat):Int)=Builtin.Range.rangeSize lo hi 1:=by rw[rangeSize_one];split <;> omega
  show IsRangeIter _ _ (lo+((0:Nat):Int)*1) ((((hi-lo).toNat:Nat):Int)-((0:Nat):Int)) 1;rw[e1,e2];exact get?_push_size _ rfl
 have e:b=(s.heap.push { cls:=.type "range",data:=.fields #[.int lo t,.int hi u,.int 1 v] }).objs.size:=by simpa using hb
 subst e;exact I1.rY (le_refl _) (I1.hok.fresh (le_refl _))
noncomputable def qz (ta:TA):TI:=fun σ H R=>ta σ H fun vs H1=>∃j:Int,vs=[.int j]/\-(2^62)<=j/\j<2^62/\R (Itr 0 j.toNat) H1
theorem Ed {a:Expr}{ta:TA}{p pos:Pos}(hg:Gl X "range") (hm:X.mg "range" = none) (ha:PA X [a] ta) (hs:starEach [a] X.env=[(false,eval a X.env)]:=by rfl):PI X tg (.Call (.Name "range" p) [a] [] pos) (qz ta):=by
 intro pins s σ H R I h;refine Call_ (eU I hg hm boot_range (PyProof.Rows.callWith_type1 (thA (ha pos pins s σ H _ I h) fun us s1 vs H1 I1 r1 q1=>?_) hs rfl));obtain⟨j,e,q1,q2,q⟩:=q1;subst e;cases r1 with
 | cons r rr=>
  cases rr;obtain⟨t,rfl⟩:=r;exact call_range_1 (Hj I1 ω ω q1 q2 (by simpa using q))
noncomputable def Qk (wi:TI)(g:TG)(tb:TS):TS:=fun D σ H=>wi σ H fun J H1=>∃W:Nat->Nat->St->Hp->Prop,(∃m,W 0 m σ H1)/\∀i m σ H,W i m σ H ->
 (J.stop i H/\D.nx σ H)\/(J.go i H/\∃N:St->Hp->Prop,(∀σ' H',N σ' H'->∃m',m'<m/\W (i+1) m' σ' H')/\∀x H',J.yld i H x H'->g x σ H' fun σ2 H2=>tb { D with nx:=N,ct:=N,bk:=D.nx } σ2 H2)
noncomputable def fG (fp:List Addr)(h:Heap):List (Addr×Obj):=fp.filterMap fun b=>(h.get? b).map fun o=>(b,o)
theorem gH {fp:List Addr}{h:Heap}{b:Addr}{o:Obj}(hb:b∈fp)(e:h.get? b=some o):(b,o)∈fG fp h:=List.mem_filterMap.mpr ⟨b,hb,by rw[e];rfl⟩
theorem jO {fp:List Addr}{h:Heap}{p:Addr×Obj}(hp:p∈fG fp h):p.1∈fp/\h.get? p.1=some p.2:=by
 obtain⟨b,hb,e⟩:=List.mem_filterMap.mp hp;cases q:h.get? b with
 | none=>rw[q] at e;cases e
 | some o=>
  rw[q] at e;have e':(b,o)=p:=Option.some.inj e;subst e';exact⟨hb,q⟩
theorem Inv.pinned {pins:List (Addr×Obj)}{σ:St}{H:Hp}{s:Shared}{fp:List Addr}(I:Inv X pins σ H s)(hf:∀b∈fp,gR X pins H b)(ho:∀b∈fp,∃o,s.heap.get? b=some o/\∀v,o.data≠.cell v):Inv X (pins++fG fp s.heap) σ H s:=
 I.gW fun p hp=>(mem_append.mp hp).elim (fun z=>I.pin p (mem_append_right _ z)) fun z=>by
  obtain⟨hb,e⟩:=jO z;obtain⟨f0,f1,f2,_⟩:=hf p.1 hb;obtain⟨o,e',d⟩:=ho p.1 hb;rw[e] at e';cases e';exact⟨e,f0,f1,f2,d⟩
theorem Inv.iC {pins pl:List (Addr×Obj)}{σ:St}{H:Hp}{s:Shared}(I:Inv X (pins++pl) σ H s):Inv X pins σ H s:=I.gW fun p hp=>I.pin p (mem_append_right _ (List.mem_append_left _ hp))
theorem Rh {iter:Expr}{body:List Stmt}{wi:TI}{g:TG}{tb:TS}{pos:Pos}(hp:PassesOwn (model X.prog X.w) X.A X.env X.xe)(hc:X.calm=true)(hi:PI X tg iter wi)(hg:PG X tg g)(hb:PSs X body tb)
  (hs:∀x,foldedSetIterable iter X.env x=pure x:=by intro _;rfl):PS X (.For tg iter body [] pos) (Qk wi g tb):=by
 intro pins s σ H D I h;refine wpAny_For (thn (hi pins s σ H _ I h) fun v s1 h1=>thn h1 fun itv s2 h2=>?_) hs;obtain⟨it,fp,tn,J,H2,e,I2,T,st2,f2,W,⟨m0,w0⟩,turn⟩:=h2;subst e
 -- what stays true of the iterator's objects through the loop
 have stat:∀{H':Hp},(∀b∈fp,H' b=none)->∀b∈fp,gR X pins H' b:=fun hn b hb=>⟨hn b hb,(f2 b hb).2⟩;refine codeAny_forLoop_any (fun n s'=>∃i σ' H',Inv X pins σ' H' s'/\tn i s'.heap/\(∀b∈fp,H' b=none)/\W i n σ' H') ?_ m0 ⟨0,σ,H2,I2,st2,fun b hb=>(f2 b hb).1,w0⟩;rintro n s3 ⟨i,σ3,H3,I3,st3,fr3,w3⟩;rcases turn i n σ3 H3 w3 with⟨stop,qn⟩|⟨go,N,hN,step⟩
 ·refine wpAny_passesOwn hp (thn (T.done X rfl rfl rfl hc i pins s3 σ3 H3 X.xe I3 (stat fr3) st3 stop) fun r s4 ⟨hr,I4⟩=>?_);subst hr;exact wpAny_execs_nil ⟨σ3,H3,I4,qn⟩
 refine wpAny_passesOwn hp (thn (T.item X rfl rfl rfl hc i pins s3 σ3 H3 X.xe I3 (stat fr3) st3 go) fun r s4 ⟨u,hr,h4⟩=>?_);subst hr;refine wpAny_passesOwn hp (thn h4 fun _ s5 ⟨x,H5,I5,r5,y5,st5,fr5⟩=>?_);have I5':=I5.pinned (stat fr5) (T.obj _ _ st5);refine wpAny_passesOwn hp (thn (hg _ s5 σ3 H5 x u _ I5' r5 (step x H5 y5)) fun _ s6 ⟨σ6,H6,I6,q6⟩=>?_);refine wpAny_passesOwn hp (thn (hb _ s6 σ6 H6 _ I6 q6) fun f s7 q7=>?_);have again:∀{σ7:St}{H7:Hp},Inv X (pins++fG fp s5.heap) σ7 H7 s7->N σ7 H7->∃m,m<n/\∃i σ' H',Inv X pins σ' H' s7/\tn i s7.heap/\(∀b∈fp,H' b=none)/\W i m σ' H':=fun {σ7 H7} I7 n7=>by
  obtain⟨m',hm,w7⟩:=hN σ7 H7 n7;refine⟨m',hm,i+1,σ7,H7,I7.iC,T.keep _ _ _ st5 fun b hb o e=>(I7.pin (b,o) (mem_append_right _ (mem_append_right _ (gH hb e)))).1,fun b hb=>?_,w7⟩;obtain⟨o,e,d⟩:=T.obj _ _ st5 b hb;exact(I7.pin (b,o) (mem_append_right _ (mem_append_right _ (gH hb e)))).2.1
 cases f with
 | next=>obtain⟨σ7,H7,I7,n7⟩:=q7;exact again I7 n7
 | cont=>obtain⟨σ7,H7,I7,n7⟩:=q7;exact again I7 n7
 | brk=>obtain⟨σ7,H7,I7,q7⟩:=q7;exact⟨σ7,H7,I7.iC,q7⟩
 | ret v=>obtain⟨x7,σ7,H7,I7,r7,q7⟩:=q7;exact⟨x7,σ7,H7,I7.iC,r7,q7⟩
end
theorem J2 {K:PySem.W.Frag}{a:Addr}{xs:List V}{g:TG}{tb:TS}{D:Ends}{σ:St}{H:Hp}(Pv:Nat->St->Hp->Prop)(h0:Pv 0 σ H)(hl:∀i σ H,i<=xs.length->Pv i σ H->SqL K H a xs)
  (hs:∀i x σ H,xs[i]?=some x->Pv i σ H->g x σ H fun σ2 H2=>tb { D with nx:=Pv (i+1),ct:=Pv (i+1),bk:=D.nx } σ2 H2) (hd:∀σ H,Pv xs.length σ H->D.nx σ H) :
  ∃W:Nat->Nat->St->Hp->Prop,(∃m,W 0 m σ H)/\∀i m σ H,W i m σ H ->
   ((Itl K a).stop i H/\D.nx σ H)\/((Itl K a).go i H/\∃N:St->Hp->Prop,(∀σ' H',N σ' H'->∃m',m'<m/\W (i+1) m' σ' H')/\∀x H',(Itl K a).yld i H x H'->g x σ H' fun σ2 H2=>tb { D with nx:=N,ct:=N,bk:=D.nx } σ2 H2):=by
 refine⟨fun i m σ H=>m=xs.length-i/\i<=xs.length/\Pv i σ H,⟨xs.length,by simp,zero_le _,h0⟩,?_⟩;rintro i m σ H ⟨rfl,hi,p⟩;have q:=hl i σ H hi p;by_cases hlt:i<xs.length
 ·refine .inr ⟨⟨xs,xs[i],q,by simp [hlt]⟩,Pv (i+1),fun σ' H' p'=>⟨xs.length-(i+1),ω,rfl,hlt,p'⟩,fun x H' y=>?_⟩;obtain⟨e,y⟩:=y;subst e;exact hs i x σ _ (y xs q) p
 have e:i=xs.length:=ω;subst e;exact .inl ⟨⟨xs,q,le_refl _⟩,hd σ H p⟩
theorem EY {lo:Int}{n:Nat}{g:TG}{tb:TS}{D:Ends}{σ:St}{H:Hp}(Pv:Nat->St->Hp->Prop)(h0:Pv 0 σ H)
  (hs:∀i σ H,i<n->Pv i σ H->g (.int (lo+i)) σ H fun σ2 H2=>tb { D with nx:=Pv (i+1),ct:=Pv (i+1),bk:=D.nx } σ2 H2) (hd:∀σ H,Pv n σ H->D.nx σ H) :
  ∃W:Nat->Nat->St->Hp->Prop,(∃m,W 0 m σ H)/\∀i m σ H,W i m σ H ->
   ((Itr lo n).stop i H/\D.nx σ H)\/((Itr lo n).go i H/\∃N:St->Hp->Prop,(∀σ' H',N σ' H'->∃m',m'<m/\W (i+1) m' σ' H')/\∀x H',(Itr lo n).yld i H x H'->g x σ H' fun σ2 H2=>tb { D with nx:=N,ct:=N,bk:=D.nx } σ2 H2):=by
 refine⟨fun i m σ H=>m=n-i/\i<=n/\Pv i σ H,⟨n,by simp,zero_le _,h0⟩,?_⟩;rintro i m σ H ⟨rfl,hi,p⟩;by_cases hlt:i<n
 ·refine .inr ⟨hlt,Pv (i+1),fun σ' H' p'=>⟨n-(i+1),ω,rfl,hlt,p'⟩,fun x H' y=>?_⟩;obtain⟨e,y⟩:=y;subst e y;exact hs i σ _ hlt p
 have e:i=n:=ω;subst e;exact .inl ⟨le_refl _,hd σ H p⟩
noncomputable abbrev R2:=V->V->Hp->VK->Prop
noncomputable def OpR (X:Cx)(f:Value->Value->Sem Value)(r:R2):Prop:=
 ∀(pins:List (Addr×Obj)) (s:Shared) (σ:St) (H:Hp) (x y:V) (v u:Value) (Q:VK),Inv X pins σ H s->RelV x v->RelV y u->r x y H Q ->
  wpAny (model X.prog X.w) X.A (f v u) (EP X pins σ Q) X.xe s
noncomputable def UnR (X:Cx)(f:Value->Sem Value)(r:V->Hp->VK->Prop):Prop:=
 ∀(pins:List (Addr×Obj)) (s:Shared) (σ:St) (H:Hp) (x:V) (v:Value) (Q:VK),Inv X pins σ H s->RelV x v->r x H Q ->
  wpAny (model X.prog X.w) X.A (f v) (EP X pins σ Q) X.xe s
noncomputable def cN (X:Cx)(f:Value)(r:List V->Hp->VK->Prop):Prop:=
 ∀(pins:List (Addr×Obj)) (s:Shared) (σ:St) (H:Hp) (xs:List V) (us:List Value) (Q:VK),Inv X pins σ H s->Vals xs us->r xs H Q ->
  wpAny (model X.prog X.w) X.A (call f us) (EP X pins σ Q) X.xe s
noncomputable def tOp (r:R2)(ta tb:TE):TE:=fun σ H Q=>ta σ H fun x H1=>tb σ H1 fun y H2=>r x y H2 Q
noncomputable def tUn (r:V->Hp->VK->Prop)(ta:TE):TE:=fun σ H Q=>ta σ H fun x H1=>r x H1 Q
noncomputable def rI (C:Int->Int->Prop)(g:Int->Int->V):R2:=fun x y H Q=>∃i j,x=.int i/\y=.int j/\C i j/\Q (g i j) H
noncomputable def rI0 (g:Int->Int->V):R2:=fun x y H Q=>∃i j,x=.int i/\y=.int j/\Q (g i j) H
noncomputable def rU (g:Int->V):V->Hp->VK->Prop:=fun x H Q=>∃i,x=.int i/\Q (g i) H
section
variable {X:Cx}{a b c:Expr}{ta tb tc:TE}{pos:Pos}
theorem T3 (ha:PE X a ta)(hb:PE X b tb){pins:List (Addr×Obj)}{s:Shared}{σ:St}{H:Hp}{R:V->V->Hp->Prop}(I:Inv X pins σ H s)
  (h:ta σ H fun x H1=>tb σ H1 fun y H2=>R x y H2) {Q:Value->Shared->Prop} {f:Value->Value->Sem Value}
  (hf:∀v u s2 x y H2,Inv X pins σ H2 s2->RelV x v->RelV y u->R x y H2->wpAny (model X.prog X.w) X.A (f v u) Q X.xe s2) :
  wpAny (model X.prog X.w) X.A (eval a X.env) (fun v s₁=>wpAny (model X.prog X.w) X.A (eval b X.env) (fun u s₂=>wpAny (model X.prog X.w) X.A (f v u) Q X.xe s₂) X.xe s₁) X.xe s:=by
 refine thE (ha pins s σ H _ I h) fun v s1 x H1 I1 r1 q1=>?_;refine thE (hb pins s1 σ H1 _ I1 q1) fun u s2 y H2 I2 r2 q2=>?_;exact hf v u s2 x y H2 I2 r1 r2 q2
theorem Ux {op:Operator}{r:R2}(ho:OpR X (binaryOp op) r)(ha:PE X a ta)(hb:PE X b tb):PE X (.BinOp a op b pos) (tOp r ta tb):=by
 intro pins s σ H Q I h;exact wpAny_BinOp (T3 ha hb I h fun v u s2 x y H2 I2 rx ry q=>ho pins s2 σ H2 x y v u Q I2 rx ry q)
theorem Iu {op:UnaryOp}{r:V->Hp->VK->Prop}(ho:UnR X (unaryOp op) r)(ha:PE X a ta):PE X (.UnaryOp op a pos) (tUn r ta):=by
 intro pins s σ H Q I h;exact UnaryOp_ (thE (ha pins s σ H _ I h) fun v s1 x H1 I1 r1 q1=>ho pins s1 σ H1 x v Q I1 r1 q1)
theorem opI {f:Value->Value->Sem Value}{C:Int->Int->Prop}{g:Int->Int->Int}
  (rule:∀(i j:Int)(t u:Tok)(s:Shared)(Q:Value->Shared->Prop)(E:Value->Shared->Prop),C i j->Q (.int (g i j) s.toks) { s with toks:=s.toks+1 }->wpAny (model X.prog X.w) X.A (f (.int i t) (.int j u)) Q E s) :
  OpR X f (rI C fun i j=>.int (g i j)):=by
 intro pins s σ H x y v u Q I rx ry h;obtain⟨i,j,rfl,rfl,hc,q⟩:=h;obtain⟨t,rfl⟩:=rx;obtain⟨t',rfl⟩:=ry;exact rule i j t t' s _ _ hc ⟨.int (g i j),H,I.tok _,⟨_,rfl⟩,q⟩
theorem U6 {f:Value->Value->Sem Value}{g:Int->Int->Int}
  (rule:∀(i j:Int)(t u:Tok)(s:Shared)(Q:Value->Shared->Prop)(E:Value->Shared->Prop),Q (.int (g i j) s.toks) { s with toks:=s.toks+1 }->wpAny (model X.prog X.w) X.A (f (.int i t) (.int j u)) Q E s) :
  OpR X f (rI0 fun i j=>.int (g i j)):=by
 intro pins s σ H x y v u Q I rx ry h;obtain⟨i,j,rfl,rfl,q⟩:=h;obtain⟨t,rfl⟩:=rx;obtain⟨t',rfl⟩:=ry;exact rule i j t t' s _ _ ⟨.int (g i j),H,I.tok _,⟨_,rfl⟩,q⟩
theorem Ni {f:Value->Value->Sem Value}{g:Int->Int->Bool}
  (rule:∀(i j:Int)(t u:Tok)(s:Shared)(Q:Value->Shared->Prop)(E:Value->Shared->Prop),Q (.bool (g i j)) s->wpAny (model X.prog X.w) X.A (f (.int i t) (.int j u)) Q E s) :
  OpR X f (rI0 fun i j=>.bl (g i j)):=by
 intro pins s σ H x y v u Q I rx ry h;obtain⟨i,j,rfl,rfl,q⟩:=h;obtain⟨t,rfl⟩:=rx;obtain⟨t',rfl⟩:=ry;exact rule i j t t' s _ _ ⟨.bl (g i j),H,I,rfl,q⟩
noncomputable def Ua (i j:Int):Prop:=0<=j/\j<=1000000/\i.natAbs<2^64
noncomputable def FZ (i j:Int):Prop:=(-(2^64)<i/\i<2^64)\/(-(2^64)<j/\j<2^64)
theorem FZ.ok {i j:Int}(h:FZ i j):IntMulOk i j:=by
 rcases h with⟨h1,h2⟩|⟨h1,h2⟩
 ·exact .of_left (intBits_le_64 h1 h2)
 exact .of_right (intBits_le_64 h1 h2)
theorem RV:OpR X (binaryOp .Add) (rI0 fun i j=>.int (i+j)):=U6 fun _ _ _ _ _ _ _ q=>add_int q
theorem nH:OpR X (binaryOp .Sub) (rI0 fun i j=>.int (i-j)):=U6 fun _ _ _ _ _ _ _ q=>sub_int q
theorem RP:OpR X (binaryOp .Mult) (rI FZ fun i j=>.int (i*j)):=opI fun _ _ _ _ _ _ _ hc q=>mul_int q hc.ok
theorem fQ:OpR X (binaryOp .Mod) (rI (fun _ j=>0<j) fun i j=>.int (i%j)):=opI fun i j _ _ _ _ _ hc q=>by
 have h1:(0:Int)<j:=hc;exact mod_int' ω (by rw[Int.fmod_eq_emod_of_nonneg i ω];exact q)
theorem lB:OpR X (binaryOp .Pow) (rI Ua fun i j=>.int (i^j.toNat)):=opI fun _ _ _ _ _ _ _ hc q=>pow_int_small hc.1 hc.2.1 hc.2.2 q
theorem RL:OpR X (binaryOp .LShift) (rI Ua fun i j=>.int (i*2^j.toNat)):=opI fun _ _ _ _ _ _ _ hc q=>lshift_int_small hc.1 hc.2.1 hc.2.2 q
theorem unI {f:Value->Sem Value}{g:Int->Int}
  (rule:∀(i:Int)(t:Tok)(s:Shared)(Q:Value->Shared->Prop)(E:Value->Shared->Prop),Q (.int (g i) s.toks) { s with toks:=s.toks+1 }->wpAny (model X.prog X.w) X.A (f (.int i t)) Q E s) :
  UnR X f (rU fun i=>.int (g i)):=by
 intro pins s σ H x v Q I rx h;obtain⟨i,rfl,q⟩:=h;obtain⟨t,rfl⟩:=rx;exact rule i t s _ _ ⟨.int (g i),H,I.tok _,⟨_,rfl⟩,q⟩
theorem uz:UnR X (unaryOp .USub) (rU fun i=>.int (-i)):=unI fun _ _ _ _ _ q=>neg_int q
end
noncomputable def DK:V->V->Bool
 | .non,.non=>true | .non,.int _=>true | .int _,.non=>true | .non,.bl _=>true | .bl _,.non=>true | .non,.str _=>true | .str _,.non=>true
 | .int _,.int _=>true | .bl _,.bl _=>true | .str _,.str _=>true | .byt _,.byt _=>true
 | .int _,.str _=>true | .str _,.int _=>true | .bl _,.str _=>true | .str _,.bl _=>true
 | _,_=>false
noncomputable def rEq:R2:=fun x y H Q=>DK x y=true/\Q (.bl (decide (x=y))) H
noncomputable def rNe:R2:=fun x y H Q=>DK x y=true/\Q (.bl (!decide (x=y))) H
theorem Di {i j:Int}:decide (V.int i=V.int j)=(i == j):=by
 rw[Bool.eq_iff_iff];simp
theorem J8 {i j:Bool}:decide (V.bl i=V.bl j)=(i == j):=by
 rw[Bool.eq_iff_iff];simp
theorem Dh {i j:Str}:decide (V.str i=V.str j)=(i == j):=by
 rw[Bool.eq_iff_iff];simp
theorem Dj {i j:Array UInt8}:decide (V.byt i=V.byt j)=(i.toList == j.toList):=by
 rw[Bool.eq_iff_iff];cases i;cases j;simp
section
variable {X:Cx}{a b c:Expr}{ta tb tc:TE}{pos:Pos}
theorem bK {pins:List (Addr×Obj)}{σ:St}{H:Hp}{s:Shared}{Q:VK}{k k':Bool}(I:Inv X pins σ H s)(q:Q (.bl k) H)(e:k=k'):EP X pins σ Q (.bool k') s:=by
 subst e;exact⟨.bl k,H,I,rfl,q⟩
theorem U5:OpR X (compareOp .Eq) rEq:=by
 intro pins s σ H x y v u Q I rx ry h;obtain⟨hs,q⟩:=h;cases x with
 | non=>
  cases rx;cases y with
  | non=>cases ry;exact PySem.EqNone.eq_none_none (bK I q (by simp))
  | bl j=>cases ry;exact PySem.EqNone.eq_none_bool (bK I q (by simp))
  | int j=>obtain⟨t',rfl⟩:=ry;exact PySem.EqNone.eq_none_int (bK I q (by simp))
  | str j=>obtain⟨t',rfl⟩:=ry;exact PySem.EqNone.eq_none_str (bK I q (by simp))
  | _=>exact absurd (show false=true from hs) Bool.false_ne_true
 | bl i=>
  cases rx;cases y with
  | non=>cases ry;exact PySem.EqNone.eq_bool_none (bK I q (by simp))
  | bl j=>cases ry;exact eq_bool (bK I q J8)
  | str j=>obtain⟨t',rfl⟩:=ry;exact PySem.EqMixed.eq_bool_str (bK I q (by simp))
  | _=>exact absurd (show false=true from hs) Bool.false_ne_true
 | int i=>
  obtain⟨t,rfl⟩:=rx;cases y with
  | non=>cases ry;exact PySem.EqNone.eq_int_none (bK I q (by simp))
  | int j=>obtain⟨t',rfl⟩:=ry;exact eq_int (bK I q Di)
  | str j=>obtain⟨t',rfl⟩:=ry;exact PySem.EqMixed.eq_int_str (bK I q (by simp))
  | _=>exact absurd (show false=true from hs) Bool.false_ne_true
 | str i=>
  obtain⟨t,rfl⟩:=rx;cases y with
  | non=>cases ry;exact PySem.EqNone.eq_str_none (bK I q (by simp))
  | bl j=>cases ry;exact PySem.EqMixed.eq_str_bool (bK I q (by simp))
  | int j=>obtain⟨t',rfl⟩:=ry;exact PySem.EqMixed.eq_str_int (bK I q (by simp))
  | str j=>obtain⟨t',rfl⟩:=ry;exact eq_str (bK I q Dh)
  | _=>exact absurd (show false=true from hs) Bool.false_ne_true
 | byt i=>
  obtain⟨t,rfl⟩:=rx;cases y with
  | byt j=>obtain⟨t',rfl⟩:=ry;exact PySem.W.eq_bytes (bK I q Dj)
  | _=>exact absurd (show false=true from hs) Bool.false_ne_true
 | _=>cases y <;> exact absurd (show false=true from hs) Bool.false_ne_true
theorem U3:OpR X (compareOp .NotEq) rNe:=by
 intro pins s σ H x y v u Q I rx ry h;obtain⟨hs,q⟩:=h;cases x with
 | non=>
  cases rx;cases y with
  | non=>cases ry;exact PySem.EqNone.ne_none_none (bK I q (by simp))
  | bl j=>cases ry;exact PySem.EqNone.ne_none_bool (bK I q (by simp))
  | int j=>obtain⟨t',rfl⟩:=ry;exact PySem.EqNone.ne_none_int (bK I q (by simp))
  | str j=>obtain⟨t',rfl⟩:=ry;exact PySem.EqNone.ne_none_str (bK I q (by simp))
  | _=>exact absurd (show false=true from hs) Bool.false_ne_true
 | bl i=>
  cases rx;cases y with
  | non=>cases ry;exact PySem.EqNone.ne_bool_none (bK I q (by simp))
  | bl j=>cases ry;exact ne_bool (bK I q (congrArg not J8))
  | str j=>obtain⟨t',rfl⟩:=ry;exact PySem.EqMixed.ne_bool_str (bK I q (by simp))
  | _=>exact absurd (show false=true from hs) Bool.false_ne_true
 | int i=>
  obtain⟨t,rfl⟩:=rx;cases y with
  | non=>cases ry;exact PySem.EqNone.ne_int_none (bK I q (by simp))
  | int j=>obtain⟨t',rfl⟩:=ry;exact ne_int (bK I q (congrArg not Di))
  | str j=>obtain⟨t',rfl⟩:=ry;exact PySem.EqMixed.ne_int_str (bK I q (by simp))
  | _=>exact absurd (show false=true from hs) Bool.false_ne_true
 | str i=>
  obtain⟨t,rfl⟩:=rx;cases y with
  | non=>cases ry;exact PySem.EqNone.ne_str_none (bK I q (by simp))
  | bl j=>cases ry;exact PySem.EqMixed.ne_str_bool (bK I q (by simp))
  | int j=>obtain⟨t',rfl⟩:=ry;exact PySem.EqMixed.ne_str_int (bK I q (by simp))
  | str j=>obtain⟨t',rfl⟩:=ry;exact ne_str (bK I q (congrArg not Dh))
  | _=>exact absurd (show false=true from hs) Bool.false_ne_true
 | byt i=>
  obtain⟨t,rfl⟩:=rx;cases y with
  | byt j=>obtain⟨t',rfl⟩:=ry;exact PySem.W.ne_bytes (bK I q (congrArg not Dj))
  | _=>exact absurd (show false=true from hs) Bool.false_ne_true
 | _=>cases y <;> exact absurd (show false=true from hs) Bool.false_ne_true
theorem Ja:OpR X (compareOp .Lt) (rI0 fun i j=>.bl (decide (i<j))):=Ni fun _ _ _ _ _ _ _ q=>lt_int q
theorem Pq:OpR X (compareOp .LtE) (rI0 fun i j=>.bl (decide (i<=j))):=Ni fun _ _ _ _ _ _ _ q=>le_int q
theorem Pr:OpR X (compareOp .Gt) (rI0 fun i j=>.bl (decide (j<i))):=Ni fun _ _ _ _ _ _ _ q=>gt_int q
theorem U4:OpR X (compareOp .GtE) (rI0 fun i j=>.bl (decide (j<=i))):=Ni fun _ _ _ _ _ _ _ q=>ge_int q
theorem RQ:OpR X (compareOp .Is) (fun x y H Q=>y=.non/\Q (.bl (decide (x=.non))) H):=by
 intro pins s σ H x y v u Q I rx ry h;obtain⟨rfl,q⟩:=h;cases ry;refine is_none_gen (bK I q ?_);cases x <;> first
  | (cases rx;rfl)
  | (obtain⟨t,rfl⟩:=rx;rfl)
theorem bD (b:Expr){op:CmpOp}(h:op≠.In:=by decide)(h2:op≠.NotIn:=by decide):behindInMarks op b=false:=by
 have e1:(op == CmpOp.In)=false:=by cases op <;> first|rfl|exact absurd rfl h
 have e2:(op == CmpOp.NotIn)=false:=by cases op <;> first|rfl|exact absurd rfl h2
 cases b <;> simp [behindInMarks,e1,e2]
theorem M8 {op:CmpOp}{r:R2}(ho:OpR X (compareOp op) r)(ha:PE X a ta)(hb:PE X b tb)(hm:behindInMarks op b=false):PE X (.Compare a [op] [b] pos) (tOp r ta tb):=by
 intro pins s σ H Q I h;exact wpAny_Compare1 (T3 ha hb I h fun v u s2 x y H2 I2 rx ry q=>ho pins s2 σ H2 x y v u Q I2 rx ry q) hm
noncomputable def Gn (t:TE):TT:=fun σ H Q=>t σ H fun x H'=>∃k,x=.bl k/\Q k H'
theorem Mj {op:CmpOp}{r:R2}(ho:OpR X (compareOp op) r)(ha:PE X a ta)(hb:PE X b tb)(hm:behindInMarks op b=false):PT X (.Compare a [op] [b] pos) (Gn (tOp r ta tb)):=by
 intro pins s σ H Q I h;refine wpAny_isTrue_Compare1 (thE (ha pins s σ H _ I h) fun v s1 x H1 I1 r1 q1=>thE (hb pins s1 σ H1 _ I1 q1) fun u s2 y H2 I2 r2 q2=>
  thn (ho pins s2 σ H2 x y v u _ I2 r1 r2 q2) fun c s3 ⟨z,H3,I3,r3,k,e,q3⟩=>?_) hm
 subst e;cases r3;exact wpAny_truthy_bool ⟨H3,I3,q3⟩
theorem vz:(sizeLine:Nat)<2^63:=by rw[sizeLine_eq];decide
theorem vals1 {x:V}{us:List Value}(r:Vals [x] us):∃u,us=[u]/\RelV x u:=by
 cases r with
 | cons r1 r2=>cases r2;exact⟨_,rfl,r1⟩
theorem vals2 {x y:V}{us:List Value}(r:Vals [x,y] us):∃u w',us=[u,w']/\RelV x u/\RelV y w':=by
 cases r with
 | cons r1 r2=>
  cases r2 with
  | cons r3 r4=>cases r4;exact⟨_,_,rfl,r1,r3⟩
theorem yK:cN X (.builtin "abs") (fun xs H Q=>∃i,xs=[.int i]/\Q (.int (if i<0 then -i else i)) H):=by
 intro pins s σ H xs us Q I r h;obtain⟨i,rfl,q⟩:=h;obtain⟨u,rfl,t,rfl⟩:=vals1 r;exact call_abs_int fun u tk=>⟨.int (if i<0 then -i else i),H,I.tok _,⟨_,rfl⟩,q⟩
theorem Ft (hc:X.calm=true):cN X (.builtin "max") (fun xs H Q=>∃i j,xs=[.int i,.int j]/\Q (.int (if j>i then j else i)) H):=by
 intro pins s σ H xs us Q I r h;obtain⟨i,j,rfl,q⟩:=h;obtain⟨u,w',rfl,⟨t,rfl⟩,⟨t',rfl⟩⟩:=vals2 r;refine max_two_ints (I.ok.hd hc) fun h' tk k=>⟨_,H,I.kept k,?_,q⟩;by_cases hj:j>i
 ·rw[if_pos hj,if_pos hj];exact⟨_,rfl⟩
 rw[if_neg hj,if_neg hj];exact⟨_,rfl⟩
theorem Fp (hc:X.calm=true):cN X (.builtin "min") (fun xs H Q=>∃i j,xs=[.int i,.int j]/\Q (.int (if j<i then j else i)) H):=by
 intro pins s σ H xs us Q I r h;obtain⟨i,j,rfl,q⟩:=h;obtain⟨u,w',rfl,⟨t,rfl⟩,⟨t',rfl⟩⟩:=vals2 r;refine min_two_ints (I.ok.hd hc) fun h' tk k=>⟨_,H,I.kept k,?_,q⟩;by_cases hj:j<i
 ·rw[if_pos hj,if_pos hj];exact⟨_,rfl⟩
 rw[if_neg hj,if_neg hj];exact⟨_,rfl⟩
theorem ug:cN X (.type "int") (fun xs H Q=>(∃i,xs=[.int i]/\Q (.int i) H)\/∃k,xs=[.bl k]/\Q (.int (if k then 1 else 0)) H):=by
 intro pins s σ H xs us Q I r h;rcases h with⟨i,rfl,q⟩|⟨k,rfl,q⟩
 ·obtain⟨u,rfl,t,rfl⟩:=vals1 r;exact call_int_int ⟨.int i,H,I,⟨_,rfl⟩,q⟩
 obtain⟨u,rfl,r1⟩:=vals1 r;cases r1;exact call_int_bool ⟨.int (if k then 1 else 0),H,I.tok _,⟨_,rfl⟩,q⟩
end
structure T8 (h:Heap)(x dx C:Addr)(mA:Str->Option Value):Prop where
 obj:h.get? x=some (PySem.W.instObj C dx)
 ns:h.Ns1 dx mA
 ne:dx≠x
theorem Em {h:Heap}{dx:Addr}{mA:Str->Option Value}(n:h.Ns1 dx mA):∃od,h.get? dx=some od/\∀name,PySem.W.lookIn name od=some (mA name):=by
 obtain⟨o,es,ep,ho,hd,hk,_,hm⟩:=n;refine⟨o,ho,fun name=>?_⟩;have e:=hm name;unfold nsFind findBy at e;rw[<- Array.find?_toList] at e;unfold PySem.W.lookIn;rw[hd];dsimp only;split
 ·rename_i y q;rw[q] at e;exact congrArg some e
 rename_i q;rw[q] at e;have a:es.toList.any (·.refKey)=false:=by
  rw[List.any_eq_false];intro y hy;obtain⟨z,t,hkey⟩:=hk y (Array.mem_toList_iff.mp hy);simp [DictEntry.refKey,hkey]
 have a':¬es.toList.any (·.refKey)=true:=by rw[a];exact Bool.false_ne_true
 rw[if_neg a'];exact congrArg some e
theorem T8.look {h:Heap}{x dx C:Addr}{mA:Str->Option Value}(I:T8 h x dx C mA):∃od,PySem.W.InstAt h x (PySem.W.instObj C dx) C (some od)/\∀name,PySem.W.lookIn name od=some (mA name):=
 let ⟨od,ho,hl⟩:=Em I.ns
 ⟨od,⟨I.obj,rfl,rfl,ho⟩,hl⟩
theorem v5.some_of {v:V}{o:Option Value}(r:v5 (some v) o):∃u,o=some u/\RelV v u:=by
 cases o with
 | none=>exact(show False from r).elim
 | some u=>exact⟨u,rfl,r⟩
section
variable {P:Program}{w:World}{H H':Hp}{h h':Heap}{a C dx:Addr}{fs fs':List (Str×V)}
theorem Oh (hok:HOk P w H h)(e:H a=some (.ins C dx fs)):∃mA,T8 h a dx C mA/\(∀f,v5 (fs.lookup f) (mA f))/\PySem.Within mA (fs.map (·.1))/\fs.length<=1000/\H dx=some (.own a):=by
 obtain⟨d,z,ne,ob,mA,n,r,q⟩:=(show bI P w H h a (.ins C dx fs) from hok a _ e);exact⟨mA,⟨ob,n,ne⟩,r,q,z,d⟩
end
structure Cls (K:PySem.W.Frag)(C:Addr):Prop where
 pg:PySem.W.plainGet K C Str.empty=true
 hd:PySem.W.hasDictIn K C=true
 po:PySem.W.plainOver K C=true
 sa:PySem.W.findIn K (.ref C) "__setattr__" = some (some (.builtin "object.__setattr__"))
theorem Cls.get {K:PySem.W.Frag}{C:Addr}(c:Cls K C)(f:Str):PySem.W.plainGet K C f=true:=c.pg
section
variable {X:Cx}{pins:List (Addr×Obj)}{σ:St}{H:Hp}{s:Shared}{A:Around}{E:Value->Shared->Prop}{Q:Value->Shared->Prop}{c:Value}{b:Bool}
inductive jW (K:PySem.W.Frag)(H:Hp):V->Value->Prop where
 | non:jW K H .non (.type "NoneType")
 | bl (x:Bool):jW K H (.bl x) (.type "bool")
 | int (i:Int):jW K H (.int i) (.type "int")
 | str (x:Str):jW K H (.str x) (.type "str")
 | flt (x:UInt64):jW K H (.flt x) (.type "float")
 | lst {a:Addr} {xs:List V} (e:H a=some (.lst xs)):jW K H (.ref a) (.type "list")
 | frz {a:Addr} {o:Obj} {xs:List V} (e:H a=some (.frz o (.lst xs))):jW K H (.ref a) (.type "list")
 | tup {a:Addr} {xs:List V} (e:H a=some (.tup xs)):jW K H (.ref a) (.type "tuple")
 | dK {a:Addr} {kvs:List (Key×V)} (e:H a=some (.dK kvs)):jW K H (.ref a) (.type "dict")
 | dT {a:Addr} {kvs:List (List Key×V)} (e:H a=some (.dT kvs)):jW K H (.ref a) (.type "dict")
 | ins {a C dx:Addr} {fs:List (Str×V)} (e:H a=some (.ins C dx fs)) (cl:Cls K C) (ha:PySem.W.findIn K (.ref C) "__class__" = some (some (.builtin "object.__class__")))
   (hn:PySem.W.specialIn K (.builtin "object.__class__") "__get__" = some (some (.builtin "getset_descriptor.__get__"))) (htk:PySem.W.takesIn K (.builtin "object.__class__")=some true)
   (hm:PySem.W.mroIn K C (.type "object")=some true):jW K H (.ref a) (.ref C)
theorem Es {x:V}{u t:Value}(I:Inv X pins σ H s)(rx:RelV x u)(ty:jW X.K H x t)(e:kitOne X.K t c=some b)(h:∀tk,Q (.bool b) { s with toks:=tk }) :
  wpAny (model X.prog X.w) A (call (.builtin "isinstance") [u,c]) Q E s:=by
 cases ty with
 | non=>cases (show u=Value.none from rx);exact PySem.W.kia_one PySem.W.kitx_none I.kIn True.intro e (fun z=>nomatch z) h
 | bl y=>cases (show u=Value.bool y from rx);exact PySem.W.kia_one PySem.W.kitx_bool I.kIn True.intro e (fun z=>nomatch z) h
 | int i=>obtain⟨t,q⟩:=(show ∃t,u=Value.int i t from rx);cases q;exact PySem.W.kia_one PySem.W.kitx_int I.kIn True.intro e (fun z=>nomatch z) h
 | str y=>obtain⟨t,q⟩:=(show ∃t,u=Value.str y t from rx);cases q;exact PySem.W.kia_one PySem.W.kitx_str I.kIn True.intro e (fun z=>nomatch z) h
 | flt y=>obtain⟨t,q⟩:=(show ∃t,u=Value.float y t from rx);cases q;exact PySem.W.kia_one PySem.W.kitx_float I.kIn True.intro e (fun z=>nomatch z) h
 | @lst a xs ea=>
  cases (show u=Value.ref a from rx);obtain⟨_,_,n,_,h1⟩:=(show bI X.prog X.w H s.heap a (.lst xs) from I.hok a _ ea);exact PySem.W.kia_one PySem.W.kitx_list I.kIn ⟨_,h1,rfl⟩ e (fun z=>nomatch z) h
 | @frz a ob xs ea=>
  cases (show u=Value.ref a from rx);obtain⟨_,_,_,n,_,h1⟩:=(show bI X.prog X.w H s.heap a (.frz ob (.lst xs)) from I.hok a _ ea);exact PySem.W.kia_one PySem.W.kitx_list I.kIn ⟨_,h1,rfl⟩ e (fun z=>nomatch z) h
 | @tup a xs ea=>
  cases (show u=Value.ref a from rx);obtain⟨_,_,_,p⟩:=(show bI X.prog X.w H s.heap a (.tup xs) from I.hok a _ ea);obtain⟨o,h1,h2,_⟩:=p;exact PySem.W.kia_one PySem.W.kitx_tuple I.kIn ⟨o,h1,h2⟩ e (fun z=>nomatch z) h
 | @dK a kvs ea=>
  cases (show u=Value.ref a from rx);obtain⟨_,_,vs,_,p⟩:=(show bI X.prog X.w H s.heap a (.dK kvs) from I.hok a _ ea);obtain⟨o,es,ep,h1,h2,_⟩:=p;exact PySem.W.kia_one PySem.W.kitx_dict I.kIn ⟨o,h1,h2.1⟩ e (fun z=>nomatch z) h
 | @dT a kvs ea=>
  cases (show u=Value.ref a from rx);obtain⟨_,_,xs,_,o,es,ep,h1,h2,_⟩:=(show bI X.prog X.w H s.heap a (.dT kvs) from I.hok a _ ea);exact PySem.W.kia_one PySem.W.kitx_dict I.kIn ⟨o,h1,h2.1⟩ e (fun z=>nomatch z) h
 | @ins a C dx fs ea cl ha hn htk hm=>
  cases (show u=Value.ref a from rx);obtain⟨mA,O,_⟩:=Oh I.hok ea;obtain⟨od,J,_⟩:=O.look;exact PySem.W.kia_one (PySem.W.kitx_own (cl.get _) cl.hd ha hn htk hm) I.kIn J e (fun z=>nomatch z) h
end
structure dN (k:Nat)(A:Around):Prop where
 hd:A.handled=none
 dp:A.depth+3*k+5<recursionLimit
 un:A.units+16*k+200<cLine
 gd:A.guards=some []
theorem dN.mono {j k:Nat}{A:Around}(r:dN k A)(h:j<=k):dN j A:=⟨r.hd,by have:=r.dp;omega,by have:=r.un;omega,r.gd⟩
theorem dN.deeper {k:Nat}{A:Around}(r:dN (k+1) A)(env:Env):dN k (A.deeper env):=
 ⟨r.hd,by have:=r.dp;show A.depth+1+3*k+5<_;omega,by have:=r.un;show A.units+3+16*k+200<_;omega,r.gd⟩
theorem dN.in1 {k:Nat}{A:Around}(r:dN (k+1) A):dN k A.in1:=
 ⟨r.hd,by have:=r.dp;show A.depth+3*k+5<_;omega,by have:=r.un;show A.units+1+16*k+200<_;omega,r.gd⟩
theorem dN.depth {k:Nat}{A:Around}(r:dN k A):A.depth<recursionLimit:=by have:=r.dp;omega
theorem dN.cj {k:Nat}{A:Around}(r:dN k A):A.units<cLine:=by have:=r.un;omega
noncomputable def Qi:TA:=fun _ H Q=>Q [] H
noncomputable def GD (ta:TE)(tr:TA):TA:=fun σ H Q=>ta σ H fun x H1=>tr σ H1 fun xs H2=>Q (x::xs) H2
section
variable {X:Cx}{e:Expr}{es:List Expr}{te:TE}{t:TA}{pos:Pos}
theorem RJ:PA X [] Qi:=fun _ _ _ _ H Q I h=>Calls.spliced_nil ⟨[],H,I,.nil,h⟩
theorem Ng (ha:PE X e te)(hr:PA X es t)(hs:starEach (e::es) X.env=(false,eval e X.env)::starEach es X.env:=by rfl):PA X (e::es) (GD te t):=by
 intro pos pins s σ H Q I h;rw[hs];show wpAny _ _ (spliced ((false,eval e X.env)::backTo pos (starEach es X.env))) _ _ s;refine Calls.spliced_cons (thE (ha pins s σ H _ I h) fun u s1 x H1 I1 r1 q1=>?_);exact thA (hr pos pins s1 σ H1 _ I1 q1) fun us s2 xs H2 I2 r2 q2=>⟨x::xs,H2,I2,.cons r1 r2,q2⟩
noncomputable def Qc (t:TA):TE:=fun σ H Q=>t σ H fun xs H1=>xs.length<=sizeLine/\∀p,H1 p=none->Q (.ref p) (upd H1 p (.tup xs))
noncomputable def Qj (t:TA):TE:=fun σ H Q=>t σ H fun xs H1=>xs.length<=sizeLine/\∀p,H1 p=none->Q (.ref p) (upd H1 p (.lst xs))
theorem Rr {x1}(h:PA X es t):PE X (.Tuple es x1 pos) (Qc t):=by
 intro pins s σ H Q I hq;refine wpAny_Tuple_spliced (thn (h pos pins s σ H _ I hq) fun us s1 ⟨xs,H1,I1,r,z,q⟩=>⟨by rw[<- r.length];exact z,?_⟩);have hf:H1 s1.heap.objs.size=none:=I1.hok.fresh (le_refl _);refine⟨.ref s1.heap.objs.size,upd H1 s1.heap.objs.size (.tup xs),I1.laid (t':=s1.toks) (fun b u e=>get?_push_of_some _ e) (le_refl _) ?_,rfl,q _ hf⟩;exact⟨z,us,r,⟨_,get?_push_size _ rfl,rfl,_,rfl⟩⟩
theorem Rz (h:PA X es t):PE X (.List es pos) (Qj t):=by
 intro pins s σ H Q I hq;refine wpAny_List_spliced (thn (h pos pins s σ H _ I hq) fun us s1 ⟨xs,H1,I1,r,z,q⟩=>⟨by rw[<- r.length];exact z,?_⟩);have hf:H1 s1.heap.objs.size=none:=I1.hok.fresh (le_refl _);refine⟨.ref s1.heap.objs.size,upd H1 s1.heap.objs.size (.lst xs),I1.laid (t':=s1.toks) (fun b u e=>get?_push_of_some _ e) (le_refl _) ?_,rfl,q _ hf⟩;exact⟨z,us,0,r,get?_push_size _ rfl⟩
end
noncomputable abbrev Sp:=List V->Hp->VK->XK->Prop
noncomputable abbrev CXT:=List Env->Hp->Shared->XK->Value->Shared->Prop
structure yP (P:Program)(w:World)(K:PySem.W.Frag)(mg:Str->Option Value)(base:Heap)(A:Around)(outer:List Env)(s:Shared)(H:Hp):Prop where
 frames:A.frames=some outer
 mod:Mod K mg base
 bs:∀b o,base.get? b=some o->s.heap.get? b=some o/\H b=none
 bsz:base.objs.size<=s.heap.objs.size
 nU:s.heap.FunFrames base outer
 frf:∀b∈frs outer,H b=none
 hok:HOk P w H s.heap
 bare:AllBare s.gens
noncomputable def CE (outer:List Env)(P:Program)(w:World)(H:Hp)(s:Shared)(Q:VK)(u:Value)(s':Shared):Prop:=
 ∃v H',s'.os=s.os/\AllBare s'.gens/\Un (frs outer) [] H H' s.heap s'.heap/\HOk P w H' s'.heap/\RelV v u/\Q v H'
noncomputable def CR (CX:CXT)(outer:List Env)(P:Program)(w:World)(H:Hp)(s:Shared)(Q:VK)(E:XK)(r:Result)(s':Shared):Prop:=
 match r with
 | .ok (.ret u)=>CE outer P w H s Q u s'
 | .ok _=>False
 | .error e=>CX outer H s E e s'
structure dW (P:Program)(w:World)(K:PySem.W.Frag)(mg:Str->Option Value)(base:Heap)(CX:CXT)(k:Nat)(f:Addr)(fd:FuncData)(ps:List Str)(sp:Sp):Prop where
 len:∀vs H Q E,sp vs H Q E->vs.length=ps.length
 run:∀(A:Around)(outer:List Env)(s:Shared)(H:Hp)(args:Args)(us:List Value)(vs:List V)(Q:VK)(E:XK),dN k A->yP P w K mg base A outer s H->BindsTo s fd args (ps.zip us)->Vals vs us->sp vs H Q E ->
  codeAny (model P w) A (.call (.ref f) args) (CR CX outer P w H s Q E) s
theorem yP.in1 {P:Program}{w:World}{K:PySem.W.Frag}{mg:Str->Option Value}{base:Heap}{A:Around}{outer:List Env}{s:Shared}{H:Hp}(e:yP P w K mg base A outer s H) :
  yP P w K mg base A.in1 outer s H:=⟨e.frames,e.mod,e.bs,e.bsz,e.nU,e.frf,e.hok,e.bare⟩
section
variable {X:Cx}{pins:List (Addr×Obj)}{σ:St}{H:Hp}{s s':Shared}
theorem Inv.env0 (I:Inv X pins σ H s):yP X.prog X.w X.K X.mg X.base X.A X.stack s H:=
 ⟨I.ok.frames,I.ok.mod,I.bs,le_trans I.ok.bsz I.sz,I.stack,I.Bv,I.hok,I.bare⟩
theorem Inv.after {Q:VK}{u:Value}(I:Inv X pins σ H s)(h:CE X.stack X.prog X.w H s Q u s'):EP X pins σ Q u s':=by
 obtain⟨v,H',os,bare,un,hok,r,q⟩:=h;obtain⟨hh,g,d,t,os'⟩:=s';obtain rfl:os'=s.os:=os;exact⟨v,H',I.call (h':=hh) (g':=g) (d':=d) (t':=t) (ch:=[]) un hok bare (fun b z=>absurd z (by simp)),r,q⟩
end
noncomputable def wB (sp:Sp)(dvs:List V)(E:XK)(t:TA):TE:=fun σ H Q=>t σ H fun vs H1=>sp (vs++dvs) H1 Q E
noncomputable def Binds (K:PySem.W.Frag)(fd:FuncData)(ps:List Str)(ds:List Value):Prop:=
 ∀(s:Shared)(us:List Value),K.In s.heap->(us++ds).length=ps.length->BindsTo s fd ⟨us,[]⟩ (ps.zip (us++ds))
theorem Binds.all {K:PySem.W.Frag}{fd:FuncData}{ps:List Str}(h:∀us:List Value,us.length=ps.length->bindArgs fd ⟨us,[]⟩=pure (ps.zip us)):Binds K fd ps []:=fun s us _ hl=>by
 rw[append_nil] at hl |-;exact .of_eq (h us hl)
noncomputable def Bm (CX:CXT)(X:Cx)(E:XK):Prop:=∀(pins:List (Addr×Obj)) (σ:St) (H:Hp) (s:Shared) (e:Value) (s':Shared),Inv X pins σ H s->CX X.stack H s E e s'->X.xe e s'
section
variable {X:Cx}{CX:CXT}{k:Nat}{f C:Addr}{fd:FuncData}{ps:List Str}{sp:Sp}{dvs:List V}{ds:List Value}{E:XK}{x m:Str}{p pos apos:Pos}{e o:Expr}{es:List Expr}{ta:TE}{t:TA}
theorem Qu {pins:List (Addr×Obj)}{σ:St}{H:Hp}{s:Shared}{Q:VK}{us:List Value}{vs:List V}(F:dW X.prog X.w X.K X.mg X.base CX k f fd ps sp)(hr:dN k X.A)(hb:Binds X.K fd ps ds)(hd:Vals dvs ds)(hx:Bm CX X E)
  (I:Inv X pins σ H s) (r:Vals vs us) (h:sp (vs++dvs) H Q E):wpAny (model X.prog X.w) X.A (call (.ref f) us) (EP X pins σ Q) X.xe s:=by
 have r2:Vals (vs++dvs) (us++ds):=r.append hd;have hl:(us++ds).length=ps.length:=by rw[<- r2.length];exact F.len _ _ _ _ h
 refine wpAny_call (codeAny_mono (F.run X.A X.stack s H ⟨us,[]⟩ (us++ds) (vs++dvs) Q E hr I.env0 (hb s us I.kIn hl) r2 h) fun r s' hq=>?_);cases r with
 | error e=>exact hx pins σ H s e s' I hq
 | ok fl=>
  cases fl with
  | ret u=>exact I.after hq
  | next=>exact False.elim hq
  | brk=>exact False.elim hq
  | cont=>exact False.elim hq
theorem M9 (F:dW X.prog X.w X.K X.mg X.base CX k f fd ps sp)(hr:dN k X.A)(hg:Gl X x)(hm:X.mg x=some (.ref f))(hk:keepIn X.K (.ref f)=true)(hb:Binds X.K fd ps ds)(hd:Vals dvs ds)(hx:Bm CX X E)
  (ha:PA X (e::es) t) (hdb:(x == ("__debug__" : Str))=false:=by decide) (he:starEach (e::es) X.env=(false,eval e X.env)::starEach es X.env:=by rfl) (hpl:(backTo pos (starEach es X.env)).any (·.1)=false:=by rfl) :
  PE X (.Call (.Name x p) (e::es) [] pos) (wB sp dvs E t):=by
 intro pins s σ H Q I h;refine wpAny_Call_Name_kw (Cv I hg hm ?_ hdb);refine PySem.W.callWith_K (h₀:=X.base) I.ok.mod.kin hk (thA (ha pos pins s σ H _ I h) fun us s1 vs H1 I1 r q=>⟨I1.kIn,?_⟩) he hpl;exact Qu F hr hb hd hx I1 r q
end
structure bF (N P:List Str)(sc:Scope):Prop where
 kind:sc.kind=.function
 co:sc.isCoroutine=false
 gen:sc.isGenerator=false
 nd:N.Nodup
 pre:N.take P.length=P
 par:∀x∈P,sc.names.lookup x=some .local\/sc.names.lookup x=some .cell
 nofree:∀y∈sc.names,y.2≠.free
theorem uo {kindOf:Str->Option NameKind}{x:Str}:∀{binds:List (Str×Value)}{m:Str->Option Value},(∀v,(x,v)∉binds)->bindL kindOf binds m x=m x
 | [],_,_=>rfl
 | (n,v)::r,m,h=>by
  unfold bindL;rw[uo fun w hw=>h w (mem_cons_of_mem _ hw)];split
  ·have:x≠n:=by rintro rfl;exact h v mem_cons_self
   simp [this]
  rfl
theorem ur {kindOf:Str->Option NameKind}{x:Str}:∀{binds:List (Str×Value)}{m:Str->Option Value},(∀v,(x,v)∉binds)->bindC kindOf binds m x=m x
 | [],_,_=>rfl
 | (n,v)::r,m,h=>by
  unfold bindC;rw[ur fun w hw=>h w (mem_cons_of_mem _ hw)];split
  ·rfl
  have:x≠n:=by rintro rfl;exact h v mem_cons_self
  simp [this]
theorem uq {kindOf:Str->Option NameKind}{x:Str}{v:Value}:∀{P:List Str}{vs:List Value}{i:Nat}{m:Str->Option Value},P.Nodup->P[i]?=some x->vs[i]?=some v->kindOf x=some .local ->
  bindL kindOf (P.zip vs) m x=some v
 | [],_,_,_,_,h,_,_=>by simp at h
 | _::_,[],_,_,_,_,h,_=>by simp at h
 | p::P,w::vs,0,m,nd,h1,h2,hk=>by
  simp at h1 h2;subst h1;subst h2;show bindL kindOf ((p,w)::P.zip vs) m p=_;unfold bindL;rw[uo fun v hv=>(nodup_cons.mp nd).1 (of_mem_zip hv).1,if_pos hk];simp
 | p::P,w::vs,i+1,m,nd,h1,h2,hk=>by
  show bindL kindOf ((p,w)::P.zip vs) m x=_;unfold bindL;exact uq (i:=i) (nodup_cons.mp nd).2 (by simpa using h1) (by simpa using h2) hk
theorem uw {kindOf:Str->Option NameKind}{x:Str}{v:Value}:∀{P:List Str}{vs:List Value}{i:Nat}{m:Str->Option Value},P.Nodup->P[i]?=some x->vs[i]?=some v->kindOf x≠some .local ->
  bindC kindOf (P.zip vs) m x=some v
 | [],_,_,_,_,h,_,_=>by simp at h
 | _::_,[],_,_,_,_,h,_=>by simp at h
 | p::P,w::vs,0,m,nd,h1,h2,hk=>by
  simp at h1 h2;subst h1;subst h2;show bindC kindOf ((p,w)::P.zip vs) m p=_;unfold bindC;rw[ur fun v hv=>(nodup_cons.mp nd).1 (of_mem_zip hv).1,if_neg hk];simp
 | p::P,w::vs,i+1,m,nd,h1,h2,hk=>by
  show bindC kindOf ((p,w)::P.zip vs) m x=_;unfold bindC;exact uw (i:=i) (nodup_cons.mp nd).2 (by simpa using h1) (by simpa using h2) hk
noncomputable def start (N:List Str)(vs:List V):St:=vs.map some++List.replicate (N.length-vs.length) none
noncomputable def pA (CX:CXT)(P:Program)(w:World)(K:PySem.W.Frag)(mg:Str->Option Value)(base:Heap)(N:List Str)(qual:Str)(scope:Scope)(f:Addr)(cd:Value)(A:Around)(outer:List Env)(s:Shared)(H:Hp)(E:XK):Cx where
 prog:=P
 w:=w
 K:=K
 mg:=mg
 base:=base
 A:=A.deeper (envOfC qual scope s.heap.objs.size f cd)
 N:=N
 s₀:=s
 H₀:=H
 env:=envOfC qual scope s.heap.objs.size f cd
 outer:=outer
 stack:=envOfC qual scope s.heap.objs.size f cd::outer
 ex:=[]
 calm:=true
 fn:=fun _=>true
 pn:=[]
 xe:=fun e s'=>wpAny (model P w) (A.deeper (envOfC qual scope s.heap.objs.size f cd)) (leaving (envOfC qual scope s.heap.objs.size f cd) e) (fun _ s''=>CX outer H s E e s'') (fun e' s''=>CX outer H s E e' s'') s'
theorem yI {sc:Scope}{n:Nat}{x:Str}(h:sc.names.lookup x=some .cell):∃c,(cellsFrom n sc.names []).lookup x=some c:=by
 have q:=PySem.W.cellsFrom_some sc.names n [] (.inl h);exact Option.isSome_iff_exists.mp q
theorem tW {CX:CXT}{P:Program}{w:World}{K:PySem.W.Frag}{mg:Str->Option Value}{base:Heap}{N ps:List Str}{qual:Str}{scope:Scope}{f:Addr}{cd:Value}{A:Around}{outer:List Env}{s s1:Shared}{H:Hp}{E:XK}{us:List Value}{vs:List V}
  (S:bF N ps scope) (hd:A.handled=none) (e0:yP P w K mg base A outer s H) (hl:vs.length=ps.length) (r:Vals vs us)
  (x:InCallC s s.heap.objs.size (bindL (envOfC qual scope s.heap.objs.size f cd).kindOf (ps.zip us) fun _=>none) (cellsFrom (s.heap.objs.size+1) scope.names []) (bindC (envOfC qual scope s.heap.objs.size f cd).kindOf (ps.zip us) fun _=>none) s1) :
  Inv (pA CX P w K mg base N qual scope f cd A outer s H E) [] (start N vs) H s1:=by
 have hpl:ps.length<=N.length:=by have:=congrArg List.length S.pre;rw[length_take] at this;omega
 obtain⟨h1,tk,rfl,hk⟩:=x.done;have noA:∀b:Addr,b∉(pA CX P w K mg base N qual scope f cd A outer s H E).ex:=fun b z=>absurd (show b∈([]:List Addr) from z) (by simp);refine⟨⟨e0.mod,S.kind,rfl,rfl,le_refl _,fun y z c h1 h2=>?_,fun y hy=>?_,fun y c _ h=>?_,fun _=>hd,Around.frames_deeper e0.frames,.inr ⟨rfl,rfl⟩,fun b z=>absurd z (noA b),e0.bs,e0.bsz,fun b _ _=>noA b,fun b z=>absurd z (noA b),e0.nU,e0.frf⟩,
  rfl,e0.bare,Un.kept hk,⟨_,x.toInCall.ns,fun i y v h1 h2 h3=>?_⟩,fun y c h=>⟨_,x.cell y c h⟩,e0.hok.fresh (le_refl _),fun y c h=>?_,fun p hp=>absurd (show p∈([]:List (Addr×Obj)) from hp) (by simp),e0.hok.kept hk,?_⟩
 ·exact name_of_addr x.apart (PySem.mem_of_lookup h1) (PySem.mem_of_lookup h2)
 ·have hy:scope.names.lookup y=some .cell\/scope.names.lookup y=some .free:=hy;rcases hy with hy|hy
  ·exact yI hy
  exact absurd rfl (S.nofree _ (PySem.mem_of_lookup hy))
 ·exact le_of_lt (x.above y c (PySem.mem_of_lookup h))
 ·have hi:i<vs.length:=by
   unfold start at h2;by_cases hi:i<vs.length
   ·exact hi
   rw[getElem?_append_right (by simpa using hi)] at h2;rw[List.getElem?_replicate] at h2;split at h2 <;> cases h2
  have ha:vs[i]?=some v:=by
   unfold start at h2;rw[getElem?_append_left (by simpa using hi),getElem?_map] at h2;cases e:vs[i]? with
   | none=>rw[e] at h2;cases h2
   | some a=>rw[e] at h2;cases h2;rfl
  obtain⟨u,hu,rv⟩:=r.get ha;have hp:ps[i]?=some y:=by
   rw[<- S.pre,List.getElem?_take_of_lt ω];exact h1
  have ndP:ps.Nodup:=by rw[<- S.pre];exact S.nd.sublist (List.take_sublist _ _)
  refine⟨u,rv,?_⟩;rcases S.par y (mem_of_getElem? hp) with k|k
  ·exact .inl ⟨k,uq ndP hp hu k⟩
  obtain⟨c,e⟩:=yI (n:=s.heap.objs.size+1) k;refine .inr ⟨.inl k,c,e,?_⟩;have q:=x.cell y c e;rw[uw ndP hp hu (by show scope.names.lookup y≠_;rw[k];decide)] at q;exact q
 ·exact e0.hok.fresh (le_of_lt (x.above y c (PySem.mem_of_lookup h)))
 unfold start;show _=N.length;rw[length_append,length_map,List.length_replicate];omega
theorem Pu {CX:CXT}{P:Program}{w:World}{K:PySem.W.Frag}{mg:Str->Option Value}{base:Heap}{k:Nat}{f:Addr}{name qual:Str}{params:Arguments}{body:List Stmt}{scope:Scope}{dV kV doc pm cdv ct oc:Value}{an od:Option Addr}
  {osl:Array (Option Value)} {N ps:List Str} {sp:Sp} (lk:K.lookup f=some ⟨oc,od,.func (fnOf name qual params body scope dV kV doc pm an cdv ct),osl⟩) (hcd:codeIn K cdv qual=true) (S:bF N ps scope)
  (len:∀vs H Q E,sp vs H Q E->vs.length=ps.length)
  (hbody:∀(A:Around)(outer:List Env)(s:Shared)(H:Hp)(vs:List V)(Q:VK)(E:XK),dN k (A.deeper (envOfC qual scope s.heap.objs.size f cdv))->sp vs H Q E ->
   ∃t,PSs (pA CX P w K mg base N qual scope f cdv A outer s H E) body t/\t { nx:=fun _ H'=>Q .non H',rt:=Q } (start N vs) H) :
  dW P w K mg base CX (k+1) f (fnOf name qual params body scope dV kV doc pm an cdv ct) ps sp:=by
 refine⟨len,fun A outer s H args us vs Q E hr e0 hb r hsp=>?_⟩;have hl:=len _ _ _ _ hsp;have KX:K.In s.heap:=e0.mod.kin.keeps fun b o e=>(e0.bs b o e).1;have lim:s.heap.NoLimit:=e0.mod.nolimit.keeps fun b o e=>(e0.bs b o e).1;have hkind:∀y∈ps.zip us,scope.names.lookup y.1=some .local\/(scope.names.lookup y.1=some .cell/\((cellsFrom (s.heap.objs.size+1) scope.names []).lookup y.1).isSome=true):=fun⟨n,v⟩ hy=>by
  rcases S.par n (of_mem_zip hy).1 with q|q
  ·exact .inl q
  exact .inr ⟨q,PySem.W.cellsFrom_some _ _ _ (.inl q)⟩
 refine codeAny_call_function hr.depth (KX _ _ lk) rfl S.co S.gen rfl (PySem.W.codeRec_of KX hcd) (hb _ _ _ _ ?_);refine wpAny_newFunctionEnv_cells S.kind hkind fun env he s1 x=>?_;subst he;refine⟨lim.keeps x.toInCall.keep,codeAny_func ?_⟩;obtain⟨t,ht,hq⟩:=hbody A outer s H vs Q E (hr.deeper _) hsp;have I:Inv (pA CX P w K mg base N qual scope f cdv A outer s H E) [] (start N vs) H s1:=tW S hr.hd e0 hl r x;refine wpAny_mono (ht [] s1 (start N vs) H _ I hq) (fun fl s' hs=>?_) fun e s' hs=>hs;have fin:∀{σ':St}{H':Hp}{v:V}{u:Value},Inv (pA CX P w K mg base N qual scope f cdv A outer s H E) [] σ' H' s'->RelV v u->Q v H'->CE outer P w H s Q u s':=
  fun {σ' H' v u} J rv q=>⟨v,H',J.os,J.bare,J.base,J.hok,rv,q⟩
 cases fl with
 | ret u=>
  obtain⟨v,σ',H',J,rv,q⟩:=hs;exact fin J rv q
 | next=>
  obtain⟨σ',H',J,q⟩:=hs;exact fin (v:=V.non) (u:=Value.none) J rfl q
 | brk=>
  obtain⟨_,_,_,q⟩:=hs;exact False.elim q
 | cont=>
  obtain⟨_,_,_,q⟩:=hs;exact False.elim q
section
variable {X:Cx}{x:Str}{p pos:Pos}{e:Expr}{es:List Expr}{t:TA}{id T:String}{r:List V->Hp->VK->Prop}
noncomputable def tCB (r:List V->Hp->VK->Prop)(t:TA):TE:=fun σ H Q=>t σ H fun vs H1=>r vs H1 Q
theorem IW (hc:cN X (.builtin id) r) (hg:Gl X x) (hm:X.mg x=none) (hv:bootBuiltins x=some (.builtin id)) (ha:PA X (e::es) t) (hn:x ≠ "__name__" := by decide) (hdb:(x == ("__debug__" : Str))=false:=by decide)
  (he:starEach (e::es) X.env=(false,eval e X.env)::starEach es X.env:=by rfl) (hpl:(backTo pos (starEach es X.env)).any (·.1)=false:=by rfl):PE X (.Call (.Name x p) (e::es) [] pos) (tCB r t):=by
 intro pins s σ H Q I h;refine wpAny_Call_Name_kw (eU I hg hm hv ?_ hn hdb);exact PyProof.Rows.callWith_builtin1 (thA (ha pos pins s σ H _ I h) fun us s1 vs H1 I1 r1 q1=>hc pins s1 σ H1 vs us Q I1 r1 q1) he hpl
theorem Ef (hc:cN X (.type T) r) (hg:Gl X x) (hm:X.mg x=none) (hv:bootBuiltins x=some (.type T)) (ha:PA X (e::es) t) (hn:x ≠ "__name__" := by decide) (hdb:(x == ("__debug__" : Str))=false:=by decide)
  (he:starEach (e::es) X.env=(false,eval e X.env)::starEach es X.env:=by rfl) (hpl:(backTo pos (starEach es X.env)).any (·.1)=false:=by rfl):PE X (.Call (.Name x p) (e::es) [] pos) (tCB r t):=by
 intro pins s σ H Q I h;refine wpAny_Call_Name_kw (eU I hg hm hv ?_ hn hdb);exact PyProof.Rows.callWith_type1 (thA (ha pos pins s σ H _ I h) fun us s1 vs H1 I1 r1 q1=>hc pins s1 σ H1 vs us Q I1 r1 q1) he hpl
end
end L2
namespace HT
open PySem PyProof.Rows
section
variable {prog:Program}{w:World}{A:Around}{E:Value->Shared->Prop}{s:Shared}
noncomputable def sIx (n d:Nat):Option Int->Nat
 | none=>d
 | some v=>if v<0 then (v+(n:Int)).toNat else min v.toNat n
theorem Qt (n d:Nat)(hd:d<=n)(o:Option Int):sIx n d o<=n:=by
 cases o with
 | none=>exact hd
 | some v=>
  show(if v<0 then (v+(n:Int)).toNat else min v.toNat n)<=n;by_cases hv:v<0
  ·rw[if_pos hv];omega
  rw[if_neg hv];exact Nat.min_le_right _ _
theorem Dk (v:Int)(n d:Nat):(if v<0 then max (v+(n:Int)) 0 else min v (n:Int))=((sIx n d (some v):Nat):Int):=by
 show(if v<0 then max (v+(n:Int)) 0 else min v (n:Int))=(((if v<0 then (v+(n:Int)).toNat else min v.toNat n):Nat):Int);by_cases hv:v<0
 ·simp only[if_pos hv];omega
 simp only[if_neg hv];omega
theorem Bk (lo hi:Option Int)(n:Nat):Builtin.Slice.sliceAdjust lo hi 1 (n:Int)=(((sIx n 0 lo:Nat):Int),((sIx n n hi:Nat):Int)):=by
 have h1:¬((1:Int)<0):=ω;unfold Builtin.Slice.sliceAdjust;simp only[h1,if_false];refine Prod.ext ?_ ?_
 ·cases lo with
  | none=>rfl
  | some v=>exact Dk v n 0
 cases hi with
 | none=>rfl
 | some v=>exact Dk v n n
theorem zA (i j:Nat):Builtin.Slice.slicePlaces (i:Int) (j:Int) 1=j-i:=by
 unfold Builtin.Slice.slicePlaces;have h1:(1:Int)>0:=ω;simp only[h1,if_true,Int.ediv_one];split <;> omega
theorem lu {v:Value}{o:Option Int}{Q:Option Int->Shared->Prop}(p:IsPart v o)(h:Q o s):wpAny (model prog w) A (Builtin.Slice.slicePartIndex v) Q E s:=by
 cases p with
 | none=>exact slicePart_none h
 | int i t=>exact slicePart_int h
theorem m9 {sl:Addr}{vl vu:Value}{lo hi:Option Int}{n:Nat}{Q:Int×Int×Nat->Shared->Prop}(hs:s.heap.IsSliceOf sl vl vu .none)(pl:IsPart vl lo)(pu:IsPart vu hi)
  (h:Q (((sIx n 0 lo:Nat):Int),1,sIx n n hi-sIx n 0 lo) s):wpAny (model prog w) A (Builtin.Slice.sliceApplied (.ref sl) (pure (n:Int))) Q E s:=by
 obtain⟨os,hos,hcs,hds⟩:=id hs;unfold Builtin.Slice.sliceApplied Builtin.Slice.sliceFields;refine wpAny_bind (wpAny_bind (wpAny_field hos hds (x:=vl) rfl (wpAny_bind (wpAny_field hos hds (x:=vu) rfl (wpAny_bind (wpAny_field hos hds (x:=.none) rfl (wpAny_pure ?_)))))));refine wpAny_bind (slicePart_none ?_);show wpAny _ _ (if ((1:Int) == 0)=true then _ else _) _ _ s;rw[if_neg δ];refine wpAny_bind (lu pl (wpAny_bind (lu pu (wpAny_bind (wpAny_pure ?_)))));show wpAny _ _ (match Builtin.Slice.sliceAdjust lo hi 1 (n:Int) with|(lo,hi)=>pure (lo,(1:Int),Builtin.Slice.slicePlaces lo hi 1)) _ _ s
 rw[Bk lo hi n];show wpAny _ _ (pure (((sIx n 0 lo:Nat):Int),(1:Int),Builtin.Slice.slicePlaces ((sIx n 0 lo:Nat):Int) ((sIx n n hi:Nat):Int) 1)) _ _ s;rw[zA];exact wpAny_pure h
theorem Il (xs:Array Value)(i k:Nat):((List.range k).filterMap fun(m:Nat)=>xs[((i:Int)+(m:Int)*1).toNat]?).toArray=((xs.toList.drop i).take k).toArray:=by
 have e:(fun(m:Nat)=>xs[((i:Int)+(m:Int)*1).toNat]?)=fun m=>xs[i+m]?:=by
  funext m;have:((i:Int)+(m:Int)*1).toNat=i+m:=by omega
  rw[this]
 rw[e];have:=pick_run xs i k;rw[filterMap_map] at this;have e2:((fun x=>xs[x]?)∘fun x=>i+x)=fun m=>xs[i+m]?:=rfl;rw[e2] at this;rw[this]
theorem mR {t sl:Addr}{items:Array Value}{vl vu:Value}{lo hi:Option Int}{Q:Value->Shared->Prop}(ht:IsTup s.heap t items)(hs:s.heap.IsSliceOf sl vl vu .none)(pl:IsPart vl lo)(pu:IsPart vu hi)
  (hw:¬(sIx items.size 0 lo=0/\sIx items.size items.size hi=items.size))
  (h:Q (.ref s.heap.objs.size) { s with heap:=s.heap.push { cls:=.type "tuple",data:=.seq ((items.toList.drop (sIx items.size 0 lo)).take (sIx items.size items.size hi-sIx items.size 0 lo)).toArray } })
  (hsz:items.size<=sizeLine):wpAny (model prog w) A (getItem (.ref t) (.ref sl)) Q E s:=by
 have htake:sizeOk (.seq ((items.toList.drop (sIx items.size 0 lo)).take (sIx items.size items.size hi-sIx items.size 0 lo)).toArray):=by
  show((items.toList.drop (sIx items.size 0 lo)).take (sIx items.size items.size hi-sIx items.size 0 lo)).toArray.size<=sizeLine;rw[size_toArray,length_take,length_drop,length_toList];omega
 have hj:sIx items.size items.size hi<=items.size:=Qt _ _ (le_refl _) hi;obtain⟨os,hos,hcs,hds⟩:=id hs;have hTs:s.TypeIs (.ref sl) "slice" := ⟨os,hos,hcs⟩;unfold getItem
 try with_reducible refine wpAny_holding ?_
 first|refine wpAny_bind (wpAny_pure ?_)|skip
 refine wpAny_bind (wpAny_sequenceKey ht.typeIs δ ?_);refine wpAny_bind (wpAny_callSpecial?_slot (name:=Str.ofString "__getitem__") ht.typeIs PyProof.Rows.slot_tuple_getitem
  (wpAny_call_entry PyProof.Rows.slot_tuple_getitem ht.typeIs entry_tuple_getitem ?_ (args_tuple_getitem _ _)))
 show wpAny _ _ (Builtin.Tuple.tupleItemsOf (.ref t) >>= _) _ _ s;refine wpAny_bind (tupleItemsOf_ ht ?_);refine wpAny_bind (wpAny_typeOf hTs ?_);rw[if_pos δ];refine wpAny_bind (m9 hs pl pu ?_);have hno:¬((((sIx items.size 0 lo:Nat):Int) == 0&&(1:Int) == 1&&(sIx items.size items.size hi-sIx items.size 0 lo) == items.size)=true):=by
  intro q;rw[and_eq_true,and_eq_true] at q;have q1:((sIx items.size 0 lo:Nat):Int)=0:=eq_of_beq q.1.1;have q2:sIx items.size items.size hi-sIx items.size 0 lo=items.size:=eq_of_beq q.2;exact hw ⟨ω,ω⟩
 show wpAny _ _ (if (((sIx items.size 0 lo:Nat):Int) == 0&&(1:Int) == 1&&(sIx items.size items.size hi-sIx items.size 0 lo) == items.size)=true then _ else _) _ _ s;rw[if_neg hno,Il]
 first
  | exact wpAny_bind (m:=Builtin.Tuple.tupleExact _) (wpAny_newObj_type (wpAny_pure ⟨_,rfl,wpAny_pure h⟩) htake)
  | exact wpAny_bind (m:=Builtin.Tuple.tupleExact _) (wpAny_newObj_type (wpAny_bind (wpAny_pure (wpAny_pure ⟨_,rfl,wpAny_pure h⟩))) htake)
  | exact wpAny_bind (wpAny_bind (m:=Builtin.Tuple.tupleExact _) (wpAny_newObj_type (wpAny_pure (wpAny_pure ⟨_,rfl,wpAny_pure h⟩)) htake))
  | exact wpAny_bind (wpAny_bind (m:=Builtin.Tuple.tupleExact _) (wpAny_newObj_type (wpAny_pure ⟨_,rfl,wpAny_pure h⟩) htake))
end
end HT
namespace L2
open PySem PySem.Spec PyProof.Rows
noncomputable abbrev TO:=St->Hp->(Option Int->Hp->Prop)->Prop
noncomputable def PO (X:Cx)(e:Option Expr)(t:TO):Prop:=
 ∀(pins:List (Addr×Obj)) (s:Shared) (σ:St) (H:Hp) (Q:Option Int->Hp->Prop),Inv X pins σ H s->t σ H Q ->
  wpAny (model X.prog X.w) X.A (evalPart e X.env) (fun u s'=>∃o H',Inv X pins σ H' s'/\IsPart u o/\Q o H') X.xe s
noncomputable def uF:TO:=fun _ H Q=>Q none H
noncomputable def Gu (t:TE):TO:=fun σ H Q=>t σ H fun x H1=>∃i,x=.int i/\Q (some i) H1
section
variable {X:Cx}{e:Expr}{te:TE}{lo hi:Option Expr}{tl th:TO}{pos p2:Pos}
theorem Ms:PO X none uF:=by
 intro pins s σ H Q I h;rw[evalPart_none];exact wpAny_pure ⟨none,H,I,.none,h⟩
theorem vf (h:PE X e te):PO X (some e) (Gu te):=by
 intro pins s σ H Q I hw;rw[evalPart_some];refine thE (h pins s σ H _ I hw) fun u s1 x H1 I1 r1 q1=>?_;obtain⟨i,rfl,q⟩:=q1;obtain⟨t,rfl⟩:=r1;exact⟨some i,H1,I1,.int i t,q⟩
noncomputable def SlR (X:Cx)(r:V->Option Int->Option Int->Hp->VK->Prop):Prop:=
 ∀(pins:List (Addr×Obj)) (s:Shared) (σ:St) (H:Hp) (x:V) (v vl vu:Value) (lo hi:Option Int) (sl:Addr) (Q:VK),Inv X pins σ H s->RelV x v->s.heap.IsSliceOf sl vl vu .none->IsPart vl lo->IsPart vu hi->r x lo hi H Q ->
  ∃T id,typeLookup (.type T) "__getitem__" = pure (some (.builtin id))/\s.TypeIs v T/\wpAny (model X.prog X.w) X.A (getItem v (.ref sl)) (EP X pins σ Q) X.xe s
noncomputable def tSl (r:V->Option Int->Option Int->Hp->VK->Prop)(te:TE)(tl th:TO):TE:=fun σ H Q=>te σ H fun x H1=>tl σ H1 fun l H2=>th σ H2 fun u H3=>r x l u H3 Q
theorem Iv {r:V->Option Int->Option Int->Hp->VK->Prop}(hr:SlR X r)(he:PE X e te)(hl:PO X lo tl)(hu:PO X hi th):PE X (.Subscript e (.Slice lo hi none p2) pos) (tSl r te tl th):=by
 intro pins s σ H Q I h;refine Subscript_ (thE (he pins s σ H _ I h) fun v s1 x H1 I1 r1 q1=>?_);refine wpAny_Slice (thn (hl pins s1 σ H1 _ I1 q1) fun vl s2 ⟨l,H2,I2,pl,q2⟩=>thn (hu pins s2 σ H2 _ I2 q2) fun vu s3 ⟨u,H3,I3,pu,q3⟩=>?_);rw[evalPart_none];refine wpAny_pure ?_;have I4:Inv X pins σ H3 { s3 with heap:=s3.heap.push { cls:=.type "slice",data:=.fields #[vl,vu,.none] } }:=I3.kept (t':=s3.toks) fun b ob q=>get?_push_of_some _ q;obtain⟨T,id,hT,ht,hg⟩:=hr pins { s3 with heap:=s3.heap.push { cls:=.type "slice",data:=.fields #[vl,vu,.none] } } σ H3 x v vl vu l u s3.heap.objs.size Q I4 r1 (Heap.IsSliceOf.new ..) pl pu q3;show wpAny (model X.prog X.w) X.A (subscriptTail e (.Slice lo hi none p2) v (.ref s3.heap.objs.size)) (EP X pins σ Q) X.xe { s3 with heap:=s3.heap.push { cls:=.type "slice",data:=.fields #[vl,vu,.none] } };exact tail_any (ops:=[.ref s3.heap.objs.size,v]) ht hT hg (by with_unfolding_all rfl)
noncomputable def nW (xs:List V)(lo hi:Option Int):List V:=(xs.drop (HT.sIx xs.length 0 lo)).take (HT.sIx xs.length xs.length hi-HT.sIx xs.length 0 lo)
theorem ou (xs:List V)(lo hi:Option Int):(nW xs lo hi).length<=xs.length:=by
 unfold nW;rw[length_take,length_drop];omega
noncomputable def Vn (K:PySem.W.Frag):V->Option Int->Option Int->Hp->VK->Prop:=fun x lo hi H Q=>∃a xs,x=.ref a/\SqT K H a xs /\
 ¬(HT.sIx xs.length 0 lo=0/\HT.sIx xs.length xs.length hi=xs.length)/\∀p,H p=none->Q (.ref p) (upd H p (.tup (nW xs lo hi)))
theorem Qq:SlR X (Vn X.K):=by
 intro pins s σ H x v vl vu lo hi sl Q I rx hs pl pu h;obtain⟨a,xs,rfl,hx,hw,q⟩:=h;cases rx;obtain⟨its,r,ht,hz⟩:=I.tuple hx;have hlen:its.toArray.size=xs.length:=by rw[size_toArray];exact r.length.symm
 refine⟨"tuple",_,PyProof.Rows.slot_tuple_getitem.lookup,ht.typeIs,?_⟩;refine HT.mR ht hs pl pu (by rw[hlen];exact hw) ?_ (by rw[hlen];exact hz);rw[hlen];refine⟨.ref s.heap.objs.size,_,I.laid (t':=s.toks) (o:=.tup (nW xs lo hi)) (fun b ob q=>get?_push_of_some _ q) (le_refl _) ?_,rfl,q _ (I.hok.fresh (le_refl _))⟩;exact⟨le_trans (ou xs lo hi) hz,_,(r.drop (HT.sIx xs.length 0 lo)).take (HT.sIx xs.length xs.length hi-HT.sIx xs.length 0 lo),IsTup.new _ _⟩
end
noncomputable def ixN (n:Nat)(i:Int):Option Nat:=if 0<=i then (if i<n then some i.toNat else none) else if -(n:Int)<=i then some (i+n).toNat else none
noncomputable def atI {α:Type}(xs:List α)(i:Int):Option α:=(ixN xs.length i).bind fun j=>xs[j]?
theorem CN {n:Nat}{i:Int}{j:Nat}(h:ixN n i=some j):seqIndex? i n=some j/\j<n/\-(n:Int)<=i/\i<n:=by
 unfold ixN at h;by_cases h0:0<=i
 ·rw[if_pos h0] at h;by_cases h1:i<n
  ·rw[if_pos h1] at h;have e:i.toNat=j:=Option.some.inj h;exact⟨by rw[seqIndex_of h0 h1,e],ω,ω,h1⟩
  rw[if_neg h1] at h;cases h
 rw[if_neg h0] at h;by_cases h1:-(n:Int)<=i
 ·rw[if_pos h1] at h;have e:(i+n).toNat=j:=Option.some.inj h;exact⟨by rw[seqIndex_neg ω h1,e],ω,h1,ω⟩
 rw[if_neg h1] at h;cases h
theorem Dq {α:Type}{xs:List α}{i:Int}{v:α}(h:atI xs i=some v):∃j,seqIndex? i xs.length=some j/\xs[j]?=some v/\j<xs.length/\-(xs.length:Int)<=i/\i<xs.length:=by
 unfold atI at h;cases e:ixN xs.length i with
 | none=>rw[e] at h;cases h
 | some j=>
  rw[e] at h;obtain⟨h1,h2,h3,h4⟩:=CN e;exact⟨j,h1,h,h2,h3,h4⟩
theorem dh {α:Type}{xs:List α}{j:Nat}{v:α}(h:xs[j]?=some v):atI xs (j:Int)=some v:=by
 have hj:j<xs.length:=(List.getElem?_eq_some_iff.mp h).1;have e:ixN xs.length (j:Int)=some j:=by
  unfold ixN;rw[if_pos ω,if_pos ω];simp
 unfold atI;rw[e];exact h
noncomputable def Dt (b:Expr):Prop:=∀o i,subscripted b false o i=operate [o,i] (getItem o i)
noncomputable def IxR (X:Cx)(r:R2):Prop:=
 ∀(value slice:Expr)(pins:List (Addr×Obj)) (s:Shared) (σ:St) (H:Hp) (x y:V) (v u:Value) (Q:VK),Inv X pins σ H s->RelV x v->RelV y u->r x y H Q ->
  subscripted slice false v u=operate [v,u] (getItem v u)->wpAny (model X.prog X.w) X.A (subscriptTail value slice v u) (EP X pins σ Q) X.xe s
section
variable {X:Cx}{a b:Expr}{ta tb:TE}{pos:Pos}
theorem Uy {r:R2}(hr:IxR X r)(ha:PE X a ta)(hb:PE X b tb)(hs:Dt b):PE X (.Subscript a b pos) (tOp r ta tb):=by
 intro pins s σ H Q I h;exact Subscript_ (T3 ha hb I h fun v u s2 x y H2 I2 rx ry q=>hr a b pins s2 σ H2 x y v u Q I2 rx ry q (hs _ _))
noncomputable def Um (K:PySem.W.Frag):R2:=fun x y H Q=>∃p xs i v,x=.ref p/\y=.int i/\SqL K H p xs/\atI xs i=some v/\Q v H
noncomputable def Vr (K:PySem.W.Frag):R2:=fun x y H Q=>∃p xs i v,x=.ref p/\y=.int i/\SqT K H p xs/\atI xs i=some v/\Q v H
theorem CK:IxR X (Um X.K):=by
 intro value slice pins s σ H x y v u Q I rx ry h hs;obtain⟨p,xs,i,z,rfl,rfl,hq,he,q⟩:=h;cases rx;obtain⟨t,rfl⟩:=ry;obtain⟨its,r,pl,hz⟩:=I.list hq;obtain⟨j,h1,h2,h3,h4,h5⟩:=Dq he;obtain⟨w,ew,rw'⟩:=r.get h2;have hl:=r.length;have hn:=vz;have fin:EP X pins σ Q w s:=⟨z,H,I,rw',q⟩;by_cases h0:0<=i
 ·have hj:i.toNat=j:=by
   rw[seqIndex_of h0 h5] at h1;exact Option.some.inj h1
  exact item_listR pl.isList h0 ω (by rw[hj];simpa using ew) fin hs
 have hj:(i+(its.toArray.size:Int)).toNat=j:=by
  rw[seqIndex_neg ω h4] at h1;rw[size_toArray,<- hl];exact Option.some.inj h1
 exact subscriptTail_builtinR (x:=w) pl.isList.typeIs slot_list_getitem.lookup
  (wpAny_getItem_list_neg (Q:=fun r s'=>r=w/\EP X pins σ Q r s') pl.isList ω (by rw[size_toArray] <;> omega) ω (by rw[hj];simpa using ew) ⟨rfl,fin⟩) hs
theorem SX:IxR X (Vr X.K):=by
 intro value slice pins s σ H x y v u Q I rx ry h hs;obtain⟨p,xs,i,z,rfl,rfl,hq,he,q⟩:=h;cases rx;obtain⟨t,rfl⟩:=ry;obtain⟨its,r,pl,hz⟩:=I.tuple hq;obtain⟨j,h1,h2,h3,h4,h5⟩:=Dq he;obtain⟨w,ew,rw'⟩:=r.get h2;have hl:=r.length;have hn:=vz;have fin:EP X pins σ Q w s:=⟨z,H,I,rw',q⟩;exact subscriptTail_builtinR (x:=w) pl.typeIs slot_tuple_getitem.lookup
  (getItem_tuple (j:=j) (Q:=fun r s'=>r=w/\EP X pins σ Q r s') pl ω ω (by rw[size_toArray,<- hl];exact h1) (by simpa using ew) ⟨rfl,fin⟩) hs
theorem Ab (its:List Value) (n j:Nat) (u:Value):Obj.mapSeq (·.setIfInBounds j u) { cls:=.type "list",data:=.seq its.toArray n }={ cls:=.type "list",data:=.seq (its.set j u).toArray n }:=by
 simp [Obj.mapSeq]
theorem Inv.lst {pins:List (Addr×Obj)}{σ:St}{H:Hp}{s:Shared}{p:Addr}{xs:List V}(I:Inv X pins σ H s)(h:H p=some (.lst xs)) :
  ∃(its:List Value)(n:Nat),Vals xs its/\s.heap.get? p=some { cls:=.type "list",data:=.seq its.toArray n }/\xs.length<=sizeLine:=by
 obtain⟨z,its,n,r,e⟩:=I.hok p _ h;exact⟨its,n,r,e,z⟩
theorem Inv.Sh {pins:List (Addr×Obj)}{σ:St}{H:Hp}{s:Shared}{p:Addr}{xs ys:List V}{its its':List Value}{n n':Nat}{f:Obj->Obj}(I:Inv X pins σ H s)(h:H p=some (.lst xs))
  (ho:s.heap.get? p=some { cls:=.type "list",data:=.seq its.toArray n }) (hf:f { cls:=.type "list",data:=.seq its.toArray n }={ cls:=.type "list",data:=.seq its'.toArray n' }) (r:Vals ys its') (hz:ys.length<=sizeLine) (t:Nat) :
  Inv X pins σ (upd H p (.lst ys)) { s with heap:=s.heap.update p f,toks:=t }:=by
 have e:(s.heap.update p f).get? p=some { cls:=.type "list",data:=.seq its'.toArray n' }:=by
  rw[get?_update_self f ho (by rw[hf] <;> rfl),hf]
 refine I.write (x:=p) (e:=p) (by rw[h];trivial) (.inl rfl) (fun b u hb q=>(get?_update_other _ _ (Ne.symm hb)).trans q) ⟨_,e⟩ ?_;exact⟨hz,its',n',r,e⟩
noncomputable def Ul:V->V->V->Hp->(Hp->Prop)->Prop:=fun o i v H Q=>∃p xs k j,o=.ref p/\i=.int k/\H p=some (.lst xs)/\ixN xs.length k=some j/\Q (upd H p (.lst (xs.set j v)))
theorem set_list:O4 X Ul:=by
 intro pins s σ H o i v ov iv u Q I ro ri rv h;obtain⟨p,xs,k,j,rfl,rfl,hp,hj,q⟩:=h;cases ro;obtain⟨t,rfl⟩:=ri;obtain⟨its,n,r,ho,hz⟩:=I.lst hp;obtain⟨h1,h2,h3,h4⟩:=CN hj;have hl:=r.length;have hn:=vz;have I':Inv X pins σ (upd H p (.lst (xs.set j v))) { s with heap:=s.heap.update p (Obj.mapSeq (·.setIfInBounds j u)) }:=
  I.Sh hp ho (Ab its n j u) (r.set rv j) (by rw[List.length_set];exact hz) s.toks
 by_cases h0:0<=k
 ·have hk:k.toNat=j:=by
   rw[seqIndex_of h0 h4] at h1;exact Option.some.inj h1
  exact PySem.W.ki_setAt ho h0 ω (by rw[size_toArray,<- hl];exact h4) (by rw[hk];exact⟨_,I',q⟩)
 have hk:(k+(its.toArray.size:Int)).toNat=j:=by
  rw[seqIndex_neg ω h3] at h1;rw[size_toArray,<- hl];exact Option.some.inj h1
 exact PySem.W.ki_setBack ho ω (by rw[size_toArray,<- hl];exact h3) ω (by rw[hk];exact⟨_,I',q⟩)
theorem uJ (lo hi:Option Int)(n:Nat):(sliceBounds lo hi none n).1=((HT.sIx n 0 lo:Nat):Int)/\(sliceBounds lo hi none n).2.1=((HT.sIx n n hi:Nat):Int)/\(sliceBounds lo hi none n).2.2=1:=by
 refine⟨?_,?_,rfl⟩
 ·cases lo with
  | none=>simp [sliceBounds,HT.sIx]
  | some i=>
   simp only[sliceBounds,HT.sIx,getD_none,show(1:Int)>0 by decide,if_true];by_cases h:i<0
   ·simp only[h,if_true] <;> omega
   simp only[h,if_false] <;> omega
 cases hi with
 | none=>simp [sliceBounds,HT.sIx]
 | some i=>
  simp only[sliceBounds,HT.sIx,getD_none,show(1:Int)>0 by decide,if_true];by_cases h:i<0
  ·simp only[h,if_true] <;> omega
  simp only[h,if_false] <;> omega
theorem rD (its:List Value)(lo hi:Option Int):slicePick its.toArray lo hi none=((its.drop (HT.sIx its.length 0 lo)).take (HT.sIx its.length its.length hi-HT.sIx its.length 0 lo)).toArray:=by
 obtain⟨h1,h2,h3⟩:=uJ lo hi its.toArray.size;unfold slicePick;rw[h1,h2,h3];simp only[sliceRange_one,pick_run,size_toArray] <;> rfl
noncomputable def Vo (K:PySem.W.Frag):V->Option Int->Option Int->Hp->VK->Prop:=fun x lo hi H Q=>∃a xs,x=.ref a/\SqL K H a xs/\∀p,H p=none->Q (.ref p) (upd H p (.lst (nW xs lo hi)))
theorem K6:SlR X (Vo X.K):=by
 intro pins s σ H x v vl vu lo hi sl Q I rx hs pl pu h;obtain⟨a,xs,rfl,hx,q⟩:=h;cases rx;obtain⟨its,r,ht,hz⟩:=I.list hx;have hlen:=r.length;refine⟨"list",_,slot_list_getitem.lookup,ht.isList.typeIs,?_⟩;refine wpAny_getItem_list_slice ht.isList hs pl pu .none (by simp) ?_ (by rw[size_toArray] <;> omega)
 rw[rD,<- hlen];refine⟨.ref s.heap.objs.size,_,I.laid (t':=s.toks) (o:=.lst (nW xs lo hi)) (fun b ob q=>get?_push_of_some _ q) (le_refl _) ?_,rfl,q _ (I.hok.fresh (le_refl _))⟩;exact⟨le_trans (ou xs lo hi) hz,_,0,(r.drop (HT.sIx xs.length 0 lo)).take (HT.sIx xs.length xs.length hi-HT.sIx xs.length 0 lo),get?_push_size _ rfl⟩
noncomputable def fu:V->Bool
 | .non=>true
 | .bl _=>true
 | .int _=>true
 | .str _=>true
 | _=>false
noncomputable def eqV:V->V->Bool
 | .non,.non=>true
 | .bl a,.bl b=>a == b
 | .bl a,.int b=>(if a then 1 else 0) == b
 | .int a,.bl b=>a == (if b then 1 else 0)
 | .int a,.int b=>a == b
 | .str a,.str b=>a == b
 | _,_=>false
theorem J6 {A:Around}{s:Shared}{y x:V}{u v:Value}(ry:RelV y u)(rx:RelV x v)(fy:fu y=true)(fx:fu x=true):SeqAt.EqAt A s u v (eqV y x):=by
 cases y with
 | non=>
  cases ry;cases x with
  | non=>cases rx;exact SeqAt.EqAt.same _
  | bl b=>cases rx;exact SeqAt.EqAt.none_bool b
  | int b=>obtain⟨t,rfl⟩:=rx;exact SeqAt.EqAt.none_int b t
  | str b=>obtain⟨t,rfl⟩:=rx;exact SeqAt.EqAt.none_str b t
  | _=>exact absurd (show false=true from fx) Bool.false_ne_true
 | bl a=>
  cases ry;cases x with
  | non=>cases rx;exact SeqAt.EqAt.bool_none a
  | bl b=>cases rx;exact SeqAt.EqAt.bool_bool a b
  | int b=>obtain⟨t,rfl⟩:=rx;exact SeqAt.EqAt.bool_int a b t
  | str b=>obtain⟨t,rfl⟩:=rx;exact SeqAt.EqAt.bool_str a b t
  | _=>exact absurd (show false=true from fx) Bool.false_ne_true
 | int a=>
  obtain⟨t',rfl⟩:=ry;cases x with
  | non=>cases rx;exact SeqAt.EqAt.int_none a t'
  | bl b=>cases rx;exact SeqAt.EqAt.int_bool a t' b
  | int b=>obtain⟨t,rfl⟩:=rx;exact SeqAt.EqAt.int_int a t' b t
  | str b=>obtain⟨t,rfl⟩:=rx;exact SeqAt.EqAt.int_str a t' b t
  | _=>exact absurd (show false=true from fx) Bool.false_ne_true
 | str a=>
  obtain⟨t',rfl⟩:=ry;cases x with
  | non=>cases rx;exact SeqAt.EqAt.str_none a t'
  | bl b=>cases rx;exact SeqAt.EqAt.str_bool a t' b
  | int b=>obtain⟨t,rfl⟩:=rx;exact SeqAt.EqAt.str_int a t' b t
  | str b=>obtain⟨t,rfl⟩:=rx;exact SeqAt.EqAt.str_str a t' b t
  | _=>exact absurd (show false=true from fx) Bool.false_ne_true
 | _=>exact absurd (show false=true from fy) Bool.false_ne_true
noncomputable def eqU (x:V)(u:Value):Bool:=match u with
 | .none=>eqV .non x
 | .bool b=>eqV (.bl b) x
 | .int i _=>eqV (.int i) x
 | .str z _=>eqV (.str z) x
 | _=>false
theorem J5 {x y:V}{u:Value}(r:RelV y u)(f:fu y=true):eqU x u=eqV y x:=by
 cases y with
 | non=>cases r;rfl
 | bl b=>cases r;rfl
 | int i=>obtain⟨t,rfl⟩:=r;rfl
 | str z=>obtain⟨t,rfl⟩:=r;rfl
 | _=>exact absurd (show false=true from f) Bool.false_ne_true
theorem vZ {x:V}:∀{xs:List V}{us:List Value},Vals xs us->xs.all fu=true->us.any (eqU x)=xs.any fun y=>eqV y x
 | _,_,.nil,_=>rfl
 | y::xs,u::us,.cons r t,f=>by
  rw[all_cons,and_eq_true] at f;rw[any_cons,any_cons,J5 r f.1,vZ t f.2]
theorem qx {A:Around}{s:Shared}{x:V}{v:Value}(rx:RelV x v)(fx:fu x=true):∀{xs:List V}{us:List Value},Vals xs us->xs.all fu=true->∀u∈us,SeqAt.EqAt A s u v (eqU x u)
 | _,_,.nil,_=>fun u hu=>by cases hu
 | y::xs,u::us,.cons r t,f=>fun u' hu=>by
  rw[all_cons,and_eq_true] at f;rcases mem_cons.mp hu with rfl|hu
  ·rw[J5 r f.1];exact J6 r rx f.1 fx
  exact qx rx fx t f.2 u' hu
noncomputable def inV (x:V)(xs:List V):Bool:=xs.any fun y=>eqV y x
noncomputable def rIn (K:PySem.W.Frag)(neg:Bool):R2:=fun x y H Q=>∃p xs,y=.ref p/\(SqL K H p xs\/SqT K H p xs)/\fu x=true/\xs.all fu=true/\Q (.bl (if neg then !inV x xs else inV x xs)) H
theorem vg:OpR X (compareOp .NotIn) (rIn X.K true):=by
 intro pins s σ H x y v u Q I rx ry h;obtain⟨p,xs,rfl,hq,fx,fs,q⟩:=h;cases ry;rcases hq with hq|hq
 ·obtain⟨its,r,pl,hz⟩:=I.list hq;refine SeqAt.notIn_listAt (eqU x) pl.isList (fun w hw=>qx rx fx r fs w (by simpa using hw)) ⟨.bl _,H,I,rfl,?_⟩;rw[show its.toArray.any (eqU x)=its.any (eqU x) by simp,vZ r fs];exact q
 obtain⟨its,r,pl,hz⟩:=I.tuple hq;refine SeqAt.notIn_tupleAt (eqU x) pl (fun w hw=>qx rx fx r fs w (by simpa using hw)) ⟨.bl _,H,I,rfl,?_⟩;rw[show its.toArray.any (eqU x)=its.any (eqU x) by simp,vZ r fs];exact q
theorem gj:cN X (.builtin "len") (fun xs H Q=>∃p ys,xs=[.ref p]/\(SqL X.K H p ys\/SqT X.K H p ys)/\Q (.int ys.length) H):=by
 intro pins s σ H xs us Q I r h;obtain⟨p,ys,rfl,hq,q⟩:=h;obtain⟨u,rfl,rx⟩:=vals1 r;cases rx;have hn:=vz;rcases hq with hq|hq
 ·obtain⟨its,r',pl,hz⟩:=I.list hq;have hlen:=r'.length;exact Calls.call_len_list pl.isList (by simp only[size_toArray] <;> omega) ⟨.int ys.length,H,I.tok _,⟨s.toks+1,by rw[size_toArray,hlen]⟩,q⟩
 obtain⟨its,r',pl,hz⟩:=I.tuple hq;have hlen:=r'.length;exact len_tuple pl (by simp only[size_toArray] <;> omega) ⟨.int ys.length,H,I.tok _,⟨s.toks+1,by rw[size_toArray,hlen]⟩,q⟩
theorem su:cN X (.type "tuple") (fun xs H Q=>∃p ys,xs=[.ref p]/\((SqL X.K H p ys/\∀l,H l=none->Q (.ref l) (upd H l (.tup ys)))\/(SqT X.K H p ys/\Q (.ref p) H))):=by
 intro pins s σ H xs us Q I r h;obtain⟨p,ys,rfl,h⟩:=h;obtain⟨u,rfl,rx⟩:=vals1 r;cases rx;rcases h with⟨hq,q⟩|⟨hq,q⟩
 ·obtain⟨its,r',pl,hz⟩:=I.list hq;have hlen:=r'.length;refine call_tuple_list pl.isList (fun h' kp=>?_) (by simp only[size_toArray] <;> omega)
  have I1:Inv X pins σ H { s with heap:=h' }:=I.kept (t':=s.toks) kp;have I2:Inv X pins σ (upd H h'.objs.size (.tup ys)) { s with heap:=h'.push { cls:=.type "tuple",data:=.seq its.toArray } }:=
   I1.laid (t':=s.toks) (fun b o e=>get?_push_of_some _ e) (le_refl _) (show bI X.prog X.w _ _ _ (.tup ys) from⟨hz,its,r',IsTup.new _ _⟩)
  exact⟨.ref h'.objs.size,_,I2,rfl,q _ (I1.hok.fresh (le_refl _))⟩
 obtain⟨its,r',pl,hz⟩:=I.tuple hq;exact call_tuple_same pl ⟨.ref p,H,I,rfl,q⟩
noncomputable def tyV (K:PySem.W.Frag)(T:String)(x:V)(H:Hp):Prop:=match x with
 | .str _=>T = "str"
 | .int _=>T = "int"
 | .ref p=>(T = "list" /\ ∃xs,SqL K H p xs)\/(T = "tuple" /\ ∃o,K.lookup p=some o/\o.cls=.type "tuple" /\ o.dict=none) \/
   (T = "dict" /\ ((∃kvs,H p=some (.dK kvs))\/∃kvs,H p=some (.dT kvs)))\/(T = "set" /\ ∃S n,H p=some (.set S n))
 | _=>False
theorem uD {pins:List (Addr×Obj)}{σ:St}{H:Hp}{s:Shared}{T:String}{x:V}{v:Value}(I:Inv X pins σ H s)(r:RelV x v)(ty:tyV X.K T x H) :
  s.TypeIs v T/\∀a,v=.ref a->∃ob,s.heap.get? a=some ob/\ob.dict=none:=by
 cases x with
 | str z=>
  obtain⟨t,rfl⟩:=r;cases (show T = "str" from ty);exact⟨typeIs_str s z t,fun _ e=>nomatch e⟩
 | int i=>
  obtain⟨t,rfl⟩:=r;cases (show T = "int" from ty);exact⟨typeIs_int s i t,fun _ e=>nomatch e⟩
 | ref p=>
  cases r;rcases ty with⟨rfl,xs,hq⟩|⟨rfl,o,hk,hc,hd⟩|⟨rfl,hk⟩|⟨rfl,S,n,hk⟩
  ·obtain⟨its,_,pl,_⟩:=I.list hq;refine⟨pl.isList.typeIs,fun a e=>?_⟩;cases e;obtain⟨o,n,e,c,hd,_⟩:=pl;exact⟨o,e,hd⟩
  ·refine⟨⟨o,I.kIn p o hk,hc⟩,fun a e=>?_⟩;cases e;exact⟨o,I.kIn _ o hk,hd⟩
  ·have z:∃o,s.heap.get? p=some o/\o.ExactDict:=by
    rcases hk with⟨kvs,hk⟩|⟨kvs,hk⟩
    ·obtain⟨_,_,_,_,o,_,_,e,ex,_⟩:=I.hok p _ hk;exact⟨o,e,ex⟩
    obtain⟨_,_,_,_,o,_,_,e,ex,_⟩:=I.hok p _ hk;exact⟨o,e,ex⟩
   obtain⟨o,e,ex⟩:=z;refine⟨⟨o,e,ex.1⟩,fun a e2=>?_⟩;cases e2;exact⟨o,e,ex.2.1⟩
  obtain⟨o,_,_,_,e,ex,_⟩:=I.hok p _ hk;refine⟨⟨o,e,ex.1⟩,fun a e2=>?_⟩;cases e2;exact⟨o,e,ex.2.1⟩
 | _=>exact False.elim ty
variable {o e:Expr}{es:List Expr}{to:TE}{t:TA}{name:Str}{apos cpos:Pos}{T id:String}{r:V->List V->Hp->VK->Prop}
end
noncomputable def MtM (X:Cx)(id:String)(r:V->List V->Hp->VK->Prop):Prop:=
 ∀(pins:List (Addr×Obj)) (s:Shared) (σ:St) (H:Hp) (x:V) (xs:List V) (v:Value) (us:List Value) (Q:VK),Inv X pins σ H s->RelV x v->Vals xs us->r x xs H Q ->
  wpAny (model X.prog X.w) X.A (call (.builtin id) (v::us)) (EP X pins σ Q) X.xe s
theorem Vals.one:∀{x:V}{us:List Value},Vals [x] us->∃u,us=[u]/\RelV x u:=fun h=>by
 cases h with
 | cons r h=>
  cases h;exact⟨_,rfl,r⟩
theorem Vals.eraseIdx:∀{xs:List V}{us:List Value}(i:Nat),Vals xs us->Vals (xs.eraseIdx i) (us.eraseIdx i)
 | _,_,_,.nil=>.nil
 | _,_,0,.cons _ t=>t
 | _,_,i+1,.cons r t=>.cons r (Vals.eraseIdx i t)
theorem Vals.reverse {xs:List V}{us:List Value}(h:Vals xs us):Vals xs.reverse us.reverse:=by
 induction h with
 | nil=>exact .nil
 | cons r t ih=>rw[List.reverse_cons,List.reverse_cons];exact Vals.append ih (.cons r .nil)
theorem Vals.rep {xs:List V}{us:List Value}(h:Vals xs us):∀k:Nat,Vals (List.replicate k xs).flatten (List.replicate k us).flatten
 | 0=>.nil
 | k+1=>by
  rw[replicate_succ,replicate_succ,flatten_cons,flatten_cons];exact Vals.append h (Vals.rep h k)
theorem foldl_rep (its:List Value):∀(k:Nat)(acc:List Value),
  List.foldl (fun x1 x2=>x1++x2) acc.toArray (List.replicate k its.toArray)=(acc++(List.replicate k its).flatten).toArray
 | 0,acc=>by simp
 | k+1,acc=>by
  have e:acc.toArray++its.toArray=(acc++its).toArray:=by simp
  have e2:(acc++its)++(List.replicate k its).flatten=acc++(List.replicate (k+1) its).flatten:=by
   rw[replicate_succ,flatten_cons,append_assoc]
  rw[<- e2,<- foldl_rep its k (acc++its),<- e,replicate_succ,List.foldl_cons]
section
variable {X:Cx}{pins:List (Addr×Obj)}{σ:St}{H:Hp}{s:Shared}{l b:Addr}{xs ys zs:List V}
theorem Inv.U9 {its its':List Value}{n:Nat}{f:Array Value->Array Value}{t':Nat}(I:Inv X pins σ H s)(hH:H l=some (.lst xs))
  (e:s.heap.get? l=some { cls:=.type "list",data:=.seq its.toArray n }) (hf:f its.toArray=its'.toArray) (hv:Vals ys its') (hz:ys.length<=sizeLine) :
  Inv X pins σ (upd H l (.lst ys)) { s with heap:=s.heap.update l (Obj.mapSeq f),toks:=t' }:=by
 have q:=PySem.IsL.update e f;rw[hf] at q;refine I.write (x:=l) (e:=l) (by rw[hH];exact trivial) (.inl rfl) (fun b' u hb hu=>(get?_update_other s.heap (Obj.mapSeq f) (Ne.symm hb)).trans hu) ⟨_,q⟩ ?_;exact⟨hz,its',_,hv,q⟩
theorem Inv.Va {its:List Value}{t':Nat}(I:Inv X pins σ H s)(hv:Vals ys its)(hz:ys.length<=sizeLine) :
  Inv X pins σ (upd H s.heap.objs.size (.lst ys)) { s with heap:=s.heap.push { cls:=.type "list",data:=.seq its.toArray },toks:=t' }:=
 I.laid (fun _ _ q=>get?_push_of_some _ q) (le_refl _) ⟨hz,its,0,hv,get?_push_size _ rfl⟩
theorem Inv.fresh (I:Inv X pins σ H s):H s.heap.objs.size=none:=I.hok.fresh (le_refl _)
theorem Inv.JB (I:Inv X pins σ H s) (hH:H l=some (.lst xs)):xs.length<=sizeLine/\∃(its:List Value)(n:Nat),Vals xs its/\xs.length=its.length/\s.heap.get? l=some { cls:=.type "list",data:=.seq its.toArray n }:=by
 obtain⟨z,its,n,r,e⟩:=I.hok l _ hH;exact⟨z,its,n,r,r.length,e⟩
theorem Jg {n:Nat}(h:n<=sizeLine):Builtin.List.listTooLong n=false:=by
 unfold Builtin.List.listTooLong;exact decide_eq_false ω
end
section
variable {X:Cx}
noncomputable def Lr:V->List V->Hp->VK->Prop:=fun x vs H Q=>∃l xs y,x=.ref l/\vs=[y]/\H l=some (.lst xs)/\xs.length<sizeLine/\Q .non (upd H l (.lst (xs++[y])))
theorem El:MtM X "list.append" Lr:=by
 intro pins s σ H x vs v us Q I rx rv h;obtain⟨l,xs,y,rfl,rfl,hH,hz,q⟩:=h;cases rx;obtain⟨u,rfl,ru⟩:=rv.one;obtain⟨z,its,n,r,hl,e⟩:=I.JB hH;refine call_meets F.slot_list_append ⟨_,e,rfl⟩ F.entry_list_append (F.args_list_append_2 _ _) (PySem.list_append l its.toArray n u (by rw[size_toArray];omega)) ⟨e,?_⟩;refine⟨.non,_,I.U9 (its':=its++[u]) hH e (by simp) (r.append (.cons ru .nil)) ?_,rfl,q⟩;rw[length_append,length_singleton];omega
noncomputable def Vt:R2:=fun x y H Q=>∃l b xs zs,x=.ref l/\y=.ref b/\H l=some (.lst xs)/\H b=some (.lst zs)/\xs.length+zs.length<=sizeLine/\∀p,H p=none->Q (.ref p) (upd H p (.lst (xs++zs)))
theorem RT:OpR X (binaryOp .Add) Vt:=by
 intro pins s σ H x y v u Q I rx ry h;obtain⟨l,b,xs,zs,rfl,rfl,hH,hB,hz,q⟩:=h;cases rx;cases ry;obtain⟨z,its,n,r,hl,e⟩:=I.JB hH;obtain⟨z2,its2,n2,r2,hl2,e2⟩:=I.JB hB;refine PySem.P.add_list e e2 ?_ (by rw[size_toArray,size_toArray];omega);have ea:its.toArray++its2.toArray=(its++its2).toArray:=by simp
 rw[ea];exact⟨.ref _,_,I.Va (t':=s.toks) (r.append r2) (by rw[length_append];omega),rfl,q _ I.fresh⟩
noncomputable def Vp:R2:=fun x y H Q=>∃l k xs,x=.ref l/\y=.int k/\H l=some (.lst xs)/\-(2^63)<=k/\k<2^63/\xs.length*k.toNat<=sizeLine /\
 ∀p,H p=none->Q (.ref p) (upd H p (.lst (List.replicate k.toNat xs).flatten))
theorem len_rep {α:Type}(xs:List α)(k:Nat):(List.replicate k xs).flatten.length=k*xs.length:=by
 induction k with
 | zero=>simp
 | succ k ih=>rw[replicate_succ,flatten_cons,length_append,ih,Nat.succ_mul,Nat.add_comm]
theorem RM:OpR X (binaryOp .Mult) Vp:=by
 intro pins s σ H x y v u Q I rx ry h;obtain⟨l,k,xs,rfl,rfl,hH,h1,h2,hz,q⟩:=h;cases rx;obtain⟨t,rfl⟩:=ry;obtain⟨z,its,n,r,hl,e⟩:=I.JB hH;have hlen:its.toArray.size*k.toNat<=sizeLine:=by rw[size_toArray,<- hl];exact hz
 have hcap:¬its.toArray.size*k.toNat>(2^63-1)/8:=by
  have:(sizeLine:Nat)<=(2^63-1)/8:=by decide
  omega
 have hfit:¬(!Builtin.List.listFitsIndex k)=true:=by
  rw[fitsIndex_both h1 h2];exact Bool.false_ne_true
 have hlong:¬Builtin.List.listTooLong (its.toArray.size*k.toNat)=true:=by
  rw[Jg hlen];exact Bool.false_ne_true
 have hnew:List.foldl (fun x1 x2=>x1++x2) #[] (List.replicate (if its.toArray.isEmpty=true then 0 else k.toNat) its.toArray)=(List.replicate k.toNat its).flatten.toArray:=by
  have f0:∀m:Nat,List.foldl (fun x1 x2=>x1++x2) #[] (List.replicate m its.toArray)=(List.replicate m its).flatten.toArray:=fun m=>by
   have:=foldl_rep its m [];rw[List.nil_append] at this;exact this
  rw[f0];cases its with
  | nil=>simp
  | cons a r'=>rw[if_neg (by simp)]
 refine wpAny_binaryOp_repeat_ref (T := "list") (U := "int") δ ⟨_,e,rfl⟩ (fun s'=>typeIs_int s' k t) noFill_list_mul F.fills_int_mul F.slot_int_rmul repeat_list F.slot_int_index.lookup
  (call_meets F.slot_int_rmul (typeIs_int s k t) F.entry_int_rmul (F.args_int_rmul_2 _ _) (int___rmul___int_list k t l its.toArray n)
   ⟨e,rfl,⟨_,e,rfl⟩,call_meets F.slot_list_mul ⟨_,e,rfl⟩ F.entry_list_mul (F.args_list_mul_2 _ _) (AutoListH.list___mul___list_int_3 l its.toArray n k t hfit hcap hlong) ⟨e,?_⟩⟩)
 rw[hnew];exact⟨.ref _,_,I.Va (t':=s.toks) (r.rep k.toNat) (by rw[len_rep,Nat.mul_comm];exact hz),rfl,q _ I.fresh⟩
end
end L2
namespace Att
open PySem PySem.W PySem.Calls PyProof.Rows
theorem oO {P:Params}{h:Heap}:∀(ns:List Int)(vs:List Value),WellAll P h vs (ns.map WData.int)->IntsAre vs ns:=by
 intro ns
 induction ns with
 | nil=>
  intro vs w;rw[map_nil] at w;cases w;exact .nil
 | cons n ns ih=>
  intro vs w;rw[map_cons] at w;cases w with
  | cons a b=>
   cases a;exact .cons _ _ (ih _ b)
theorem DG {l:OpenLaw}{n:Nat}(hn:l.most=some n){P:Params}{h:Heap}{args:List WData}{vals:List Value}
  (hpre:l.row.toRowW.claim.pre args=true) (hwl:WellAll P h vals args) :
  ∃a vs ns,vals=[Value.ref a]/\args=[WData.list (ns.map WData.int)]/\h.get? a=some { cls:=.type "list",data:=.seq vs.toArray }/\IntsAre vs ns/\ns.length<=n:=by
 have hsh:WShape.hasAll [] args [.list .int]=true:=(pre_splitW hpre).1;have hc:l.pre.holds [] { args:=args }=true:=(pre_splitW hpre).2;obtain⟨d,r,rfl,h1,h2⟩:=hasAllW_cons hsh;obtain rfl:=hasAllW_nil h2;obtain⟨xs,rfl,h3⟩:=hasW_list h1;obtain⟨ns,rfl⟩:=items_int h3;have hlen:ns.length<=n:=by
  unfold OpenLaw.pre at hc;have h4:(WTm.not (.lt (.lit (.int (n:Int))) (.len (.arg 0)))).holds [] { args:=[.list (ns.map .int)] }=true:=by
   have h4:=(holds_andW hc).1;rw[hn] at h4;exact h4
  have h5:=condW_of h4 (w_not (w_lt w_lit (w_len_list (w_arg rfl))));rw[length_map] at h5;refine Nat.le_of_not_lt fun q=>?_;have q':(n:Int)<((ns.length:Nat):Int):=ω
  first
   | (rw[decide_eq_true q'] at h5;exact absurd h5 δ)
   | (simp at h5;omega)
 cases hwl with
 | cons w1 w2=>
  cases w2;cases w1 with
  | list ho hall=>exact⟨_,_,ns,rfl,rfl,ho,oO ns _ hall,hlen⟩
theorem Eb (l:OpenLaw)(args:List WData):l.row.toRowW.claim.post args (.bool true) args=true:=
 postW_of (r:=l.row.toRowW) (X:=(true == true))
  (show WShape.has [] (.bool true) .bool=true by first|rfl|decide|simp [WShape.has,WShape.arms,WShape.armsAll])
  (show(WTm.eq .res (.lit (.bool true))).value [] { args:=args,res:=some (.bool true),after:=args }=some (.bool (true == true)) from w_eq_bool (w_res rfl) w_lit) rfl
theorem yN {l:OpenLaw}{n:Nat}{q:Program}{loose:List Str}{XP:(Str->Option Value)->Heap->Prop}{YP:World->Heap->Prop}{d:DefRec}
  (hn:l.most=some n) (hdf:d.params.defaults=[])
  (call:∀(w:World)(s₀ s₁:Shared)(mg mb:Str->Option Value)(fa:Addr)(o:Obj)(pm cd doc:Value)(a:Addr)(vs:List Value)(ns:List Int),
   Ground q loose [] XP w s₀ mg mb s₁.heap->YP w s₁.heap ->
   s₁.heap.get? fa=some o->o.data=.func (docDef d.name d.params d.body d.scope pm cd doc)->s₁.heap.CodeRec cd d.name->mg d.name=some (.ref fa) ->
   s₁.heap.get? a=some { cls:=.type "list",data:=.seq vs.toArray }->IntsAre vs ns->ns.length<=n->s₁.gens=#[] ->
   codeAny (model l.prog w) callerA (.call (.ref fa) ⟨[.ref a],[]⟩) (fun r s'=>r=.ok (.ret (.bool true))/\OldK s₁.heap s'.heap/\s'.os=s₁.os/\AllBare s'.gens) s₁) :
  WalkO q loose XP YP l.row.toRowW d [] (fun f vs=>PySem.call f vs):=by
 intro w s₀ s₁ mg mb G Y fa o pm cd doc dV kV ho hd hcd hD hmg hg args vals as hpre hlay hrd hwl hlo;obtain rfl:dV=.none:=Dflts.none hD hdf;obtain rfl:kV=.none:=Dflts.noKw hD;obtain⟨a,vs,ns,rfl,rfl,hobj,hints,hlen⟩:=DG hn hpre hwl;refine enter_call (codeAny_mono (call w s₀ s₁ mg mb fa o pm cd doc a vs ns G Y ho (fd_plain hd) hcd hmg hobj hints hlen hg) fun r s' hq=>?_);obtain⟨rfl,h2,h3,h4⟩:=hq;exact⟨.inl ⟨.bool true,.bool true,[],rfl,fun _=>rfl,.bool true,Eb l _,fun _=>⟨List.Pairwise.nil,fun _ hm=>(nomatch hm)⟩⟩,h2,h3,h4⟩
end Att
namespace L2
open PySem PySem.Spec PyProof.Rows
theorem sE:∀{vs:List Value}{ns:List Int},IntsAre vs ns->Vals (ns.map V.int) vs
 | _,_,.nil=>.nil
 | _,_,.cons n t h=>.cons ⟨t,rfl⟩ (sE h)
noncomputable def bA (s:Stmt):Arguments:=match s with
 | .FunctionDef _ a _ _ _ _ _ _ _ _=>a
 | _=>{ posonlyargs:=[],args:=[],vararg:=none,kwonlyargs:=[],kw_defaults:=[],kwarg:=none,defaults:=[] }
noncomputable def aX (s:Stmt):List Stmt:=match s with
 | .FunctionDef _ _ b _ _ _ _ _ _ _=>b
 | _=>[]
noncomputable def aj (s:Stmt):Scope:=match s with
 | .FunctionDef _ _ _ _ _ _ sc _ _ _=>sc
 | _=>{ kind:=.function,names:=[],isGenerator:=false,isCoroutine:=false }
noncomputable abbrev CX0:CXT:=fun _ _ _ _ _ _=>False
noncomputable abbrev E0:XK:=fun _ _ _=>False
theorem U0 {X:Cx}:Bm CX0 X E0:=fun _ _ _ _ _ _ _ h=>h.elim
structure Fun (K:PySem.W.Frag)(x qual:Str)(st:Stmt)(f:Addr)(fd:FuncData):Prop where
 ex:∃(oc:Value)(od:Option Addr)(kV doc pm:Value)(an:Option Addr)(cdv ct:Value)(osl:Array (Option Value)),
  fd=fnOf x qual (bA st) (aX st) (aj st) .none kV doc pm an cdv ct/\K.lookup f=some ⟨oc,od,.func fd,osl⟩/\codeIn K cdv qual=true
 kp:keepIn K (.ref f)=true
section
variable {P:Program}{w:World}{K:PySem.W.Frag}{mg:Str->Option Value}{base:Heap}
theorem Fun.ok {x qual:Str}{st:Stmt}{f:Addr}{fd:FuncData}{N ps:List Str}{k:Nat}{sp:Sp}(F:Fun K x qual st f fd)(S:bF N ps (aj st))(len:∀vs H Q E,sp vs H Q E->vs.length=ps.length)
  (hbody:∀(cdv:Value)(A:Around)(outer:List Env)(s:Shared)(H:Hp)(vs:List V)(Q:VK)(E:XK),dN k (A.deeper (envOfC qual (aj st) s.heap.objs.size f cdv))->sp vs H Q E ->
   ∃t,PSs (pA CX0 P w K mg base N qual (aj st) f cdv A outer s H E).nox (aX st) t/\t { nx:=fun _ H'=>Q .non H',rt:=Q } (start N vs) H):dW P w K mg base CX0 (k+1) f fd ps sp:=by
 obtain⟨oc,od,kV,doc,pm,an,cdv,ct,osl,rfl,lk,hcd⟩:=F.ex;refine Pu lk hcd S len fun A outer s H vs Q E hr hsp=>?_;obtain⟨t,h,q⟩:=hbody cdv A outer s H vs Q E hr hsp;exact⟨t,h.nox,q⟩
theorem Fun.binds {x qual:Str}{st:Stmt}{f:Addr}{fd:FuncData}{ps:List Str}(F:Fun K x qual st f fd)
  (h:∀(kV doc pm:Value)(an:Option Addr)(cdv ct:Value)(us:List Value),us.length=ps.length->bindArgs (fnOf x qual (bA st) (aX st) (aj st) .none kV doc pm an cdv ct) ⟨us,[]⟩=pure (ps.zip us)):Binds K fd ps []:=by
 obtain⟨oc,od,kV,doc,pm,an,cdv,ct,osl,rfl,lk,hcd⟩:=F.ex;exact .all (h kV doc pm an cdv ct)
theorem aZ {x qual:Str}{st:Stmt}{f:Addr}{oc:Value}{od an:Option Addr}{osl:Array (Option Value)}{kV doc pm cdv ct:Value}(l:K.lookup f=some ⟨oc,od,.func (fnOf x qual (bA st) (aX st) (aj st) .none kV doc pm an cdv ct),osl⟩)
  (c:codeIn K cdv qual=true) (k:keepIn K (.ref f)=true):Fun K x qual st f (fnOf x qual (bA st) (aX st) (aj st) .none kV doc pm an cdv ct):=⟨⟨oc,od,kV,doc,pm,an,cdv,ct,osl,rfl,l,c⟩,k⟩
end
noncomputable def Same (H H':Hp):Prop:=∀b o,H b=some o->H' b=some o
theorem Same.refl (H:Hp):Same H H:=fun _ _ h=>h
theorem Same.trans {H H1 H2:Hp}(a:Same H H1)(b:Same H1 H2):Same H H2:=fun c o h=>b c o (a c o h)
end L2
set_option maxHeartbeats 4000000
namespace L2
open PySem PySem.Spec PyProof.Rows
theorem qQ {env:Env}:∀(names:List (Str×NameKind)) (acc:List (Str×Addr)),
  (∀y∈names,y.2=.free->∃c,env.cells.lookup y.1=some c)->(∀x c,acc.lookup x=some c->env.cells.lookup x=some c) ->
  ∃cl,(forIn names acc fun(y:Str×NameKind)(r:List (Str×Addr))=>(match y with
   | (name,kind)=>if (kind == .free)=true then (do let a <- cellOf env name;pure (ForInStep.yield ((name,a)::r))) else pure (ForInStep.yield r):Sem (ForInStep (List (Str×Addr)))))=pure cl /\
   (∀x c,cl.lookup x=some c->env.cells.lookup x=some c)/\(∀y∈names,y.2=.free->∃c,cl.lookup y.1=some c)/\(∀x c,acc.lookup x=some c->∃c',cl.lookup x=some c')
 | [],acc,_,ha=>⟨acc,rfl,ha,fun _ h=>(nomatch h),fun x c h=>⟨c,h⟩⟩
 | (n,k)::r,acc,hf,ha=>by
  have hf':∀y∈r,y.2=.free->∃c,env.cells.lookup y.1=some c:=fun y hy=>hf y (mem_cons_of_mem _ hy);by_cases hk:k=.free
  ·subst hk;obtain⟨c0,e0⟩:=hf (n,.free) mem_cons_self rfl;have hce:cellOf env n=pure c0:=by unfold cellOf;rw[e0]
   have ha2:∀x c,((n,c0)::acc).lookup x=some c->env.cells.lookup x=some c:=fun x c h=>by
    rw[lookup_cons] at h;cases hx:x == n with
    | true=>
     rw[hx] at h;have e1:x=n:=by simpa using hx
     rw[e1,e0];exact h
    | false=>
     rw[hx] at h;exact ha x c h
   obtain⟨cl,e,h1,h2,h3⟩:=qQ r ((n,c0)::acc) hf' ha2;refine⟨cl,?_,h1,fun y hy hz=>?_,fun x c h=>?_⟩
   ·rw[forIn_cons];simp only[beq_self_eq_true,if_true,hce];exact e
   ·rcases mem_cons.mp hy with q|q
    ·subst q;exact h3 n c0 (by simp)
    exact h2 y q hz
   cases hx:x == n with
   | true=>exact h3 x c0 (by rw[lookup_cons,hx])
   | false=>exact h3 x c (by rw[lookup_cons,hx];exact h)
  have hb:(k == NameKind.free)=false:=by simpa using hk
  obtain⟨cl,e,h1,h2,h3⟩:=qQ r acc hf' ha;refine⟨cl,?_,h1,fun y hy hz=>?_,h3⟩
  ·rw[forIn_cons];simp only[hb,false_eq_true,if_false];exact e
  rcases mem_cons.mp hy with q|q
  ·subst q;exact absurd hz hk
  exact h2 y q hz
theorem vO {env:Env}{scope:Scope}(hf:∀y∈scope.names,y.2=.free->∃c,env.cells.lookup y.1=some c) :
  ∃cl,closureFor scope env=pure cl/\(∀x c,cl.lookup x=some c->env.cells.lookup x=some c)/\(∀y∈scope.names,y.2=.free->∃c,cl.lookup y.1=some c):=by
 obtain⟨cl,e,h1,h2,_⟩:=qQ (env:=env) scope.names [] hf (fun x c h=>by simp at h);refine⟨cl,?_,h1,h2⟩;unfold closureFor;show(forIn scope.names [] _ >>= fun r=>pure r)=_;rw[show(forIn scope.names ([]:List (Str×Addr)) fun(y:Str×NameKind)(r:List (Str×Addr))=>(match y with
   | (name,kind)=>if (kind == .free)=true then (do let a <- cellOf env name;pure (ForInStep.yield ((name,a)::r))) else pure (ForInStep.yield r):Sem (ForInStep (List (Str×Addr)))))=pure cl from e]
 rfl
section
variable {prog:Program}{w:World}{A:Around}{R:Result->Shared->Prop}{s:Shared}
theorem uc {elt tg iter:Expr}{ifs:List Expr}{scope:Scope}{pos:Pos}{it acc:Value}{env:Env}(J:Nat->Shared->Prop)
  (turn:∀n s,J n s->wpAny (model prog w) A (pyNext it) (fun r s1=>match r with
   | none=>R (.ok .next) s1
   | some v=>wpAny (model prog w) A (letOwnedTupleGo tg it v) (fun _ s1'=>wpAny (model prog w) A (assign tg env v) (fun _ s2=>
     wpAny (model prog w) A (forIn ifs true fun c r=>if r=true then do let ok <- isTrue c env (eval c env);pure (ForInStep.yield ok) else pure (ForInStep.yield r)) (fun ok s3=>
      if ok=true then wpAny (model prog w) A (eval elt env) (fun x s4=>
       wpAny (model prog w) A (call (.builtin "list.append") [acc,x]) (fun _ s5=>∃m,m<n/\J m s5) (notedBy (model prog w) A env fun e z=>R (.error e) z) s4) (notedBy (model prog w) A env fun e z=>R (.error e) z) s3
      else ∃m,m<n/\J m s3) (notedBy (model prog w) A env fun e z=>R (.error e) z) s2) (notedBy (model prog w) A env fun e z=>R (.error e) z) s1') (notedBy (model prog w) A env fun e z=>R (.error e) z) s1) (notedBy (model prog w) A env fun e z=>R (.error e) z) s)
  (n:Nat) (h:J n s):codeAny (model prog w) A (.compLoop (.ListComp elt [⟨tg,iter,ifs,0⟩] scope pos) 0 it acc env) R s:=by
 refine codeAny_loop rfl J (fun n z hJ=>?_) n h;show wpAny _ A ((compTurn (.ListComp elt [⟨tg,iter,ifs,0⟩] scope pos) 0 it acc env).onRaise (fun y=>do noteFrame y env;theTreesLotGoes y)) _ _ z;refine wpAny_noted ?_;rw[compTurn_list];refine wpAny_bind (wpAny_standAt (wpAny_bind (wpAny_mono (turn n z hJ) (fun r s1 h1=>?_) fun _ _ q=>q)));cases r with
 | none=>exact wpAny_pure h1
 | some v=>
  refine wpAny_bind (wpAny_mono h1 (fun _ s1' h1'=>?_) fun _ _ q=>q);refine wpAny_bind (wpAny_mono h1' (fun _ s2 h2=>wpAny_bind (wpAny_mono h2 (fun ok s3 h3=>?_) fun _ _ q=>q)) fun _ _ q=>q);cases ok with
  | false=>exact wpAny_pure ⟨rfl,h3⟩
  | true=>
   exact wpAny_bind (wpAny_bind (wpAny_mono h3 (fun x s4 h4=>wpAny_bind (wpAny_mono h4 (fun _ s5 h5=>wpAny_pure (wpAny_pure ⟨rfl,h5⟩)) fun _ _ q=>q)) fun _ _ q=>q))
end
noncomputable def fY (mp:List (Option Nat))(σ:St):St:=mp.map fun o=>match o with
 | some j=>(σ[j]?).join
 | none=>none
noncomputable def aW (X:Cx)(N:List Str)(scope:Scope)(cl:List (Str×Addr))(C:Addr)(s:Shared)(H:Hp)(fp:List Addr):Cx:=
 { X with N:=N,s₀:=s,H₀:=H,env:=compEnvC scope cl C X.env,outer:=X.stack,stack:=X.stack,ex:=fp,fn:=fun _=>false,pn:=[],xe:=fun _ _=>False }
noncomputable def kE (NX:List Str)(names:List (Str×NameKind)):List Str->List (Option Nat)->Bool
 | [],[]=>true
 | x::r,o::q=>(match o with
   | none=>names.lookup x == some .local
   | some j=>NX[j]? == some x&&names.lookup x == some .free)&&kE NX names r q
 | _,_=>false
theorem tR {NX:List Str}{names:List (Str×NameKind)}:∀{N:List Str}{mp:List (Option Nat)}{i j:Nat}{x:Str},kE NX names N mp=true->N[i]?=some x->mp[i]?=some (some j)->NX[j]?=some x/\names.lookup x=some .free
 | [],_,i,_,_,_,h,_=>by simp at h
 | _::_,[],_,_,_,h,_,_=>by simp [kE] at h
 | y::r,o::q,0,j,x,h,h1,h2=>by
  simp at h1 h2;subst h1 h2;unfold kE at h;simp only[and_eq_true,beq_iff_eq] at h;exact h.1
 | y::r,o::q,i+1,j,x,h,h1,h2=>by
  unfold kE at h;rw[and_eq_true] at h;exact tR (i:=i) h.2 (by simpa using h1) (by simpa using h2)
theorem tQ {NX:List Str}{names:List (Str×NameKind)}:∀{N:List Str}{mp:List (Option Nat)},kE NX names N mp=true->mp.length=N.length
 | [],[],_=>rfl
 | [],_::_,h=>by simp [kE] at h
 | _::_,[],h=>by simp [kE] at h
 | _::r,_::q,h=>by
  unfold kE at h;rw[and_eq_true] at h;simp [tQ h.2]
structure oF (NX:List Str)(kX:List (Str×NameKind))(N:List Str)(mp:List (Option Nat))(scope:Scope):Prop where
 kind:scope.kind=.function
 nocell:∀y∈scope.names,y.2≠.cell
 locs:∀y∈scope.names,y.2=.local->scope.names.lookup y.1=some .local
 fre:∀y∈scope.names,y.2=.free->kX.lookup y.1=some .cell\/kX.lookup y.1=some .free
 map:kE NX scope.names N mp=true
noncomputable def PTs (X:Cx)(cs:List Expr)(t:TT):Prop:=
 ∀(pins:List (Addr×Obj)) (s:Shared) (σ:St) (H:Hp) (Q:Bool->Hp->Prop),Inv X pins σ H s->t σ H Q ->
  wpAny (model X.prog X.w) X.A (forIn cs true fun c r=>if r=true then do let ok <- isTrue c X.env (eval c X.env);pure (ForInStep.yield ok) else pure (ForInStep.yield r)) (TP X pins σ Q) X.xe s
noncomputable def Qa:TT:=fun _ H Q=>Q true H
theorem Mi {X:Cx}:PTs X [] Qa:=fun _ _ _ H _ I h=>wpAny_tests_nil ⟨H,I,h⟩
theorem Mh {X:Cx}{c:Expr}{t:TT}(h:PT X c t):PTs X [c] t:=fun pins s σ H Q I q=>wpAny_tests_one (h pins s σ H Q I q)
noncomputable def sO (mp:List (Option Nat))(wi:TI)(g:TG)(tc:TT)(te:TE):TE:=fun σ H Q=>wi σ H fun J H1=>
 ∃W:Nat->Nat->List V->St->Hp->Prop,(∃m,W 0 m [] (fY mp σ) H1)/\∀i m acc τ H2,W i m acc τ H2 ->
  (J.stop i H2/\∀d,H2 d=none->Q (.ref d) (upd H2 d (.lst acc))) \/
  (J.go i H2/\acc.length<sizeLine/\∃N:List V->St->Hp->Prop,(∀acc' τ' H',N acc' τ' H'->∃m',m'<m/\W (i+1) m' acc' τ' H')/\∀x H3,J.yld i H2 x H3->g x τ H3 fun τ1 H4=>tc τ1 H4 fun b H5=>
   if b=true then te τ1 H5 fun v H6=>N (acc++[v]) τ1 H6 else N acc τ1 H5)
theorem fj {env:Env}:∀{names:List (Str×NameKind)}{x:Str}{k:NameKind},(names.map fun(n,k)=>if (k == NameKind.free&&env.scope.kind == .function&&env.kindOf n == some .cell) then (n,NameKind.cell) else (n,k)).lookup x=some k ->
  names.lookup x=some k\/(k=.cell/\names.lookup x=some .free)
 | [],_,_,h=>by simp at h
 | (n,k0)::r,x,k,h=>by
  have ih:=@fj env r x k;rw[map_cons] at h;by_cases hc:(k0 == NameKind.free&&env.scope.kind == .function&&env.kindOf n == some .cell)=true
  ·simp only[hc,if_true] at h;cases hx:x == n with
   | true=>
    rw[lookup_cons,hx] at h;have hk:k0=.free:=by
     rw[and_eq_true,and_eq_true] at hc;simpa using hc.1.1
    right;refine⟨(Option.some.inj h).symm,?_⟩;rw[lookup_cons,hx,hk]
   | false=>
    rw[lookup_cons,hx] at h;rw[lookup_cons,hx];exact ih h
  simp only[hc,if_false] at h;cases hx:x == n with
  | true=>
   rw[if_neg (by simp),lookup_cons,hx] at h;rw[lookup_cons,hx];exact .inl h
  | false=>
   rw[if_neg (by simp),lookup_cons,hx] at h;rw[lookup_cons,hx];exact ih h
theorem na0 {b D E:Nat}(h:b<E)(hD:E=D):b≠D:=by omega
theorem na1 {b D E C:Nat}(h:b<E)(hD:E=D)(hC:C=D+1):b≠C:=by omega
theorem na2 {C D:Nat}(hC:C=D+1):D≠C:=by omega
theorem na3 {C D E:Nat}(hD:E=D)(hC:C=D+1):E<=C:=by omega
theorem na4 {D E:Nat}(hD:E=D):E<=D:=by omega
section
variable {X:Cx}{NX N:List Str}{kX:List (Str×NameKind)}{mp:List (Option Nat)}{scope:Scope}{pins:List (Addr×Obj)}{σ:St}{s s':Shared}{H:Hp}{fp:List Addr}{cl:List (Str×Addr)}{C:Addr}
theorem vM (hkX:X.env.scope.names=kX)(S:oF NX kX N mp scope)(I:Inv X pins σ H s)(hfp:∀b∈fp,gR X pins H b)(hold:∀b∈fp,b<s.heap.objs.size)(hC:s.heap.objs.size<=C)
  (hsub:∀x c,cl.lookup x=some c->X.env.cells.lookup x=some c) (hhas:∀y∈scope.names,y.2=.free->∃c,cl.lookup y.1=some c):(aW X N scope cl C s H fp).Ok where
 mod:=I.ok.mod
 kind:=S.kind
 glob:=I.ok.glob
 blt:=I.ok.blt
 above:=hC
 inj:=fun x y c h1 h2=>I.ok.inj x y c (hsub x c h1) (hsub y c h2)
 has:=fun x h=>by
  have key:scope.names.lookup x=some .free:=by
   rcases h with h|h
   ·rcases fj (env:=X.env) (names:=scope.names) h with q|⟨_,q⟩
    ·exact absurd rfl (S.nocell _ (PySem.mem_of_lookup q))
    exact q
   rcases fj (env:=X.env) (names:=scope.names) h with q|⟨q,_⟩
   ·exact q
   cases q
  exact hhas _ (PySem.mem_of_lookup key) rfl
 cab:=fun x c h=>by cases h
 hd:=I.ok.hd
 frames:=I.ok.frames
 stk:=.inl rfl
 exf:=fun b hb=>⟨ne_of_lt (lt_of_lt_of_le (hold b hb) hC),fun x c e=>(hfp b hb).2.2.2.2.1 x c (hsub x c e)⟩
 bs:=I.bs
 bsz:=le_trans I.ok.bsz I.sz
 noex:=fun b o e hb=>by
  rcases(hfp b hb).2.2.2.1 with q|q
  ·exact I.ok.noex b o e q
  exact absurd (lt_of_lt_of_le (lt_of_lt_of_le (lt_size e) I.ok.bsz) q) (lt_irrefl _)
 exfs:=fun b hb hz=>by
  obtain⟨_,h1,h2,_⟩:=hfp b hb;rcases mem_cons.mp (I.lg b hz) with q|q
  ·exact h1 q
  exact h2 q
 nU:=I.stack
 frf:=I.Bv
theorem vN (hNX:X.N=NX)(hkX:X.env.scope.names=kX)(S:oF NX kX N mp scope)(I:Inv X pins σ H s)(hfp:∀b∈fp,gR X pins H b)(hold:∀b∈fp,b<s.heap.objs.size)(hC:s.heap.objs.size<=C)
  (hsub:∀x c,cl.lookup x=some c->X.env.cells.lookup x=some c) (hhas:∀y∈scope.names,y.2=.free->∃c,cl.lookup y.1=some c)
  (ho:s'.os=s.os) (hg:s'.gens=s.gens) (hn:∃m,s'.heap.Ns C m) (hk:∀b o,s.heap.get? b=some o->s'.heap.get? b=some o) {pl:List (Addr×Obj)}
  (hp:∀p∈pl,s'.heap.get? p.1=some p.2/\H p.1=none/\p.1≠C/\p.1∉frs X.stack/\∀v,p.2.data≠.cell v) :
  Inv (aW X N scope cl C s H fp) pl (fY mp σ) H s' where
 ok:=vM hkX S I hfp hold hC hsub hhas
 os:=ho
 bare:=by rw[hg];exact I.bare
 base:=Un.kept hk
 loc:=by
  obtain⟨m,hm⟩:=hn;refine⟨m,hm,fun i x v h1 h2 h3=>?_⟩;have h2':(mp.map fun o=>match o with|some j=>(σ[j]?).join|none=>none)[i]?=some (some v):=h2
  rw[getElem?_map] at h2';cases e:mp[i]? with
  | none=>rw[e] at h2';cases h2'
  | some o=>
   rw[e] at h2';cases o with
   | none=>cases h2'
   | some j=>
    have h4:(σ[j]?).join=some v:=by simpa using h2'
    have h5:σ[j]?=some (some v):=by
     cases q:σ[j]? with
     | none=>rw[q] at h4;cases h4
     | some z=>rw[q] at h4;rw[show z=some v from h4]
    obtain⟨g1,g2⟩:=tR S.map h1 e;have fk:=S.fre _ (PySem.mem_of_lookup g2) rfl;obtain⟨m0,_,hl⟩:=I.loc;have vis:Vis X.env.scope x:=by
     rcases fk with q|q
     ·exact .inr (.inl (by rw[hkX];exact q))
     exact .inr (.inr (by rw[hkX];exact q))
    obtain⟨u,r,l⟩:=hl j x v (by rw[hNX];exact g1) h5 vis;refine⟨u,r,.inr ?_⟩;have l':∃c,X.env.cells.lookup x=some c/\s.heap.IsCell c (some u):=by
     rcases l with⟨q,_⟩|⟨_,q⟩
     ·have q':X.env.scope.names.lookup x=some .local:=q;rw[hkX] at q';rcases fk with z|z
      ·rw[q'] at z;cases z
      rw[q'] at z;cases z
     exact q
    obtain⟨c,hc,oc,hoc,hd⟩:=l';obtain⟨c',hc'⟩:=hhas _ (PySem.mem_of_lookup g2) rfl;have ec:c'=c:=by
     have:=hsub x c' hc';rw[hc] at this;exact(Option.some.inj this).symm
    subst ec;refine⟨?_,c',hc',oc,hk _ _ hoc,hd⟩;rcases h3 with q|q|q
    ·rcases fj (env:=X.env) (names:=scope.names) q with z|⟨z,_⟩
     ·rw[g2] at z;cases z
     cases z
    ·exact .inl q
    exact .inr q
 cell:=fun x c e=>by
  obtain⟨v,o,h1,h2⟩:=I.cell x c (hsub x c e);exact⟨v,o,hk _ _ h1,h2⟩
 free:=I.hok.fresh hC
 freeC:=fun x c e=>I.freeC x c (hsub x c e)
 pin:=fun p hpp=>hp p (by simpa [aW] using hpp)
 hok:=I.hok.kept hk
 len:=by
  show(mp.map _).length=N.length;rw[length_map];exact tQ S.map
set_option maxHeartbeats 8000000 in
theorem M7 {tg iter elt:Expr}{ifs:List Expr}{pos:Pos}{wi:TI}{g:TG}{tc:TT}{te:TE}(N:List Str)(mp:List (Option Nat))(hNX:X.N=NX)(hkX:X.env.scope.names=kX)(S:oF NX kX N mp scope)(hc:X.calm=true)
  (hi:PI X tg iter wi) (hg:∀cl C s H fp,PG (aW X N scope cl C s H fp) tg g) (ht:∀cl C s H fp,PTs (aW X N scope cl C s H fp) ifs tc) (he:∀cl C s H fp,PE (aW X N scope cl C s H fp) elt te)
  (hs:∀x,foldedSetIterable iter X.env x=pure x:=by intro _;rfl):PE X (.ListComp elt [⟨tg,iter,ifs,0⟩] scope pos) (sO mp wi g tc te):=by
 intro pins s σ H Q I h;obtain⟨cl,hcl,hsub,hhas⟩:=vO (env:=X.env) (scope:=scope) fun y hy hf=>I.ok.has y.1 (by
  rcases S.fre y hy hf with q|q
  ·exact .inl (show X.env.scope.names.lookup y.1=_ by rw[hkX];exact q)
  exact .inr (show X.env.scope.names.lookup y.1=_ by rw[hkX];exact q))
 rw[eval_ListComp];refine wpAny_comprehension_free (use:=none) rfl hs hcl S.kind S.locs ?_;refine thn (hi pins s σ H _ I h) fun v s1 h1=>thn h1 fun itv s2 h2=>?_;obtain⟨it,fp,tn,J,H2,e,I2,T,st2,f2,W,⟨m0,w0⟩,turn⟩:=h2;subst e;refine wpAny_newObj_type (wpAny_newFunctionEnv S.nocell (by intro y hy;simp at hy) (fun h3 hns hsb=>?_) S.kind);dsimp only at hns hsb |-;have hold:∀b∈fp,b<s2.heap.objs.size:=fun b hb=>by
  obtain⟨o,q,_⟩:=T.obj _ _ st2 b hb;exact lt_size q
 generalize hD:s2.heap.objs.size=D at hns hsb;generalize hH2:s2.heap.push { cls:=.type "list",dict:=none,data:=.seq ([]:List Value).toArray }=P2 at hns hsb |-;have hC:P2.objs.size=D+1:=by rw[<- hH2,size_push,hD]
 generalize hC':P2.objs.size=C at hns hsb |-;rw[hC'] at hC;have old:∀b o,s2.heap.get? b=some o->h3.get? b=some o:=fun b o q=>by
  have hb:=lt_size q;exact hsb.extBut b o (na1 hb hD hC) (get?_push_of_some _ (hH2 ▸ get?_push_of_some _ q))
 have accD:h3.get? D=some { cls:=.type "list",data:=.seq ([]:List Value).toArray }:=
  hsb.extBut _ _ (na2 hC) (get?_push_of_some _ (by rw[<- hH2,<- hD];exact get?_push_size _ rfl))
 have hfr:D∉frs X.stack:=fun z=>by
  rcases mem_cons.mp (I2.lg D z) with q|q
  ·exact na0 I2.lt hD q.symm
  exact I2.Nv (na4 hD) q
 have I0:Inv (aW X N scope cl C s2 H2 fp) [(D,{ cls:=.type "list",data:=.seq ([]:List Value).toArray })] (fY mp σ) H2 { s2 with heap:=h3,toks:=s2.toks+([]:List (Str×Value)).length }:=
  vN (s':={ s2 with heap:=h3,toks:=s2.toks+([]:List (Str×Value)).length }) hNX hkX S I2 f2 hold (na3 hD hC) hsub hhas rfl rfl ⟨_,hns⟩ old fun p hp=>by
   have ep:=mem_singleton.mp hp;subst ep;exact⟨accD,I2.hok.fresh (na4 hD),na2 hC,hfr,fun v z=>by cases z⟩
 have T0:tn 0 h3:=T.keep _ _ _ st2 fun b _ o q=>old b o q;have loop:∀z:Shared,z={ s2 with heap:=h3,toks:=s2.toks+([]:List (Str×Value)).length } ->
   codeAny (model X.prog X.w) X.A (.compLoop (.ListComp elt [⟨tg,iter,ifs,0⟩] scope pos) 0 (.ref it) (.ref D) (compEnvC scope cl C X.env))
    (compPost (model X.prog X.w) X.A X.xe none (EP X pins σ Q) (.ref D) C) z:=by
  rintro z rfl;have stat:∀{H':Hp}{pl:List (Addr×Obj)},(∀b∈fp,H' b=none)->(∀p∈pl,p.1=D)->∀b∈fp,gR (aW X N scope cl C s2 H2 fp) pl H' b:=fun hn hp b hb=>by
   have hb2:=hold b hb;refine⟨hn b hb,na1 hb2 hD hC,(vM hkX S I2 f2 hold (na3 hD hC) hsub hhas).exfs b hb,.inl hb,fun x c q=>(f2 b hb).2.2.2.2.1 x c (hsub x c q),fun p hpp=>?_⟩;have hpD:=hp p (by simpa [aW] using hpp);rw[hpD];exact(na0 hb2 hD).symm
  refine uc (env:=compEnvC scope cl C X.env) (fun n z=>∃i acc τ H' its k,Inv (aW X N scope cl C s2 H2 fp) [(D,{ cls:=.type "list",data:=.seq (List.toArray its) k })] τ H' z/\tn i z.heap/\(∀b∈fp,H' b=none)/\Vals acc its/\acc.length<=sizeLine/\W i n acc τ H')
   ?_ m0 ⟨0,[],_,H2,[],0,I0,T0,fun b hb=>(f2 b hb).1,.nil,zero_le _,w0⟩
  rintro n s5 ⟨i,acc,τ,H5,its,k,I5,st5,fr5,va,hz,w5⟩;rcases turn i n acc τ H5 w5 with⟨stop,qn⟩|⟨go,hz2,N9,hN9,step⟩
  ·refine thn (T.done (aW X N scope cl C s2 H2 fp) rfl rfl rfl hc i _ s5 τ H5 _ I5 (stat fr5 (by simp)) st5 stop) fun r s6 ⟨hr,I6⟩=>?_;subst hr;obtain⟨m6,hn6,_⟩:=I6.loc;refine⟨m6,hn6,fun h' sb=>?_⟩;obtain⟨dD,nD,_,_,_⟩:=I6.pin (D,_) (mem_append_right _ (mem_singleton.mpr rfl));have U:=I6.base;have nC:H5 C=none:=I6.free;have ne:∀b o,s2.heap.get? b=some o->b≠C/\b≠D:=fun b o q=>by
    exact⟨na1 (lt_size q) hD hC,na0 (lt_size q) hD⟩
   have keepC:∀b o,b≠C->s6.heap.get? b=some o->h'.get? b=some o:=fun b o hb q=>(sb.2 b hb).trans q;have U':Un (frs X.stack) fp H2 (upd H5 D (.lst acc)) s2.heap h':=by
    refine⟨fun b o q n1 hb hx=>keepC b o (ne b o q).1 (U.keep b o q n1 hb hx),fun b o q n1 hb hx=>?_,fun b o q n1 hx=>?_,fun b o q hx=>?_,fun b xs q=>?_,fun b o xs q=>?_,fun b ps q=>?_⟩
    ·obtain⟨sl,z⟩:=U.slot b o q n1 hb hx;exact⟨sl,keepC b _ (ne b o q).1 z⟩
    ·rw[aG (ne b o q).2];exact U.free b o q n1 hx
    ·obtain⟨o',z⟩:=U.there b o q hx;exact⟨o',keepC b _ (ne b o q).1 z⟩
    ·have z:=U.tups b xs q;rw[aG (aD z nD)];exact z
    ·have z:=U.frzs b o xs q;rw[aG (aD z nD)];exact z
    obtain⟨more,z⟩:=U.tbls b ps q;exact⟨more,by rw[aG (aD z nD)];exact z⟩
   have hok:HOk X.prog X.w (upd H5 D (.lst acc)) h':=fun b u q=>by
    by_cases hb:b=D
    ·subst hb;rw[au] at q;cases q;exact⟨hz,its,k,va,keepC _ _ (na2 hC) dD⟩
    rw[aG hb] at q;refine(I6.hok b u q).stay (fun c v hcc z=>keepC c v ?_ z) (fun c z=>by rw[aG (aD z nD)];exact z) fun c xs z=>by rw[aG (aD z nD)];exact z
    rcases hcc with z1|z1
    ·subst z1;exact aD q nC
    exact aD z1 nC
   have I7:Inv X pins σ (upd H5 D (.lst acc)) { s6 with heap:=h' }:=I2.call' (s':={ s6 with heap:=h' }) (ch:=fp) I6.os U' hok I6.bare fun b hb=>by
    obtain⟨_,a2,_,a4,a5,a6⟩:=f2 b hb;exact⟨a4,a2,a5,a6⟩
   exact⟨.ref D,_,I7,rfl,qn D nD⟩
  refine thn (T.item (aW X N scope cl C s2 H2 fp) rfl rfl rfl hc i _ s5 τ H5 _ I5 (stat fr5 (by simp)) st5 go) fun r s6 ⟨u,hr,h6⟩=>?_;subst hr;refine thn h6 fun _ s7 ⟨x,H7,I7,r7,y7,st7,fr7⟩=>?_;have I7':=I7.pinned (stat fr7 (by simp)) (T.obj _ _ st7);have no:∀{α:Type}{t:Sem α}{Q1 Q2:α->Shared->Prop}{E:Value->Shared->Prop}{z:Shared},wpAny (model X.prog X.w) X.A t Q1 (fun _ _=>False) z->(∀a z,Q1 a z->Q2 a z)->wpAny (model X.prog X.w) X.A t Q2 E z:=
   fun q f=>wpAny_mono q f fun _ _ z=>z.elim
  refine no (hg cl C s2 H2 fp _ s7 τ H7 x u _ I7' r7 (step x H7 y7)) fun _ s8 ⟨τ1,H8,I8,q8⟩=>?_;refine no (ht cl C s2 H2 fp _ s8 τ1 H8 _ I8 q8) fun ok s9 ⟨H9,I9,q9⟩=>?_;have again:∀{H':Hp}{z:Shared}{its':List Value}{k':Nat},Inv (aW X N scope cl C s2 H2 fp) ([(D,{ cls:=.type "list",data:=.seq (List.toArray its') k' })]++fG fp s7.heap) τ1 H' z ->
    tn (i+1) z.heap/\(∀b∈fp,H' b=none)/\Inv (aW X N scope cl C s2 H2 fp) [(D,{ cls:=.type "list",data:=.seq (List.toArray its') k' })] τ1 H' z:=fun {H' z its' k'} Iz=>by
   have get:∀b∈fp,∀o,s7.heap.get? b=some o->z.heap.get? b=some o/\H' b=none:=fun b hb o q=>by
    obtain⟨a1,a2,_⟩:=Iz.pin (b,o) (mem_append_right _ (mem_append_right _ (gH hb q)));exact⟨a1,a2⟩
   refine⟨T.keep _ _ _ st7 fun b hb o q=>(get b hb o q).1,fun b hb=>?_,Iz.iC⟩;obtain⟨o,q,_⟩:=T.obj _ _ st7 b hb;exact(get b hb o q).2
  cases ok with
  | false=>
   rw[if_neg Bool.false_ne_true] at q9 |-;obtain⟨m',hm,w9⟩:=hN9 _ _ _ q9;obtain⟨a1,a2,a3⟩:=again I9;exact⟨m',hm,i+1,acc,τ1,H9,its,k,a3,a1,a2,va,hz,w9⟩
  | true=>
   rw[if_pos rfl] at q9 |-;refine no (he cl C s2 H2 fp _ s9 τ1 H9 _ I9 q9) fun y s10 ⟨v,H10,I10,rv,q10⟩=>?_;obtain⟨m',hm,w10⟩:=hN9 _ _ _ q10;obtain⟨a1,a2,a3⟩:=again I10;obtain⟨dD,nD,_,_,_⟩:=a3.pin (D,_) (mem_append_right _ (mem_singleton.mpr rfl));have hlen:=va.length;refine call_meets F.slot_list_append ⟨_,dD,rfl⟩ F.entry_list_append (F.args_list_append_2 _ _) (PySem.list_append D its.toArray k y (by rw[size_toArray];omega)) ⟨dD,?_⟩;obtain⟨k',q⟩:∃k',(s10.heap.update D (Obj.mapSeq fun a=>a.push y)).get? D=some { cls:=.type "list",data:=.seq (its++[y]).toArray k' }:=by
    have q:=PySem.IsL.update dD (fun a=>a.push y);rw[show its.toArray.push y=(its++[y]).toArray by simp] at q;exact⟨_,q⟩
   have a4:Inv (aW X N scope cl C s2 H2 fp) (fG fp s7.heap) τ1 H10 s10:=I10.gW fun p hp=>I10.pin p (mem_append_right _ (mem_append_right _ hp));have a5:Inv (aW X N scope cl C s2 H2 fp) (fG fp s7.heap) τ1 H10 { s10 with heap:=s10.heap.update D (Obj.mapSeq fun a=>a.push y),toks:=s10.toks }:=
    a4.turned (it:=D) (fun b o hb z=>(get?_update_other _ _ (Ne.symm hb)).trans z) nD (na2 hC) (.inr (na4 hD))
     (fun x c z=>by
      obtain⟨_,o,h1,_⟩:=I2.cell x c (hsub x c z);exact na0 (lt_size h1) hD) fun p hp=>by
      have hb:=(jO (by simpa [aW] using hp)).1;exact na0 (hold _ hb) hD
   obtain⟨b1,b2,b3⟩:=(show tn (i+1) (s10.heap.update D (Obj.mapSeq fun a=>a.push y))/\(∀b∈fp,H10 b=none)/\True from
    ⟨T.keep _ _ _ a1 fun b hb o z=>(get?_update_other _ _ (na0 (hold b hb) hD).symm).trans z,a2,trivial⟩)
   refine⟨m',hm,i+1,acc++[v],τ1,H10,its++[y],k',a5.gW fun p hp=>?_,b1,b2,va.append (.cons rv .nil),by rw[length_append,length_singleton];omega,w10⟩;have ep:=mem_singleton.mp hp;subst ep;exact⟨q,nD,na2 hC,hfr,fun v z=>by cases z⟩
 have e1:{ newEnv scope C X.env.globals cl X.env.qual none .none (some X.env) X.env.builtins with scope:=relabel scope X.env }=compEnvC scope cl C X.env:=rfl;exact codeAny_compStart_list (loop _ rfl) (T.self _ 0 _ _ _ T0 (loop _ rfl))
end
section
variable {X:Cx}{pins:List (Addr×Obj)}{σ:St}{H:Hp}{s:Shared}
theorem Inv.lV {ch:List Addr}{h':Heap}{t':Nat}(I:Inv X pins σ H s)(hf:∀b∈ch,gR X pins H b)(k:∀b o,b∉ch->s.heap.get? b=some o->h'.get? b=some o):Inv X pins σ H { s with heap:=h',toks:=t' }:=by
 have nit:∀b u,H b=some u->b∉ch:=fun b u e z=>by rw[(hf b z).1] at e;cases e
 refine I.step (g':=s.gens) (d':=s.drawn) (ch:=ch) (fun b hb=>?_) (fun b o _ _ hc e _=>k b o hc e) (fun b o _ _ hc e _=>⟨o.slots,k b o hc e⟩) (fun _ _ _ _ n=>n)
  (fun b o hc e=>⟨o,k b o hc e⟩) (fun _ _ e=>e) (fun _ _ _ e=>e) (fun b ps e=>⟨#[],by rw[e];simp⟩) (fun m hm=>?_) (fun b u e=>?_) I.bare
 ·obtain⟨_,a2,_,a4,a5,a6⟩:=hf b hb;exact⟨a4,a2,a5,a6⟩
 ·obtain⟨o,es,ep,ho,r⟩:=hm;exact⟨o,es,ep,k _ o (fun z=>(hf _ z).2.1 rfl) ho,r⟩
 refine(I.hok b u e).stay (fun c v hc q=>k c v ?_ q) (fun _ q=>q) fun _ _ q=>q;rcases hc with z|z
 ·rw[z];exact nit b u e
 exact nit c _ z
theorem Inv.Bq {ch:List Addr}{h':Heap}{t':Nat}{p:Addr}{o:HO}(I:Inv X pins σ H s)(hf:∀b∈ch,gR X pins H b)(k:∀b o,b∉ch->s.heap.get? b=some o->h'.get? b=some o)(hp:s.heap.objs.size<=p)
  (new:bI X.prog X.w (upd H p o) h' p o):Inv X pins σ (upd H p o) { s with heap:=h',toks:=t' }:=by
 have hn:H p=none:=I.hok.fresh hp;have nit:∀b u,H b=some u->b∉ch:=fun b u e z=>by rw[(hf b z).1] at e;cases e
 have lt:∀b u,s.heap.get? b=some u->b≠p:=fun b u e=>ne_of_lt (lt_of_lt_of_le (lt_size e) hp);refine I.step (g':=s.gens) (d':=s.drawn) (ch:=ch) (fun b hb=>?_) (fun b o _ _ hc e _=>k b o hc e) (fun b o _ _ hc e _=>⟨o.slots,k b o hc e⟩) (fun b o _ e n=>by rw[aG (lt b o e)];exact n)
  (fun b o hc e=>⟨o,k b o hc e⟩) (fun b xs e=>by rw[aG (aD e hn)];exact e) (fun b u xs e=>by rw[aG (aD e hn)];exact e) (fun b ps e=>⟨#[],by rw[aG (aD e hn),e];simp⟩) (fun m hm=>?_) (fun b u e=>?_) I.bare
 ·obtain⟨_,a2,_,a4,a5,a6⟩:=hf b hb;exact⟨a4,a2,a5,a6⟩
 ·obtain⟨o,es,ep,ho,r⟩:=hm;exact⟨o,es,ep,k _ o (fun z=>(hf _ z).2.1 rfl) ho,r⟩
 by_cases hb:b=p
 ·subst hb;rw[au] at e;cases e;exact new
 rw[aG hb] at e;refine(I.hok b u e).stay (fun c v hc q=>k c v ?_ q) (fun c q=>by rw[aG (aD q hn)];exact q) fun c xs q=>by rw[aG (aD q hn)];exact q
 rcases hc with z|z
 ·rw[z];exact nit b u e
 exact nit c _ z
end
noncomputable def Itz (K:PySem.W.Frag)(a b:Addr):It:=
 ⟨fun i H=>∃xs ys x y,SqL K H a xs/\SqL K H b ys/\xs[i]?=some x/\ys[i]?=some y,
  fun i H v H'=>∃p x y,v=.ref p/\H p=none/\H'=upd H p (.tup [x,y])/\(∀xs,SqL K H a xs->xs[i]?=some x)/\∀ys,SqL K H b ys->ys[i]?=some y,
  fun i H=>∃xs ys,SqL K H a xs/\SqL K H b ys/\(xs[i]?=none\/ys[i]?=none)⟩
theorem Gj {P:Program}{w:World}{K:PySem.W.Frag}{es:List Expr}{kk:Nat}{tpos:Pos}{z TI TO i1 i2 l1 l2:Addr}(D:ZipApart z TI TO i1 i2 l1 l2) :
  Turn P w K (.Tuple es kk tpos) (Itz K l1 l2) [z,TI,TO,i1,i2] z (fun i h=>IsZip h z TI TO .none/\IsPair h TI (.ref i1) (.ref i2)/\(∃a b,IsPair h TO a b)/\h.IsListIter i1 l1 i/\h.IsListIter i2 l2 i) where
 mem:=by simp
 obj:=fun i h st b hb=>by
  obtain⟨hz,hTI,⟨a,b',hTO⟩,⟨o1,e1,c1,d1⟩,⟨o2,e2,c2,d2⟩⟩:=st;simp only[mem_cons,not_mem_nil,or_false] at hb;rcases hb with rfl|rfl|rfl|rfl|rfl
  ·exact⟨_,hz,fun v q=>by cases q⟩
  ·exact⟨_,hTI,fun v q=>by cases q⟩
  ·exact⟨_,hTO,fun v q=>by cases q⟩
  ·exact⟨o1,e1,fun v q=>by rw[d1] at q;cases q⟩
  exact⟨o2,e2,fun v q=>by rw[d2] at q;cases q⟩
 keep:=fun i h h' st k=>by
  obtain⟨hz,hTI,⟨a,b',hTO⟩,h1,h2⟩:=st;exact⟨k z (by simp) _ hz,k TI (by simp) _ hTI,⟨a,b',k TO (by simp) _ hTO⟩,h1.at fun o e=>k i1 (by simp) o e,h2.at fun o e=>k i2 (by simp) o e⟩
 item:=by
  intro X hP hw hK hc i pins s σ H E I hf st hg;subst hP hw hK;obtain⟨xs,ys,x,y,q1,q2,hx,hy⟩:=hg;obtain⟨its1,rv1,p1,hz1⟩:=I.list q1;obtain⟨its2,rv2,p2,hz2⟩:=I.list q2;obtain⟨u1,hu1,ru1⟩:=rv1.get hx;obtain⟨u2,hu2,ru2⟩:=rv2.get hy;obtain⟨hz,hTI,⟨a,b',hTO⟩,h1,h2⟩:=st;refine wpAny_pyNext_zip_item D hz hTI hTO h1 h2 p1.isList p2.isList (x:=u1) (y:=u2) (by simpa using hu1) (by simpa using hu2) fun h' a1 a2 a3 a4 a5 a6 hk=>?_;have new:bI X.prog X.w (upd H s.heap.objs.size (.tup [x,y])) h' s.heap.objs.size (.tup [x,y]):=⟨by show 2<=sizeLine;decide,[u1,u2],.cons ru1 (.cons ru2 .nil),_,a5,rfl,_,rfl⟩;have I1:Inv X pins σ (upd H s.heap.objs.size (.tup [x,y])) { s with heap:=h' }:=I.Bq (t':=s.toks) (ch:=[z,TO,i1,i2]) (fun b hb=>hf b (by
   simp only[mem_cons,not_mem_nil,or_false] at hb |-;rcases hb with r|r|r|r <;> simp [r]))
   (fun b o hb e=>hk b o (fun q=>hb (by simp [q])) (fun q=>hb (by simp [q])) (fun q=>hb (by simp [q])) (fun q=>hb (by simp [q])) e) (le_refl _) new
  have hTI':IsPair h' TI (.ref i1) (.ref i2):=hk _ _ D.TIz D.TITO D.TIi1 D.TIi2 hTI;have hsz:∀b,b∈[z,TI,TO,i1,i2]->b≠s.heap.objs.size:=fun b hb=>by
   obtain⟨_,_,hlt,_⟩:=hf b hb;have lt:∃o,s.heap.get? b=some o:=by
    simp only[mem_cons,not_mem_nil,or_false] at hb;rcases hb with rfl|rfl|rfl|rfl|rfl
    ·exact⟨_,hz⟩
    ·exact⟨_,hTI⟩
    ·exact⟨_,hTO⟩
    ·obtain⟨o,e,_⟩:=h1;exact⟨o,e⟩
    obtain⟨o,e,_⟩:=h2;exact⟨o,e⟩
   obtain⟨o,e⟩:=lt;exact ne_of_lt (lt_size e)
  refine⟨_,rfl,wpAny_letOwnedTupleGo_zip (s:={ s with heap:=h' }) a1 fun h'' z2 sb=>?_⟩;have fz:=hf z (by simp);have I2:Inv X pins σ (upd H s.heap.objs.size (.tup [x,y])) { s with heap:=h'' }:=Inv.turned (s:={ s with heap:=h' }) (it:=z) (t':=s.toks) I1 (fun b o hb e=>(sb.2 b hb).trans e) (by rw[aG (hsz z (by simp))];exact fz.1) fz.2.1 fz.2.2.2.1 fz.2.2.2.2.1 fz.2.2.2.2.2;refine⟨.ref s.heap.objs.size,_,I2,rfl,⟨_,x,y,rfl,I.fresh,rfl,fun xs' q=>by rw[I.jy q q1];exact hx,fun ys' q=>by rw[I.jy q q2];exact hy⟩,
   ⟨z2,(sb.2 _ D.TIz).trans hTI',⟨_,_,(sb.2 _ D.TOz).trans a2⟩,a3.extBut sb.extBut D.i1z,a4.extBut sb.extBut D.i2z⟩,fun b hb=>by rw[aG (hsz b hb)];exact(hf b hb).1⟩
 done:=by
  intro X hP hw hK hc i pins s σ H E I hf st hg;subst hP hw hK;obtain⟨xs,ys,q1,q2,hx⟩:=hg;obtain⟨its1,rv1,p1,hz1⟩:=I.list q1;obtain⟨its2,rv2,p2,hz2⟩:=I.list q2;obtain⟨hz,hTI,⟨a,b',hTO⟩,h1,h2⟩:=st;have hend:its1.toArray[i]?=none\/its2.toArray[i]?=none:=by
   rcases hx with r|r
   ·exact .inl (by simpa using rv1.none_of r)
   exact .inr (by simpa using rv2.none_of r)
  refine wpAny_pyNext_zip_end (I.ok.hd hc) D hz hTI hTO h1 h2 p1.isList p2.isList hend fun h' hk=>⟨rfl,?_⟩;exact I.lV (t':=s.toks) (ch:=[z,TO,i1,i2]) (fun b hb=>hf b (by
   simp only[mem_cons,not_mem_nil,or_false] at hb |-;rcases hb with r|r|r|r <;> simp [r]))
   (fun b o hb e=>hk b o (fun q=>hb (by simp [q])) (fun q=>hb (by simp [q])) (fun q=>hb (by simp [q])) (fun q=>hb (by simp [q])) e)
 self:=fun _ _ _ _ _ st h=>wpAny_pyIter_zip st.1 h
noncomputable def Ite (K:PySem.W.Frag)(a:Addr):It:=
 ⟨fun i H=>∃xs x,SqL K H a xs/\xs[i]?=some x,
  fun i H v H'=>∃p x,v=.ref p/\H p=none/\H'=upd H p (.tup [.int (i:Nat),x])/\∀xs,SqL K H a xs->xs[i]?=some x,
  fun i H=>∃xs,SqL K H a xs/\xs[i]?=none⟩
theorem Dw {P:Program}{w:World}{K:PySem.W.Frag}{es:List Expr}{kk:Nat}{tpos:Pos}{e it l:Addr}(hne:e≠it) :
  Turn P w K (.Tuple es kk tpos) (Ite K l) [e,it] e (fun i h=>(∃old,IsEnum h e it ((i:Nat):Int) old)/\h.IsListIter it l i) where
 mem:=by simp
 obj:=fun i h st b hb=>by
  obtain⟨⟨old,he⟩,⟨o1,e1,c1,d1⟩⟩:=st;simp only[mem_cons,not_mem_nil,or_false] at hb;rcases hb with rfl|rfl
  ·exact⟨_,he,fun v q=>by cases q⟩
  exact⟨o1,e1,fun v q=>by rw[d1] at q;cases q⟩
 keep:=fun i h h' st k=>by
  obtain⟨⟨old,he⟩,h1⟩:=st;exact⟨⟨old,k e (by simp) _ he⟩,h1.at fun o q=>k it (by simp) o q⟩
 item:=by
  intro X hP hw hK hc i pins s σ H E I hf st hg;subst hP hw hK;obtain⟨xs,x,q1,hx⟩:=hg;obtain⟨its1,rv1,p1,hz1⟩:=I.list q1;obtain⟨u1,hu1,ru1⟩:=rv1.get hx;obtain⟨⟨old,he⟩,h1⟩:=st;refine wpAny_pyNext_enum_item he h1 p1.isList (x:=u1) (by simpa using hu1) hne fun h' a1 a2 a3 a4 hk=>?_;have new:bI X.prog X.w (upd H s.heap.objs.size (.tup [.int (i:Nat),x])) h' s.heap.objs.size (.tup [.int (i:Nat),x]):=⟨by show 2<=sizeLine;decide,[.int (i:Nat) s.toks,u1],.cons ⟨_,rfl⟩ (.cons ru1 .nil),_,a3,rfl,_,rfl⟩;have I1:Inv X pins σ (upd H s.heap.objs.size (.tup [.int (i:Nat),x])) { s with heap:=h',toks:=s.toks+1 }:=I.Bq (ch:=[e,it]) hf
   (fun b o hb q=>hk b o (fun z=>hb (by simp [z])) (fun z=>hb (by simp [z])) q) (le_refl _) new
  have hsz:∀b,b∈[e,it]->b≠s.heap.objs.size:=fun b hb=>by
   have lt:∃o,s.heap.get? b=some o:=by
    simp only[mem_cons,not_mem_nil,or_false] at hb;rcases hb with rfl|rfl
    ·exact⟨_,he⟩
    obtain⟨o,q,_⟩:=h1;exact⟨o,q⟩
   obtain⟨o,q⟩:=lt;exact ne_of_lt (lt_size q)
  refine⟨_,rfl,wpAny_letOwnedTupleGo_enum (s:={ s with heap:=h',toks:=s.toks+1 }) a1 fun h'' z2 sb=>?_⟩;have fz:=hf e (by simp);have I2:Inv X pins σ (upd H s.heap.objs.size (.tup [.int (i:Nat),x])) { s with heap:=h'',toks:=s.toks+1 }:=Inv.turned (s:={ s with heap:=h',toks:=s.toks+1 }) (it:=e) I1 (fun b o hb q=>(sb.2 b hb).trans q) (by rw[aG (hsz e (by simp))];exact fz.1) fz.2.1 fz.2.2.2.1 fz.2.2.2.2.1 fz.2.2.2.2.2;refine⟨.ref s.heap.objs.size,_,I2,rfl,⟨_,x,rfl,I.fresh,rfl,fun xs' q=>by rw[I.jy q q1];exact hx⟩,
   ⟨⟨_,by simpa using z2⟩,a2.extBut sb.extBut hne.symm⟩,fun b hb=>by rw[aG (hsz b hb)];exact(hf b hb).1⟩
 done:=by
  intro X hP hw hK hc i pins s σ H E I hf st hg;subst hP hw hK;obtain⟨xs,q1,hx⟩:=hg;obtain⟨its1,rv1,p1,hz1⟩:=I.list q1;obtain⟨⟨old,he⟩,h1⟩:=st;refine wpAny_pyNext_enum_end (I.ok.hd hc) he h1 p1.isList (by simpa using rv1.none_of hx) fun h' hk=>⟨rfl,?_⟩;exact I.lV (t':=s.toks) (ch:=[e,it]) hf (fun b o hb q=>hk b o (fun z=>hb (by simp [z])) q)
 self:=fun _ _ _ _ _ st h=>by
  obtain⟨⟨old,he⟩,_⟩:=st;exact wpAny_pyIter_enum he h
theorem Vals.bools:∀{bs:List Bool}{us:List Value},Vals (bs.map V.bl) us->us=bs.map Value.bool
 | [],_,.nil=>rfl
 | _::_,_,.cons r t=>by rw[Vals.bools t,(show _=Value.bool _ from r)];rfl
section
variable {X:Cx}
theorem FN (bs:List Bool):((List.range bs.length).all fun i=>(bs[i]?).getD true)=bs.all id:=by
 rw[Bool.eq_iff_iff,all_eq_true,all_eq_true];constructor
 ·intro h b hb;obtain⟨i,hi,rfl⟩:=List.getElem_of_mem hb;have:=h i (mem_range.mpr hi);rw[getElem?_eq_getElem hi] at this;exact this
 intro h i hi;have hi':=mem_range.mp hi;rw[getElem?_eq_getElem hi'];exact h _ (getElem_mem hi')
noncomputable def QD (K:PySem.W.Frag)(f:List Bool->Bool):List V->Hp->VK->Prop:=fun xs H Q=>∃p bs,xs=[.ref p]/\SqL K H p (List.map V.bl bs)/\Q (.bl (f bs)) H
theorem Kg (hc:X.calm=true):cN X (.builtin "all") (QD X.K fun bs=>bs.all id):=by
 intro pins s σ H xs us Q I r h;obtain⟨p,bs,rfl,hq,q⟩:=h;cases r with
 | cons r rr=>
  cases rr;cases r;obtain⟨its,rv,pl,hz⟩:=I.list hq;have e:=rv.bools;subst e;have lt:p<s.heap.objs.size:=by obtain⟨_,e,_⟩:=pl.isList;exact lt_size e
  refine call_all_walk (wpAny_pyIter_list pl.isList ?_);refine⟨s.heap.objs.size,[s.heap.objs.size,p],[s.heap.objs.size],(bs.map Value.bool).toArray.size,_,_,fun i=>(bs[i]?).getD true,rfl,Walks.list (A:=X.A.in1) (I.ok.hd hc) _ p (ne_of_lt lt) _,
   ⟨⟨_,get?_push_size _ rfl,rfl,rfl⟩,pl.isList.push _⟩,fun i v s' Q' E' hP hQ=>?_,fun h' tk hk=>?_⟩
  ·have e:(bs.map Value.bool)[i]?=some v:=by simpa using hP
   rw[getElem?_map] at e;cases z:bs[i]? with
   | none=>rw[z] at e;cases e
   | some b=>
    rw[z] at e;have e':Value.bool b=v:=Option.some.inj e;subst e';dsimp only at hQ;rw[z] at hQ;exact wpAny_truthy_bool hQ
  rw[size_toArray,length_map,FN];refine⟨.bl _,H,I.kept fun b o e=>hk b o (fun hm=>?_) (get?_push_of_some _ e),rfl,q⟩;rw[mem_singleton.mp hm] at e;exact lt_irrefl _ (lt_size e)
noncomputable def Vs (K:PySem.W.Frag):List V->Hp->VK->Prop:=fun xs H Q=>∃x T t b,xs=[x,.ty T]/\jW K H x t/\kitOne K t (.type T)=some b/\Q (.bl b) H
theorem Kf:cN X (.builtin "isinstance") (Vs X.K):=by
 intro pins s σ H xs us Q I r h;obtain⟨x,T,t,b,rfl,ty,e,q⟩:=h;cases r with
 | cons r rr=>
  cases rr with
  | cons r' rr=>
   cases rr;cases (show _=Value.type T from r');exact Es I r ty e fun tk=>⟨.bl b,H,I.tok tk,rfl,q⟩
noncomputable def Uo (K:PySem.W.Frag):List V->Hp->VK->Prop:=fun xs H Q=>∃x p Ts t b,xs=[x,.ref p]/\SqT K H p (List.map V.ty Ts)/\jW K H x t/\PySem.W.kitAny K t (Ts.map Value.type)=some b/\Q (.bl b) H
theorem Vals.types:∀{bs:List String}{us:List Value},Vals (bs.map V.ty) us->us=bs.map Value.type
 | [],_,.nil=>rfl
 | _::_,_,.cons r t=>by rw[Vals.types t,(show _=Value.type _ from r)];rfl
theorem Vv {x:V}{u t:Value}{pins:List (Addr×Obj)}{σ:St}{H:Hp}{s:Shared}(I:Inv X pins σ H s)(rx:RelV x u)(ty:jW X.K H x t)(hl:∀a C dx fs,H a=some (.ins C dx fs)->x≠.ref a) :
  ∃Hh:Heap->Prop,PySem.W.KitX X.K u t Hh/\Hh s.heap/\u≠.builtin "__main__.__loader__#opaque" := by
 cases ty with
 | non=>cases (show u=Value.none from rx);exact⟨_,PySem.W.kitx_none,True.intro,fun z=>nomatch z⟩
 | bl y=>cases (show u=Value.bool y from rx);exact⟨_,PySem.W.kitx_bool,True.intro,fun z=>nomatch z⟩
 | int i=>obtain⟨t,q⟩:=(show ∃t,u=Value.int i t from rx);cases q;exact⟨_,PySem.W.kitx_int,True.intro,fun z=>nomatch z⟩
 | str y=>obtain⟨t,q⟩:=(show ∃t,u=Value.str y t from rx);cases q;exact⟨_,PySem.W.kitx_str,True.intro,fun z=>nomatch z⟩
 | flt y=>obtain⟨t,q⟩:=(show ∃t,u=Value.float y t from rx);cases q;exact⟨_,PySem.W.kitx_float,True.intro,fun z=>nomatch z⟩
 | @lst a xs ea=>
  cases (show u=Value.ref a from rx);obtain⟨_,_,n,_,h1⟩:=(show bI X.prog X.w H s.heap a (.lst xs) from I.hok a _ ea);exact⟨_,PySem.W.kitx_list,⟨_,h1,rfl⟩,fun z=>nomatch z⟩
 | @frz a ob xs ea=>
  cases (show u=Value.ref a from rx);obtain⟨_,_,_,n,_,h1⟩:=(show bI X.prog X.w H s.heap a (.frz ob (.lst xs)) from I.hok a _ ea);exact⟨_,PySem.W.kitx_list,⟨_,h1,rfl⟩,fun z=>nomatch z⟩
 | @tup a xs ea=>
  cases (show u=Value.ref a from rx);obtain⟨_,_,_,p⟩:=(show bI X.prog X.w H s.heap a (.tup xs) from I.hok a _ ea);obtain⟨o,h1,h2,_⟩:=p;exact⟨_,PySem.W.kitx_tuple,⟨o,h1,h2⟩,fun z=>nomatch z⟩
 | @dK a kvs ea=>
  cases (show u=Value.ref a from rx);obtain⟨_,_,vs,_,p⟩:=(show bI X.prog X.w H s.heap a (.dK kvs) from I.hok a _ ea);obtain⟨o,es,ep,h1,h2,_⟩:=p;exact⟨_,PySem.W.kitx_dict,⟨o,h1,h2.1⟩,fun z=>nomatch z⟩
 | @dT a kvs ea=>
  cases (show u=Value.ref a from rx);obtain⟨_,_,xs,_,o,es,ep,h1,h2,_⟩:=(show bI X.prog X.w H s.heap a (.dT kvs) from I.hok a _ ea);exact⟨_,PySem.W.kitx_dict,⟨o,h1,h2.1⟩,fun z=>nomatch z⟩
 | @ins a C dx fs ea cl ha hn htk hm=>exact absurd rfl (hl a C dx fs ea)
theorem Fv:cN X (.builtin "isinstance") (fun xs H Q=>Uo X.K xs H Q/\∀a C dx fs,H a=some (.ins C dx fs)->xs.head?≠some (.ref a)):=by
 intro pins s σ H xs us Q I r h;obtain⟨⟨x,p,Ts,t,b,rfl,hq,ty,e,q⟩,hl⟩:=h;cases r with
 | cons r rr=>
  cases rr with
  | cons r' rr=>
   cases rr;cases r';obtain⟨Hh,Z,hh,ne⟩:=Vv I r ty fun a C dx fs z w'=>hl a C dx fs z (by rw[w'];rfl);obtain⟨its,rv,⟨o,ho,hcl,n,hd⟩,hz⟩:=I.tuple hq;have ei:=rv.types;subst ei;obtain⟨c0,d0,dt0,sl0⟩:=o;cases (show c0=Value.type "tuple" from hcl);cases (show dt0=Data.seq (List.map Value.type Ts).toArray n from hd);exact PySem.W.kia_tup Z I.kIn hh ho e ne fun tk=>⟨.bl b,H,I.tok tk,rfl,q⟩
end
inductive Tn (H:Hp):V->String->Prop where
 | non:Tn H .non "NoneType"
 | bl (b:Bool):Tn H (.bl b) "bool"
 | int (i:Int):Tn H (.int i) "int"
 | str (x:Str):Tn H (.str x) "str"
 | lst {a:Addr} {xs:List V} (e:H a=some (.lst xs)):Tn H (.ref a) "list"
 | tup {a:Addr} {xs:List V} (e:H a=some (.tup xs)):Tn H (.ref a) "tuple"
theorem Tn.ty {K:PySem.W.Frag}{H:Hp}{x:V}{t:String}(h:Tn H x t):jW K H x (.type t):=by
 cases h with
 | non=>exact .non
 | bl b=>exact .bl b
 | int i=>exact .int i
 | str x=>exact .str x
 | lst e=>exact .lst e
 | tup e=>exact .tup e
noncomputable def cQ (t T:String):Bool:=t == T||(t == "bool" && T == "int")
noncomputable def dg:List String:=["NoneType","bool","int","str","list","tuple"]
theorem CG (K:PySem.W.Frag):∀t∈dg,∀T∈dg,kitOne K (.type t) (.type T)=some (cQ t T):=by
 intro t ht T hT;simp only[dg,mem_cons,not_mem_nil,or_false] at ht hT;rcases ht with rfl|rfl|rfl|rfl|rfl|rfl <;> rcases hT with rfl|rfl|rfl|rfl|rfl|rfl <;> first|rfl|kernel_rfl
theorem Tn.known {H:Hp}{x:V}{t:String}(h:Tn H x t):t∈dg:=by cases h <;> decide
section
variable {X:Cx}
theorem Fy:cN X (.builtin "isinstance") (fun xs H Q=>∃x T t,xs=[x,.ty T]/\Tn H x t/\T∈dg/\Q (.bl (cQ t T)) H):=by
 intro pins s σ H xs us Q I r h;obtain⟨x,T,t,rfl,ty,hT,q⟩:=h;exact Kf pins s σ H _ us Q I r ⟨x,T,_,_,rfl,ty.ty,CG X.K t ty.known T hT,q⟩
theorem CJ (K:PySem.W.Frag){t:String}(ht:t∈dg):∀Ts:List String,(∀T∈Ts,T∈dg)->PySem.W.kitAny K (.type t) (Ts.map Value.type)=some (Ts.any fun T=>cQ t T)
 | [],_=>rfl
 | T::r,h=>by
  have e:=CG K t ht T (h T mem_cons_self);have ih:=CJ K ht r fun T' h'=>h T' (mem_cons_of_mem _ h');show(match kitOne K (.type t) (.type T) with|some true=>some true|some false=>PySem.W.kitAny K (.type t) (r.map Value.type)|none=>none)=_
  rw[e,any_cons];cases cQ t T with
  | true=>rfl
  | false=>exact ih
theorem Fx:cN X (.builtin "isinstance") (fun xs H Q=>∃x p Ts t,xs=[x,.ref p]/\H p=some (.tup (List.map V.ty Ts))/\Tn H x t/\(∀T∈Ts,T∈dg)/\Q (.bl (Ts.any fun T=>cQ t T)) H):=by
 intro pins s σ H xs us Q I r h;obtain⟨x,p,Ts,t,rfl,hp,ty,hT,q⟩:=h;refine Fv pins s σ H _ us Q I r ⟨⟨x,p,Ts,_,_,rfl,SqT.of hp,ty.ty,CJ X.K ty.known Ts hT,q⟩,fun a C dx fs e z=>?_⟩;have z':x=.ref a:=by simpa using z
 subst z';cases ty with
 | lst e'=>rw[e] at e';cases e'
 | tup e'=>rw[e] at e';cases e'
noncomputable def Pz (i j:Int):Prop:=0<j/\j<2^70
theorem xu:OpR X (binaryOp .FloorDiv) (rI Pz fun i j=>.int (i/j)):=opI fun i j _ _ _ _ _ hc q=>by
 have h1:(0:Int)<j:=hc.1;have h2:j<2^70:=hc.2;refine floordiv_int ω (by rw[Int.fdiv_eq_ediv_of_nonneg i ω];exact q) (.inl (PyProof.noPylong_of_log2 ?_));have h3:j.natAbs≠0:=ω;have h4:j.natAbs.log2<70:=(Nat.log2_lt h3).mpr ω;omega
end
noncomputable def aV (p:Addr)(H H':Hp):Prop:=∀b o,b≠p->H b=some o->H' b=some o
theorem aV.refl (p:Addr)(H:Hp):aV p H H:=fun _ _ _ h=>h
theorem aV.trans {p:Addr}{H H1 H2:Hp}(a:aV p H H1)(b:aV p H1 H2):aV p H H2:=fun c o n h=>b c o n (a c o n h)
theorem aV.upd {p:Addr}{H:Hp}{o:HO}:aV p H (upd H p o):=fun b u n h=>by rw[aG n];exact h
theorem Same.x {p:Addr}{H H':Hp}(h:Same H H'):aV p H H':=fun b o _ q=>h b o q
theorem ao {H:Hp}{p:Addr}{o:HO}(h:H p=none):Same H (upd H p o):=fun b u q=>by rw[aG (aD q h)];exact q
theorem aV.seq {K:PySem.W.Frag}{p:Addr}{H H':Hp}{a:Addr}{xs:List V}(e:aV p H H')(n:a≠p)(h:SqL K H a xs):SqL K H' a xs:=by
 rcases h with(h|⟨o,h⟩)|h
 ·exact .inl (.inl (e _ _ n h))
 ·exact .inl (.inr ⟨o,e _ _ n h⟩)
 exact .inr h
structure Cal (P:Program)(w:World)(K:PySem.W.Frag)(mg:Str->Option Value)(base:Heap)(x:Str)(k:Nat)(ps:List Str)(sp:Sp):Prop where
 ex:∃(f:Addr)(fd:FuncData),dW P w K mg base CX0 k f fd ps sp/\Binds K fd ps []/\keepIn K (.ref f)=true/\mg x=some (.ref f)
section
variable {X:Cx}{k:Nat}{ps:List Str}{sp:Sp}{x:Str}{p pos:Pos}{e:Expr}{es:List Expr}{t:TA}
theorem RD (C:Cal X.prog X.w X.K X.mg X.base x k ps sp) (hr:dN k X.A) (hg:Gl X x) (ha:PA X (e::es) t) (hdb:(x == ("__debug__" : Str))=false:=by decide)
  (he:starEach (e::es) X.env=(false,eval e X.env)::starEach es X.env:=by rfl) (hpl:(backTo pos (starEach es X.env)).any (·.1)=false:=by rfl):PE X (.Call (.Name x p) (e::es) [] pos) (wB sp [] E0 t):=by
 obtain⟨f,fd,F,b,kp,hm⟩:=C.ex;exact M9 F hr hg hm kp b .nil U0 ha hdb he hpl
end
structure iz (K:PySem.W.Frag)(mg:Str->Option Value)(x:Str)(st:Stmt)(ps:List Str)(f:Addr)(fd:FuncData):Prop where
 fn:Fun K x x st f fd
 bd:Binds K fd ps []
 nm:mg x=some (.ref f)
theorem iz.cal {P:Program}{w:World}{K:PySem.W.Frag}{mg:Str->Option Value}{base:Heap}{x:Str}{st:Stmt}{ps:List Str}{f:Addr}{fd:FuncData}{k:Nat}{sp:Sp}(D:iz K mg x st ps f fd)(F:dW P w K mg base CX0 k f fd ps sp):Cal P w K mg base x k ps sp:=
 ⟨f,fd,F,D.bd,D.fn.kp,D.nm⟩
theorem G7 (i j:Int):DK (.int i) (.int j)=true:=rfl
theorem K8 (i j:Bool):DK (.bl i) (.bl j)=true:=rfl
theorem G5 (i j:Str):DK (.str i) (.str j)=true:=rfl
theorem G6:DK .non .non=true:=rfl
theorem Dr {α:Type}(a:α)(r:List α):atI (a::r) 0=some a:=dh (j:=0) rfl
theorem Vj {α:Type}(a b:α)(r:List α):atI (a::b::r) 1=some b:=dh (j:=1) rfl
theorem Vi {α:Type}(a b c:α)(r:List α):atI (a::b::c::r) 2=some c:=dh (j:=2) rfl
theorem JN:ixN 3 0=some 0/\ixN 3 1=some 1/\ixN 3 2=some 2:=⟨δ,δ,δ⟩
theorem aK {n:Nat}(h:n<=1000000):n<=sizeLine:=le_trans h δ
noncomputable def ixq (o:Option HO)(i:Int)(H:Hp)(Q:VK):Prop:=match o with
 | some (.lst xs)=>∃v,atI xs i=some v/\Q v H
 | some (.tup xs)=>∃v,atI xs i=some v/\Q v H
 | _=>False
noncomputable def stq (o:Option HO)(p:Addr)(k:Int)(v:V)(H:Hp)(Q:Hp->Prop):Prop:=match o with
 | some (.lst xs)=>∃j,ixN xs.length k=some j/\Q (upd H p (.lst (xs.set j v)))
 | _=>False
noncomputable def lnq (o:Option HO)(H:Hp)(Q:VK):Prop:=match o with
 | some (.lst ys)=>Q (.int ys.length) H
 | some (.tup ys)=>Q (.int ys.length) H
 | _=>False
noncomputable def QM:R2:=fun x y H Q=>match x,y with
 | .ref p,.int i=>ixq (H p) i H Q
 | _,_=>False
noncomputable def Hr:V->V->V->Hp->(Hp->Prop)->Prop:=fun o i v H Q=>match o,i with
 | .ref p,.int k=>stq (H p) p k v H Q
 | _,_=>False
noncomputable def Hw:List V->Hp->VK->Prop:=fun xs H Q=>match xs with
 | [.ref p]=>lnq (H p) H Q
 | _=>False
theorem Hx (p:Addr)(i:Int)(H:Hp)(Q:VK):QM (.ref p) (.int i) H Q=ixq (H p) i H Q:=rfl
theorem DW (p:Addr)(k:Int)(v:V)(H:Hp)(Q:Hp->Prop):Hr (.ref p) (.int k) v H Q=stq (H p) p k v H Q:=rfl
theorem DY (p:Addr)(H:Hp)(Q:VK):Hw [.ref p] H Q=lnq (H p) H Q:=rfl
theorem Oa (xs:List V)(i:Int)(H:Hp)(Q:VK):ixq (some (.lst xs)) i H Q=∃v,atI xs i=some v/\Q v H:=rfl
theorem N8 (xs:List V)(i:Int)(H:Hp)(Q:VK):ixq (some (.tup xs)) i H Q=∃v,atI xs i=some v/\Q v H:=rfl
theorem KR (xs:List V)(p:Addr)(k:Int)(v:V)(H:Hp)(Q:Hp->Prop):stq (some (.lst xs)) p k v H Q=∃j,ixN xs.length k=some j/\Q (upd H p (.lst (xs.set j v))):=rfl
theorem NT (xs:List V)(H:Hp)(Q:VK):lnq (some (.lst xs)) H Q=Q (.int xs.length) H:=rfl
theorem NQ (xs:List V)(H:Hp)(Q:VK):lnq (some (.tup xs)) H Q=Q (.int xs.length) H:=rfl
section
variable {X:Cx}
theorem bh:IxR X QM:=by
 intro value slice pins s σ H x y v u Q I rx ry h hs;unfold QM at h;split at h
 ·rename_i p i;unfold ixq at h;split at h
  ·rename_i xs e;obtain⟨z,hz,q⟩:=h;exact CK value slice pins s σ H _ _ v u Q I rx ry ⟨p,xs,i,z,rfl,rfl,SqL.of e,hz,q⟩ hs
  ·rename_i xs e;obtain⟨z,hz,q⟩:=h;exact SX value slice pins s σ H _ _ v u Q I rx ry ⟨p,xs,i,z,rfl,rfl,SqT.of e,hz,q⟩ hs
  exact h.elim
 exact h.elim
theorem G4:O4 X Hr:=by
 intro pins s σ H o i v ov iv u Q I ro ri rv h;unfold Hr at h;split at h
 ·rename_i p k;unfold stq at h;split at h
  ·rename_i xs e;obtain⟨j,hj,q⟩:=h;exact set_list pins s σ H _ _ v ov iv u Q I ro ri rv ⟨p,xs,k,j,rfl,rfl,e,hj,q⟩
  exact h.elim
 exact h.elim
theorem gO:cN X (.builtin "len") Hw:=by
 intro pins s σ H xs us Q I r h;unfold Hw at h;split at h
 ·rename_i p;unfold lnq at h;split at h
  ·rename_i ys e;exact gj pins s σ H _ us Q I r ⟨p,ys,rfl,.inl (SqL.of e),h⟩
  ·rename_i ys e;exact gj pins s σ H _ us Q I r ⟨p,ys,rfl,.inr (SqT.of e),h⟩
  exact h.elim
 exact h.elim
end
noncomputable def HN:List V->Hp->VK->Prop:=fun xs H Q=>match xs with
 | [.int i]=>Q (.int i) H
 | [.bl k]=>Q (.int (if k then 1 else 0)) H
 | _=>False
theorem Lj (k:Bool)(H:Hp)(Q:VK):HN [.bl k] H Q=Q (.int (if k then 1 else 0)) H:=rfl
theorem qT {X:Cx}:cN X (.type "int") HN:=by
 intro pins s σ H xs us Q I r h;unfold HN at h;split at h
 ·exact ug pins s σ H _ us Q I r (.inl ⟨_,rfl,h⟩)
 ·exact ug pins s σ H _ us Q I r (.inr ⟨_,rfl,h⟩)
 exact h.elim
theorem aY {t u:TS}{D:Ends}{σ:St}{H:Hp}(h:∀k,k=u D->t { D with nx:=k } σ H):KH t u D σ H:=h _ rfl
theorem kO {wi:TI}{g:TG}{tb:TS}{D:Ends}{σ:St}{H:Hp}(h:∀R:It->Hp->Prop,R=(fun J H1=>∃W:Nat->Nat->St->Hp->Prop,(∃m,W 0 m σ H1)/\∀i m σ H,W i m σ H ->
  (J.stop i H/\D.nx σ H)\/(J.go i H/\∃N:St->Hp->Prop,(∀σ' H',N σ' H'->∃m',m'<m/\W (i+1) m' σ' H')/\∀x H',J.yld i H x H'->g x σ H' fun σ2 H2=>tb { D with nx:=N,ct:=N,bk:=D.nx } σ2 H2))->wi σ H R):Qk wi g tb D σ H:=h _ rfl
theorem J1 {lo:Int}{n:Nat}{g:TG}{tb:TS}{D:Ends}{σ:St}{H:Hp}{R:It->Hp->Prop}(hR:R=(fun J H1=>∃W:Nat->Nat->St->Hp->Prop,(∃m,W 0 m σ H1)/\∀i m σ H,W i m σ H ->
  (J.stop i H/\D.nx σ H)\/(J.go i H/\∃N:St->Hp->Prop,(∀σ' H',N σ' H'->∃m',m'<m/\W (i+1) m' σ' H')/\∀x H',J.yld i H x H'->g x σ H' fun σ2 H2=>tb { D with nx:=N,ct:=N,bk:=D.nx } σ2 H2)))
  (Pv:Nat->St->Hp->Prop) (h0:Pv 0 σ H) (hs:∀i σ H,i<n->Pv i σ H->g (.int (lo+i)) σ H fun σ2 H2=>tb { D with nx:=Pv (i+1),ct:=Pv (i+1),bk:=D.nx } σ2 H2) (hd:∀σ H,Pv n σ H->D.nx σ H):R (Itr lo n) H:=by
 subst hR;exact EY Pv h0 hs hd
theorem yt {K:PySem.W.Frag}{a:Addr}{xs:List V}{g:TG}{tb:TS}{D:Ends}{σ:St}{H:Hp}{R:It->Hp->Prop}(hR:R=(fun J H1=>∃W:Nat->Nat->St->Hp->Prop,(∃m,W 0 m σ H1)/\∀i m σ H,W i m σ H ->
  (J.stop i H/\D.nx σ H)\/(J.go i H/\∃N:St->Hp->Prop,(∀σ' H',N σ' H'->∃m',m'<m/\W (i+1) m' σ' H')/\∀x H',J.yld i H x H'->g x σ H' fun σ2 H2=>tb { D with nx:=N,ct:=N,bk:=D.nx } σ2 H2)))
  (Pv:Nat->St->Hp->Prop) (h0:Pv 0 σ H) (hl:∀i σ H,i<=xs.length->Pv i σ H->SqL K H a xs) (hs:∀i x σ H,xs[i]?=some x->Pv i σ H->g x σ H fun σ2 H2=>tb { D with nx:=Pv (i+1),ct:=Pv (i+1),bk:=D.nx } σ2 H2) (hd:∀σ H,Pv xs.length σ H->D.nx σ H):R (Itl K a) H:=by
 subst hR;exact J2 Pv h0 hl hs hd
noncomputable def yQ (mp:List (Option Nat))(g:TG)(tc:TT)(te:TE)(σ:St)(Q:VK)(J:It)(H1:Hp):Prop:=∃W:Nat->Nat->List V->St->Hp->Prop,(∃m,W 0 m [] (fY mp σ) H1)/\∀i m acc τ H2,W i m acc τ H2 ->
  (J.stop i H2/\∀d,H2 d=none->Q (.ref d) (upd H2 d (.lst acc))) \/
  (J.go i H2/\acc.length<sizeLine/\∃N:List V->St->Hp->Prop,(∀acc' τ' H',N acc' τ' H'->∃m',m'<m/\W (i+1) m' acc' τ' H')/\∀x H3,J.yld i H2 x H3->g x τ H3 fun τ1 H4=>tc τ1 H4 fun b H5=>
   if b=true then te τ1 H5 fun v H6=>N (acc++[v]) τ1 H6 else N acc τ1 H5)
theorem fK {mp:List (Option Nat)}{wi:TI}{g:TG}{tc:TT}{te:TE}{σ:St}{H:Hp}{Q:VK}(h:∀R:It->Hp->Prop,R=yQ mp g tc te σ Q->wi σ H R):sO mp wi g tc te σ H Q:=h _ rfl
theorem mX {J:It}{mp:List (Option Nat)}{g:TG}{tc:TT}{te:TE}{σ:St}{H:Hp}{Q:VK}{R:It->Hp->Prop}(hR:R=yQ mp g tc te σ Q)(n:Nat)(hz:n<=sizeLine)(Pv:Nat->List V->St->Hp->Prop)(h0:Pv 0 [] (fY mp σ) H)
  (hl:∀i acc τ H,Pv i acc τ H->acc.length<=i) (hgo:∀i acc τ H,i<n->Pv i acc τ H->J.go i H) (hst:∀acc τ H,Pv n acc τ H->J.stop n H)
  (hs:∀i acc τ H x H3,i<n->Pv i acc τ H->J.yld i H x H3->g x τ H3 fun τ1 H4=>tc τ1 H4 fun b H5=>if b=true then te τ1 H5 fun v H6=>Pv (i+1) (acc++[v]) τ1 H6 else Pv (i+1) acc τ1 H5)
  (hd:∀acc τ H d,Pv n acc τ H->H d=none->Q (.ref d) (upd H d (.lst acc))):R J H:=by
 subst hR;refine⟨fun i m acc τ H2=>m=n-i/\i<=n/\Pv i acc τ H2,⟨_,rfl,zero_le _,h0⟩,?_⟩;rintro i m acc τ H2 ⟨rfl,hi,p⟩;have q3:=hl i acc τ H2 p;by_cases hlt:i<n
 ·exact .inr ⟨hgo i acc τ H2 hlt p,ω,Pv (i+1),fun acc' τ' H' q=>⟨_,ω,rfl,hlt,q⟩,fun x H3 y=>hs i acc τ H2 x H3 hlt p y⟩
 have e:i=n:=ω;subst e;exact .inl ⟨hst acc τ H2 p,fun d hd'=>hd acc τ H2 d p hd'⟩
structure Nm (N:List Str)(sc:Scope)(i:Nat)(x:Str):Prop where
 hN:N[i]?=some x
 hv:Loc sc x
 hd:(x == ("__debug__" : Str))=false
 hcd:(x == ("__classdict__" : Str))=false
noncomputable def U7 (N:List Str) (sc:Scope) (i:Nat) (x:Str):Bool:=decide (N[i]?=some x)&&(decide (sc.names.lookup x=some .local)||decide (sc.names.lookup x=some .cell)) && !(x == ("__debug__" : Str)) && !(x == ("__classdict__" : Str))
theorem Nm.of {N:List Str}{sc:Scope}{i:Nat}{x:Str}(h:U7 N sc i x=true):Nm N sc i x:=by
 unfold U7 at h;rw[and_eq_true,and_eq_true,and_eq_true,Bool.or_eq_true] at h;obtain⟨⟨⟨h1,h2⟩,h3⟩,h4⟩:=h;exact⟨of_decide_eq_true h1,h2.elim (fun z=>.inl (of_decide_eq_true z)) (fun z=>.inr (of_decide_eq_true z)),by simpa using h3,by simpa using h4⟩
structure Bn (x:Str):Prop where
 hn:x ≠ "__name__"
 hd:(x == ("__debug__" : Str))=false
section
variable {X:Cx}{i:Nat}{x:Str}{pos pos' p:Pos}{e:Expr}{es:List Expr}{te:TE}{t:TA}{k:Nat}{ps:List Str}{sp:Sp}{id T:String}{r:List V->Hp->VK->Prop}
theorem pn (n:Nm X.N X.env.scope i x):PE X (.Name x pos) (Gm i):=Ir n.hN (n.hv.elim .inl fun z=>.inr (.inl z)) n.hd n.hcd
theorem Uu (n:Nm X.N X.env.scope i x)(hN:X.N.Nodup)(he:PE X e te)(hs:swapsWith e (some (.Name x pos')) pos.line X.env=pure false:=by rfl)(hf:X.fn x=true\/X.env.scope.names.lookup x=some .local:=by exact .inl rfl) :
  PS X (.Assign [.Name x pos'] e pos) (wC te (kJ i)):=Rc hN n.hN n.hv he hs hf
theorem Uw (n:Nm X.N X.env.scope i x)(hN:X.N.Nodup)(hf:X.fn x=true\/X.env.scope.names.lookup x=some .local:=by exact .inl rfl):PG X (.Name x pos) (kJ i):=Ce hN n.hN n.hv hf
theorem UG (C:Cal X.prog X.w X.K X.mg X.base x k ps sp)(hr:dN k X.A)(hg:Gl X x)(hdb:Bn x)(ha:PA X (e::es) t)
  (he:starEach (e::es) X.env=(false,eval e X.env)::starEach es X.env:=by rfl) (hpl:(backTo pos (starEach es X.env)).any (·.1)=false:=by rfl):PE X (.Call (.Name x p) (e::es) [] pos) (wB sp [] E0 t):=
 RD C hr hg ha hdb.hd he hpl
theorem UJ (hc:cN X (.builtin id) r)(hg:Gl X x)(hm:X.mg x=none)(hv:bootBuiltins x=some (.builtin id))(b:Bn x)(ha:PA X (e::es) t)
  (he:starEach (e::es) X.env=(false,eval e X.env)::starEach es X.env:=by rfl) (hpl:(backTo pos (starEach es X.env)).any (·.1)=false:=by rfl):PE X (.Call (.Name x p) (e::es) [] pos) (tCB r t):=IW hc hg hm hv ha b.hn b.hd he hpl
theorem Uz (hc:cN X (.type T) r)(hg:Gl X x)(hm:X.mg x=none)(hv:bootBuiltins x=some (.type T))(b:Bn x)(ha:PA X (e::es) t)
  (he:starEach (e::es) X.env=(false,eval e X.env)::starEach es X.env:=by rfl) (hpl:(backTo pos (starEach es X.env)).any (·.1)=false:=by rfl):PE X (.Call (.Name x p) (e::es) [] pos) (tCB r t):=Ef hc hg hm hv ha b.hn b.hd he hpl
theorem UL (n:String)(hg:Gl X x)(hm:X.mg x=none)(hv:bootBuiltins x=some (.type n))(b:Bn x):PE X (.Name x pos) (tC (.ty n)):=Nb hg hm hv rfl b.hn b.hd
end
theorem lM:Bn "len" := ⟨ψ,ψ⟩
theorem Kl:Bn "abs" := ⟨ψ,ψ⟩
theorem TQ:Bn "min" := ⟨ψ,ψ⟩
theorem TV:Bn "max" := ⟨ψ,ψ⟩
theorem TX:Bn "all" := ⟨ψ,ψ⟩
theorem bC:Bn "isinstance" := ⟨ψ,ψ⟩
theorem Ba:Bn "int" := ⟨ψ,ψ⟩
theorem Kh:Bn "sum" := ⟨ψ,ψ⟩
theorem vP:Bn "list" := ⟨ψ,ψ⟩
theorem mY:Bn "tuple" := ⟨ψ,ψ⟩
theorem Az:Bn "str" := ⟨ψ,ψ⟩
theorem vQ:Bn "bool" := ⟨ψ,ψ⟩
theorem uh:Bn "sorted" := ⟨ψ,ψ⟩
theorem Dl:Bn "repr" := ⟨ψ,ψ⟩
noncomputable def tyO:Option HO->Option String
 | some (.lst _)=>some "list"
 | some (.tup _)=>some "tuple"
 | _=>none
noncomputable def tyN (x:V)(H:Hp):Option String:=match x with
 | .non=>some "NoneType"
 | .bl _=>some "bool"
 | .int _=>some "int"
 | .str _=>some "str"
 | .ref a=>tyO (H a)
 | _=>none
theorem Tn.of {x:V}{H:Hp}{t:String}(h:tyN x H=some t):Tn H x t:=by
 cases x with
 | non=>cases h;exact .non
 | bl b=>cases h;exact .bl b
 | int i=>cases h;exact .int i
 | str s=>cases h;exact .str s
 | ref a=>
  have h':tyO (H a)=some t:=h;cases e:H a with
  | none=>rw[e] at h';cases h'
  | some o=>
   rw[e] at h';cases o with
   | lst xs=>cases h';exact .lst e
   | tup xs=>cases h';exact .tup e
   | _=>cases h'
 | _=>cases h
noncomputable def HJ:List V->Hp->VK->Prop:=fun xs H Q=>match xs with
 | [x,.ty T]=>∃t,tyN x H=some t/\dg.contains T=true/\Q (.bl (cQ t T)) H
 | _=>False
noncomputable def i2q (o:Option HO)(x:V)(H:Hp)(Q:VK):Prop:=match o with
 | some (.tup [.ty T,.ty U])=>∃t,tyN x H=some t/\dg.contains T=true/\dg.contains U=true/\Q (.bl (cQ t T||cQ t U)) H
 | _=>False
noncomputable def Hz:List V->Hp->VK->Prop:=fun xs H Q=>match xs with
 | [x,.ref p]=>i2q (H p) x H Q
 | _=>False
theorem cW {X:Cx}:cN X (.builtin "isinstance") HJ:=by
 intro pins s σ H xs us Q I r h;unfold HJ at h;split at h
 ·obtain⟨t,e,k,q⟩:=h;exact Fy pins s σ H _ us Q I r ⟨_,_,t,rfl,Tn.of e,by simpa using k,q⟩
 exact h.elim
theorem Fw {X:Cx}:cN X (.builtin "isinstance") Hz:=by
 intro pins s σ H xs us Q I r h;unfold Hz at h;split at h
 ·rename_i x p;unfold i2q at h;split at h
  ·rename_i T U e;obtain⟨t,e1,k1,k2,q⟩:=h;refine Fx pins s σ H _ us Q I r ⟨x,p,[T,U],t,rfl,e,Tn.of e1,fun z hz=>?_,by simpa using q⟩;rcases mem_cons.mp hz with rfl|hz
   ·simpa using k1
   obtain rfl:=mem_singleton.mp hz;simpa using k2
  exact h.elim
 exact h.elim
theorem HF (x:V)(T:String)(H:Hp)(Q:VK):HJ [x,.ty T] H Q=∃t,tyN x H=some t/\dg.contains T=true/\Q (.bl (cQ t T)) H:=rfl
theorem Hy (x:V)(p:Addr)(H:Hp)(Q:VK):Hz [x,.ref p] H Q=i2q (H p) x H Q:=rfl
theorem Tc (x:V)(T U:String)(H:Hp)(Q:VK):i2q (some (.tup [.ty T,.ty U])) x H Q=∃t,tyN x H=some t/\dg.contains T=true/\dg.contains U=true/\Q (.bl (cQ t T||cQ t U)) H:=rfl
theorem N7:dg.contains "list" = true:=by decide
theorem JL:dg.contains "tuple" = true:=by decide
theorem SQ:dg.contains "int" = true:=by decide
theorem SN:dg.contains "str" = true:=by decide
theorem kc_bool:dg.contains "bool" = true:=by decide
theorem ty_int (i:Int) (H:Hp):tyN (.int i) H=some "int" := rfl
theorem Ub (i:Bool) (H:Hp):tyN (.bl i) H=some "bool" := rfl
theorem ty_str (i:Str) (H:Hp):tyN (.str i) H=some "str" := rfl
theorem P0 (H:Hp):tyN .non H=some "NoneType" := rfl
theorem PX (p:Addr)(H:Hp):tyN (.ref p) H=tyO (H p):=rfl
theorem KD (xs:List V):tyO (some (.lst xs))=some "list" := rfl
theorem KC (xs:List V):tyO (some (.tup xs))=some "tuple" := rfl
theorem nq:cQ "NoneType" "bool" = false:=by decide
theorem oH:cQ "NoneType" "int" = false:=by decide
theorem oG:cQ "NoneType" "str" = false:=by decide
theorem nj:cQ "NoneType" "list" = false:=by decide
theorem mj:cQ "NoneType" "tuple" = false:=by decide
theorem uT:cQ "bool" "bool" = true:=by decide
theorem wQ:cQ "bool" "int" = true:=by decide
theorem wO:cQ "bool" "str" = false:=by decide
theorem uR:cQ "bool" "list" = false:=by decide
theorem rH:cQ "bool" "tuple" = false:=by decide
theorem wN:cQ "int" "bool" = false:=by decide
theorem zc:cQ "int" "int" = true:=by decide
theorem zb:cQ "int" "str" = false:=by decide
theorem wM:cQ "int" "list" = false:=by decide
theorem uQ:cQ "int" "tuple" = false:=by decide
theorem wJ:cQ "str" "bool" = false:=by decide
theorem za:cQ "str" "int" = false:=by decide
theorem yZ:cQ "str" "str" = true:=by decide
theorem wI:cQ "str" "list" = false:=by decide
theorem uN:cQ "str" "tuple" = false:=by decide
theorem uP:cQ "list" "bool" = false:=by decide
theorem wL:cQ "list" "int" = false:=by decide
theorem wK:cQ "list" "str" = false:=by decide
theorem uO:cQ "list" "list" = true:=by decide
theorem rG:cQ "list" "tuple" = false:=by decide
theorem rF:cQ "tuple" "bool" = false:=by decide
theorem uM:cQ "tuple" "int" = false:=by decide
theorem uL:cQ "tuple" "str" = false:=by decide
theorem rE:cQ "tuple" "list" = false:=by decide
theorem pP:cQ "tuple" "tuple" = true:=by decide
noncomputable def gtq (o:Option HO)(n:Nat)(t:TGs)(σ:St)(H:Hp)(Q:St->Hp->Prop):Prop:=match o with
 | some (.tup xs)=>xs.length=n/\t xs σ H Q
 | _=>False
noncomputable def CZ (n:Nat)(t:TGs):TG:=fun v σ H Q=>match v with
 | .ref a=>gtq (H a) n t σ H Q
 | _=>False
theorem Ey (n:Nat)(t:TGs)(a:Addr)(σ:St)(H:Hp)(Q:St->Hp->Prop):CZ n t (.ref a) σ H Q=gtq (H a) n t σ H Q:=rfl
theorem Oi (xs:List V)(n:Nat)(t:TGs)(σ:St)(H:Hp)(Q:St->Hp->Prop):gtq (some (.tup xs)) n t σ H Q=(xs.length=n/\t xs σ H Q):=rfl
noncomputable def qtq (o:Option HO)(f:List Bool->Bool)(H:Hp)(Q:VK):Prop:=match o with
 | some (.lst xs)=>∃bs,xs=List.map V.bl bs/\Q (.bl (f bs)) H
 | _=>False
noncomputable def uW (f:List Bool->Bool):List V->Hp->VK->Prop:=fun xs H Q=>match xs with
 | [.ref p]=>qtq (H p) f H Q
 | _=>False
theorem wX (f:List Bool->Bool)(p:Addr)(H:Hp)(Q:VK):uW f [.ref p] H Q=qtq (H p) f H Q:=rfl
theorem Lx (f:List Bool->Bool)(xs:List V)(H:Hp)(Q:VK):qtq (some (.lst xs)) f H Q=∃bs,xs=List.map V.bl bs/\Q (.bl (f bs)) H:=rfl
section
variable {X:Cx}{es:List Expr}{k:Nat}{t:TGs}{n:Nat}{pos:Pos}
theorem Mz (hc:X.calm=true)(h:PGs X es t)(hn:(assignEach es X.env).length=n:=by rfl)(hst:(assignEach es X.env).findIdx? (·.1)=none:=by rfl):PG X (.Tuple es k pos) (CZ n t):=by
 intro pins s σ H v u Q I r hw;unfold CZ at hw;split at hw
 ·rename_i a;unfold gtq at hw;split at hw
  ·rename_i xs e;exact Rp hc h hn hst pins s σ H _ u Q I r ⟨a,xs,rfl,SqT.of e,hw.1,hw.2⟩
  exact hw.elim
 exact hw.elim
theorem Fz (hc:X.calm=true):cN X (.builtin "all") (uW fun bs=>bs.all id):=by
 intro pins s σ H xs us Q I r h;unfold uW at h;split at h
 ·rename_i p;unfold qtq at h;split at h
  ·rename_i ys e;obtain⟨bs,rfl,q⟩:=h;exact Kg hc pins s σ H _ us Q I r ⟨p,bs,rfl,SqL.of e,q⟩
  exact h.elim
 exact h.elim
end
noncomputable def Ht:List V->Hp->VK->Prop:=fun xs H Q=>match xs with
 | [.int i,.int j]=>Q (.int (if j<i then j else i)) H
 | _=>False
noncomputable def Hv:List V->Hp->VK->Prop:=fun xs H Q=>match xs with
 | [.int i,.int j]=>Q (.int (if j>i then j else i)) H
 | _=>False
theorem Hs (i j:Int)(H:Hp)(Q:VK):Ht [.int i,.int j] H Q=Q (.int (if j<i then j else i)) H:=rfl
theorem Hu (i j:Int)(H:Hp)(Q:VK):Hv [.int i,.int j] H Q=Q (.int (if j>i then j else i)) H:=rfl
theorem Fo {X:Cx}(hc:X.calm=true):cN X (.builtin "min") Ht:=by
 intro pins s σ H xs us Q I r h;unfold Ht at h;split at h
 ·exact Fp hc pins s σ H _ us Q I r ⟨_,_,rfl,h⟩
 exact h.elim
theorem Fq {X:Cx}(hc:X.calm=true):cN X (.builtin "max") Hv:=by
 intro pins s σ H xs us Q I r h;unfold Hv at h;split at h
 ·exact Ft hc pins s σ H _ us Q I r ⟨_,_,rfl,h⟩
 exact h.elim
structure QE (X:Cx)(e:Expr)(t:TE):Prop where
 h:PE X e t
structure QT (X:Cx)(e:Expr)(t:TT):Prop where
 h:PT X e t
structure QW (X:Cx)(e:Expr)(t:TT):Prop where
 h:PW X e t
structure QA (X:Cx)(es:List Expr)(t:TA):Prop where
 h:PA X es t
structure QS (X:Cx)(st:Stmt)(t:TS):Prop where
 h:PS X st t
structure QB (X:Cx)(st:List Stmt)(t:TS):Prop where
 h:PSs X st t
structure QG (X:Cx)(e:Expr)(t:TG):Prop where
 h:PG X e t
structure QGs (X:Cx)(es:List Expr)(t:TGs):Prop where
 h:PGs X es t
structure QI (X:Cx)(tg e:Expr)(t:TI):Prop where
 h:PI X tg e t
structure QC (X:Cx)(cs:List Expr)(t:TT):Prop where
 h:PTs X cs t
section
variable {X:Cx}{i:Nat}{x:Str}{pos pos' p tpos:Pos}{e a b c o:Expr}{es rest:List Expr}{te ta tb tc to ti:TE}{tA tB':TT}{t:TA}{k n kk:Nat}{ps:List Str}{sp:Sp}{id T:String}{r:List V->Hp->VK->Prop}{st:Stmt}{sts:List Stmt}{ts us:TS}{tg iter:Expr}{wi:TI}{g:TG}{gs:TGs}
theorem aA (h:Nm X.N X.env.scope i x):QE X (.Name x pos) (Gm i):=⟨pn h⟩
theorem dJ (i:Nat) {x:Str}{pos:Pos}(hN:X.N[i]?=some x:=by rfl) (hv:Vis X.env.scope x:=by first|exact Or.inl rfl|exact Or.inr (Or.inl rfl)|exact Or.inr (Or.inr rfl)) (hd:(x == ("__debug__" : Str))=false:=by decide)
  (hcd:(x == ("__classdict__" : Str))=false:=by decide):QE X (.Name x pos) (Gm i):=⟨Ir hN hv hd hcd⟩
theorem aq {i j pos}:QE X (.Constant (.int i) j pos) (tC (.int i)):=⟨zB⟩
theorem w6 {b j pos}:QE X (.Constant (.bool b) j pos) (tC (.bl b)):=⟨UW⟩
theorem Q7 {j pos}:QE X (.Constant .none j pos) (tC .non):=⟨Ry⟩
theorem cT {x j pos}:QE X (.Constant (.str x) j pos) (tC (.str x)):=⟨Rt⟩
theorem aN {op:Operator}{r:R2}(ho:OpR X (binaryOp op) r)(ha:QE X a ta)(hb:QE X b tb):QE X (.BinOp a op b pos) (tOp r ta tb):=⟨Ux ho ha.h hb.h⟩
theorem Pj {op:UnaryOp}{r:V->Hp->VK->Prop}(ho:UnR X (unaryOp op) r)(ha:QE X a ta):QE X (.UnaryOp op a pos) (tUn r ta):=⟨Iu ho ha.h⟩
theorem Q6 (ha:QE X a ta):QE X (.UnaryOp .Not a pos) (Gw ta):=⟨Rx ha.h⟩
theorem nG {op:CmpOp}{r:R2}(ho:OpR X (compareOp op) r)(ha:QE X a ta)(hb:QE X b tb)(hm:behindInMarks op b=false):QE X (.Compare a [op] [b] pos) (tOp r ta tb):=⟨M8 ho ha.h hb.h hm⟩
theorem bR {op:CmpOp}{r:R2}(ho:OpR X (compareOp op) r)(ha:QE X a ta)(hb:QE X b tb)(hm:behindInMarks op b=false):QT X (.Compare a [op] [b] pos) (Gn (tOp r ta tb)):=⟨Mj ho ha.h hb.h hm⟩
theorem zq {op}(h:QE X a ta):QE X (.BoolOp op [a] pos) ta:=⟨Rw h.h⟩
theorem vd (ha:QE X a ta)(hb:QE X (.BoolOp .And (b::rest) pos) tb):QE X (.BoolOp .And (a::b::rest) pos) (GK ta tb):=⟨RG ha.h hb.h⟩
theorem pW (hc:QT X c tA)(ha:QE X a ta)(hb:QE X b tb):QE X (.IfExp c a b pos) (tIf tA ta tb):=⟨IV hc.h ha.h hb.h⟩
theorem aL {r:R2}(hr:IxR X r)(ha:QE X a ta)(hb:QE X b tb)(hs:Dt b):QE X (.Subscript a b pos) (tOp r ta tb):=⟨Uy hr ha.h hb.h hs⟩
theorem cU (h:QA X es t):QE X (.List es pos) (Qj t):=⟨Rz h.h⟩
theorem dR {x1}(h:QA X es t):QE X (.Tuple es x1 pos) (Qc t):=⟨Rr h.h⟩
theorem aB:QA X [] Qi:=⟨RJ⟩
theorem ak (ha:QE X e te)(hr:QA X es t)(hs:starEach (e::es) X.env=(false,eval e X.env)::starEach es X.env:=by rfl):QA X (e::es) (GD te t):=⟨Ng ha.h hr.h hs⟩
theorem bJ (C:Cal X.prog X.w X.K X.mg X.base x k ps sp)(hr:dN k X.A)(hg:Gl X x)(hdb:Bn x)(ha:QA X (e::es) t)
  (he:starEach (e::es) X.env=(false,eval e X.env)::starEach es X.env:=by rfl) (hpl:(backTo pos (starEach es X.env)).any (·.1)=false:=by rfl):QE X (.Call (.Name x p) (e::es) [] pos) (wB sp [] E0 t):=⟨UG C hr hg hdb ha.h he hpl⟩
theorem cF (hc:cN X (.builtin id) r)(hg:Gl X x)(hm:X.mg x=none)(hv:bootBuiltins x=some (.builtin id))(b:Bn x)(ha:QA X (e::es) t)
  (he:starEach (e::es) X.env=(false,eval e X.env)::starEach es X.env:=by rfl) (hpl:(backTo pos (starEach es X.env)).any (·.1)=false:=by rfl):QE X (.Call (.Name x p) (e::es) [] pos) (tCB r t):=⟨UJ hc hg hm hv b ha.h he hpl⟩
theorem Ie (hc:cN X (.type T) r)(hg:Gl X x)(hm:X.mg x=none)(hv:bootBuiltins x=some (.type T))(b:Bn x)(ha:QA X (e::es) t)
  (he:starEach (e::es) X.env=(false,eval e X.env)::starEach es X.env:=by rfl) (hpl:(backTo pos (starEach es X.env)).any (·.1)=false:=by rfl):QE X (.Call (.Name x p) (e::es) [] pos) (tCB r t):=⟨Uz hc hg hm hv b ha.h he hpl⟩
theorem iI (n:String)(hg:Gl X x)(hm:X.mg x=none)(hv:bootBuiltins x=some (.type n))(b:Bn x):QE X (.Name x pos) (tC (.ty n)):=⟨UL n hg hm hv b⟩
theorem QZ (ha:QT X a tA):QT X (.UnaryOp .Not a pos) (Qh tA):=⟨Rb ha.h⟩
theorem uY (h:QE X e te)(he:∀whole,isTrue e X.env whole=(do let v <- whole;standAt e.pos;holding [v] (truthy v)):=by intro _;rfl):QT X e (tB te):=⟨Ra h.h he⟩
theorem uX (ha:QT X a tA):QW X (.BoolOp .And [a] pos) tA:=⟨Mg ha.h⟩
theorem HS (ha:QT X a tA):QW X (.BoolOp .Or [a] pos) tA:=⟨Q8 ha.h⟩
theorem zm (ha:QT X a tA)(hb:QW X (.BoolOp .And (b::rest) pos) tB'):QW X (.BoolOp .And (a::b::rest) pos) (Qo tA tB'):=⟨Q9 ha.h hb.h⟩
theorem Pb (ha:QT X a tA)(hb:QW X (.BoolOp .Or (b::rest) pos) tB'):QW X (.BoolOp .Or (a::b::rest) pos) (tOr tA tB'):=⟨Ut ha.h hb.h⟩
theorem HW (h:QW X e tA):QT X e tA:=⟨h.h.pt⟩
theorem eN:QB X [] Gx:=⟨Mp⟩
theorem aO (h:QS X st ts):QB X [st] ts:=⟨Ml h.h⟩
theorem aF (h:QS X st ts)(h2:QB X sts us):QB X (st::sts) (KH ts us):=⟨Ih h.h h2.h⟩
theorem bT (he:QE X e te):QS X (.Return (some e) pos) (Qf te):=⟨Rf he.h⟩
theorem fP {c:Expr}{a b:List Stmt}{tc:TT}(hc:QT X c tc)(ha:QB X a ts)(hb:QB X b us):QS X (.If c a b pos) (KJ tc ts us):=⟨Uv hc.h ha.h hb.h⟩
theorem iY (he:QE X e te)(hs:swapsWith e none pos.line X.env=pure false:=by rfl):QS X (.Expr e pos) (GC te):=⟨Mr he.h hs⟩
theorem bx (h:Nm X.N X.env.scope i x)(hN:X.N.Nodup)(he:QE X e te)(hs:swapsWith e (some (.Name x pos')) pos.line X.env=pure false:=by rfl)(hf:X.fn x=true\/X.env.scope.names.lookup x=some .local:=by exact .inl rfl) :
  QS X (.Assign [.Name x pos'] e pos) (wC te (kJ i)):=⟨Uu h hN he.h hs hf⟩
theorem uZ (he:QE X e te)(hg:QG X tg g)(hs:swapsWithSole [tg] e pos.line X.env=pure false:=by rfl)(hw:swappedStores [tg] e X.env=pure none:=by rfl)
  (h1:(assignEach [tg] X.env).map (·.2)=[assign tg X.env]:=by rfl):QS X (.Assign [tg] e pos) (wC te g):=⟨Rj he.h hg.h hs hw h1⟩
theorem HX {i j:Nat}{x y:Str}{a b:Expr}{ta:TA}{px py pt:Pos}{kt k2 pt2}(hc:X.calm=true)(hN:X.N.Nodup)(hi:X.N[i]?=some x)(hj:X.N[j]?=some y)(hij:i≠j)
  (hx:X.env.scope.names.lookup x=some .local) (hy:X.env.scope.names.lookup y=some .local) (ha:QA X [a,b] ta)
  (hw:swappedStores [.Tuple [.Name x px,.Name y py] kt pt] (.Tuple [a,b] k2 pt2) X.env=pure (some [x,y]))
  (hs:swapsWithSole [.Tuple [.Name x px,.Name y py] kt pt] (.Tuple [a,b] k2 pt2) pos.line X.env=pure false:=by rfl) :
  QS X (.Assign [.Tuple [.Name x px,.Name y py] kt pt] (.Tuple [a,b] k2 pt2) pos) (Qg i j ta):=⟨Rg hc hN hi hj hij hx hy ha.h hw hs⟩
theorem wY {c:Expr}{body:List Stmt}{tc:TT}(hp:PassesOwn (model X.prog X.w) X.A X.env X.xe)(hc:QT X c tc)(hb:QB X body ts):QS X (.While c body [] pos) (yW tc ts):=⟨Ii hp hc.h hb.h⟩
theorem iu {body:List Stmt}(hp:PassesOwn (model X.prog X.w) X.A X.env X.xe)(hc:X.calm=true)(hi:QI X tg iter wi)(hg:QG X tg g)(hb:QB X body ts)
  (hs:∀x,foldedSetIterable iter X.env x=pure x:=by intro _;rfl):QS X (.For tg iter body [] pos) (Qk wi g ts):=⟨Rh hp hc hi.h hg.h hb.h hs⟩
theorem gD (h:Nm X.N X.env.scope i x)(hN:X.N.Nodup)(hf:X.fn x=true\/X.env.scope.names.lookup x=some .local:=by exact .inl rfl):QG X (.Name x pos) (kJ i):=⟨Uw h hN hf⟩
theorem cg (i:Nat)(hN:X.N.Nodup)(hi:X.N[i]?=some x)(hx:Loc X.env.scope x)(hf:X.fn x=true\/X.env.scope.names.lookup x=some .local:=by first|exact .inl rfl|exact .inr rfl):QG X (.Name x pos) (kJ i):=⟨Ce hN hi hx hf⟩
theorem gh:QGs X [] Tf:=⟨Mx⟩
theorem bM (h1:QG X e g)(h2:QGs X es gs)(hs:(assignEach (e::es) X.env).map (·.2)=assign e X.env::(assignEach es X.env).map (·.2):=by rfl):QGs X (e::es) (J0 g gs):=⟨Io h1.h h2.h hs⟩
theorem iZ {n:Nat}(hc:X.calm=true)(h:QGs X es gs)(hn:(assignEach es X.env).length=n:=by rfl)(hst:(assignEach es X.env).findIdx? (·.1)=none:=by rfl):QG X (.Tuple es k pos) (CZ n gs):=⟨Mz hc h.h hn hst⟩
theorem Km (o:Expr)(c j)(p pos:Pos)(env:Env)(v:Value):assign (.Subscript o (.Constant c j p) pos) env v=(do
   let ov <- holding [v] (eval o env)
   let iv <- holding [v,ov] (eval (.Constant c j p) env)
   standAt pos
   holding [v,ov,iv] (setItem ov iv v)
   release [v,ov,iv] []):=rfl
theorem u9 {c j}{t:O3}(ho:QE X o to)(hi:QE X (.Constant c j p) ti)(hs:O4 X t):QG X (.Subscript o (.Constant c j p) pos) (Td to ti t):=⟨Rq ho.h hi.h hs (fun v=>Km o c j p pos X.env v)⟩
theorem iH (hg:Gl X "range") (hm:X.mg "range" = none) (ha:QA X [a] t) (hs:starEach [a] X.env=[(false,eval a X.env)]:=by rfl):QI X tg (.Call (.Name "range" p) [a] [] pos) (qz t):=⟨Ed hg hm ha.h hs⟩
theorem gF:QC X [] Qa:=⟨Mi⟩
theorem Ig (h:QT X c tA):QC X [c] tA:=⟨Mh h.h⟩
theorem eZ {NX:List Str}{kX:List (Str×NameKind)}{scope:Scope}{elt:Expr}{ifs:List Expr}{tc:TT}(N:List Str)(mp:List (Option Nat))(hNX:X.N=NX)(hkX:X.env.scope.names=kX)(S:oF NX kX N mp scope)(hc:X.calm=true)
  (hi:QI X tg iter wi) (hg:∀cl C s H fp,QG (aW X N scope cl C s H fp) tg g) (ht:∀cl C s H fp,QC (aW X N scope cl C s H fp) ifs tc) (he:∀cl C s H fp,QE (aW X N scope cl C s H fp) elt te)
  (hs:∀x,foldedSetIterable iter X.env x=pure x:=by intro _;rfl):QE X (.ListComp elt [⟨tg,iter,ifs,0⟩] scope pos) (sO mp wi g tc te):=
 ⟨M7 N mp hNX hkX S hc hi.h (fun cl C s H fp=>(hg cl C s H fp).h) (fun cl C s H fp=>(ht cl C s H fp).h) (fun cl C s H fp=>(he cl C s H fp).h) hs⟩
end
section
variable {P:Program}{w:World}{K:PySem.W.Frag}{mg:Str->Option Value}{base:Heap}
theorem Fun.okq {x qual:Str}{st:Stmt}{f:Addr}{fd:FuncData}{N ps:List Str}{k:Nat}{sp:Sp}(F:Fun K x qual st f fd)(S:bF N ps (aj st))(len:∀vs H Q E,sp vs H Q E->vs.length=ps.length)
  (hbody:∀(cdv:Value)(A:Around)(outer:List Env)(s:Shared)(H:Hp)(vs:List V)(Q:VK)(E:XK),dN k (A.deeper (envOfC qual (aj st) s.heap.objs.size f cdv))->sp vs H Q E ->
   ∃t,QB (pA CX0 P w K mg base N qual (aj st) f cdv A outer s H E).nox (aX st) t/\t { nx:=fun _ H'=>Q .non H',rt:=Q } (L2.start N vs) H):dW P w K mg base CX0 (k+1) f fd ps sp:=
 F.ok S len fun cdv A outer s H vs Q E hr hsp=>by
  obtain⟨t,h,q⟩:=hbody cdv A outer s H vs Q E hr hsp;exact⟨t,h.h,q⟩
end
theorem zx:∀(ns:List Int),preSum (fun i=>(ns[i]?).getD 0) ns.length=ns.sum:=by
 have key:∀(f:Nat->Int)(n:Nat),preSum f (n+1)=preSum f n+f n:=fun f n=>rfl;have key2:∀(n:Nat)(f g:Nat->Int),(∀i,i<n->f i=g i)->preSum f n=preSum g n:=by
  intro n
  induction n with
  | zero=>intros;rfl
  | succ n ih=>intro f g h;rw[key,key,ih f g fun i hi=>h i (lt_succ_of_lt hi),h n (lt_succ_self n)]
 have key3:∀(n:Nat)(f:Nat->Int),preSum f (n+1)=f 0+preSum (fun i=>f (i+1)) n:=by
  intro n
  induction n with
  | zero=>intro f;show(0:Int)+f 0=f 0+0;omega
  | succ n ih=>intro f;rw[key,ih,key];omega
 intro ns
 induction ns with
 | nil=>rfl
 | cons a r ih=>
  rw[length_cons,key3,sum_cons,<- ih];rfl
noncomputable def smq (o:Option HO)(H:Hp)(Q:VK):Prop:=match o with
 | some (.lst xs)=>∃ns:List Int,xs=ns.map V.int/\Q (.int ns.sum) H
 | _=>False
noncomputable def Ho:List V->Hp->VK->Prop:=fun xs H Q=>match xs with
 | [.ref p]=>smq (H p) H Q
 | _=>False
theorem DR (p:Addr)(H:Hp)(Q:VK):Ho [.ref p] H Q=smq (H p) H Q:=rfl
theorem K3 (xs:List V)(H:Hp)(Q:VK):smq (some (.lst xs)) H Q=∃ns:List Int,xs=ns.map V.int/\Q (.int ns.sum) H:=rfl
section
variable {X:Cx}
theorem uf (hc:X.calm=true):cN X (.builtin "sum") Ho:=by
 intro pins s σ H xs us Q I r h;unfold Ho at h;split at h
 ·rename_i p;unfold smq at h;split at h
  ·rename_i ys e;obtain⟨ns,rfl,q⟩:=h;cases r with
   | cons r rr=>
    cases rr;cases r;obtain⟨its,rv,pl,hz⟩:=I.list (SqL.of e);have hl:=rv.length;have lt:p<s.heap.objs.size:=by obtain⟨_,e,_⟩:=pl.isList;exact lt_size e
    refine call_sum_walkG (wpAny_pyIter_list pl.isList ?_);refine⟨s.heap.objs.size,[s.heap.objs.size,p],[s.heap.objs.size],its.toArray.size,_,_,fun i=>(ns[i]?).getD 0,rfl,Walks.list (A:=X.A.in1) (I.ok.hd hc) _ p (ne_of_lt lt) _,
     ⟨⟨_,get?_push_size _ rfl,rfl,rfl⟩,pl.isList.push _⟩,?_,fun i v hP=>?_,fun h' tk t' hk=>?_⟩
    ·intro b hb;rw[size_push];simp only[mem_cons,not_mem_nil,or_false] at hb;rcases hb with rfl|rfl
     ·exact lt_succ_self _
     exact lt_succ_of_lt lt
    ·have e1:its[i]?=some v:=by simpa using hP
     have hi:i<its.length:=by
      rcases lt_or_ge i its.length with z|z
      ·exact z
      rw[getElem?_eq_none z] at e1;cases e1
     have hi2:i<ns.length:=by rw[<- hl,length_map] at hi;exact hi
     obtain⟨u,hu,ru⟩:=rv.get (i:=i) (x:=.int ns[i]) (by rw[getElem?_map,getElem?_eq_getElem hi2];rfl);rw[e1] at hu;cases hu;obtain⟨t,rfl⟩:=ru;exact⟨t,by show _=Value.int ((ns[i]?).getD 0) t;rw[getElem?_eq_getElem hi2];rfl⟩
    have e2:its.toArray.size=ns.length:=by rw[size_toArray,<- hl,length_map]
    rw[e2,zx];refine⟨.int _,H,I.kept fun b o e=>hk b o (fun hm=>?_) (get?_push_of_some _ e),⟨t',rfl⟩,q⟩;rw[mem_singleton.mp hm] at e;exact lt_irrefl _ (lt_size e)
  exact h.elim
 exact h.elim
noncomputable def zf (i:Int)(n:Nat):List V:=(List.range n).map fun k=>V.int (i+(k:Nat))
theorem Bp:∀{xs:List V}{us:List Value},xs.length=us.length->(∀(i:Nat) x u,xs[i]?=some x->us[i]?=some u->RelV x u)->Vals xs us
 | [],[],_,_=>.nil
 | [],_::_,h,_=>by cases h
 | _::_,[],h,_=>by cases h
 | x::xs,u::us,h,f=>.cons (f 0 x u rfl rfl) (Bp (by simpa using h) fun i y v h1 h2=>f (i+1) y v h1 h2)
theorem Sv:sizeLine<=2^24:=by decide
noncomputable def adq (a b:Option HO)(H:Hp)(Q:VK):Prop:=match a,b with
 | some (.lst xs),some (.lst zs)=>xs.length+zs.length<=sizeLine/\∀p,H p=none->Q (.ref p) (upd H p (.lst (xs++zs)))
 | _,_=>False
noncomputable def Ca:R2:=fun x y H Q=>match x,y with
 | .int i,.int j=>Q (.int (i+j)) H
 | .ref p,.ref q=>adq (H p) (H q) H Q
 | _,_=>False
theorem Lw (i j:Int)(H:Hp)(Q:VK):Ca (.int i) (.int j) H Q=Q (.int (i+j)) H:=rfl
theorem Ls (p q:Addr)(H:Hp)(Q:VK):Ca (.ref p) (.ref q) H Q=adq (H p) (H q) H Q:=rfl
theorem T6 (xs zs:List V)(H:Hp)(Q:VK):adq (some (.lst xs)) (some (.lst zs)) H Q=(xs.length+zs.length<=sizeLine/\∀p,H p=none->Q (.ref p) (upd H p (.lst (xs++zs)))):=rfl
theorem bN:OpR X (binaryOp .Add) Ca:=by
 intro pins s σ H x y v u Q I rx ry h;unfold Ca at h;split at h
 ·exact RV pins s σ H _ _ v u Q I rx ry ⟨_,_,rfl,rfl,h⟩
 ·rename_i p q;unfold adq at h;split at h
  ·rename_i xs zs e1 e2;exact RT pins s σ H _ _ v u Q I rx ry ⟨p,q,xs,zs,rfl,rfl,e1,e2,h.1,h.2⟩
  exact h.elim
 exact h.elim
noncomputable def eqL:List V->List V->Bool
 | [],[]=>true
 | x::xs,y::ys=>eqV x y&&eqL xs ys
 | _,_=>false
noncomputable def R8 (a b:Option HO)(H:Hp)(Q:VK):Prop:=match a,b with
 | some (.lst xs),some (.lst zs)=>xs.all fu=true/\zs.all fu=true/\Q (.bl (!eqL xs zs)) H
 | _,_=>False
noncomputable def DX:R2:=fun x y H Q=>match x,y with
 | .ref p,.ref q=>R8 (H p) (H q) H Q
 | x,y=>rNe x y H Q
theorem QJ (p q:Addr)(H:Hp)(Q:VK):DX (.ref p) (.ref q) H Q=R8 (H p) (H q) H Q:=rfl
theorem QK (i j:Int)(H:Hp)(Q:VK):DX (.int i) (.int j) H Q=rNe (.int i) (.int j) H Q:=rfl
theorem QL (i j:Bool)(H:Hp)(Q:VK):DX (.bl i) (.bl j) H Q=rNe (.bl i) (.bl j) H Q:=rfl
theorem QF (i j:Str)(H:Hp)(Q:VK):DX (.str i) (.str j) H Q=rNe (.str i) (.str j) H Q:=rfl
theorem Df:∀(xs zs:List V),xs.length=zs.length->((List.range xs.length).all fun j=>match xs[j]?,zs[j]? with|some a,some b=>eqV a b|_,_=>true)=eqL xs zs
 | [],[],_=>rfl
 | [],_::_,h=>by cases h
 | _::_,[],h=>by cases h
 | x::xs,z::zs,h=>by
  have ih:=Df xs zs (by simpa using h);rw[length_cons,List.range_succ_eq_map,all_cons,all_map];show(eqV x z&&_)=(eqV x z&&eqL xs zs);rw[<- ih];rfl
theorem Dd:∀(xs zs:List V),xs.length≠zs.length->eqL xs zs=false
 | [],[],h=>absurd rfl h
 | [],_::_,_=>rfl
 | _::_,[],_=>rfl
 | x::xs,z::zs,h=>by
  show(eqV x z&&eqL xs zs)=false;rw[Dd xs zs (by simpa using h),Bool.and_false]
theorem jt (hu:X.A.units<cLine):OpR X (compareOp .NotEq) DX:=by
 intro pins s σ H x y v u Q I rx ry h;unfold DX at h;split at h
 ·rename_i p q;unfold R8 at h;split at h
  ·rename_i xs zs e1 e2;obtain⟨f1,f2,q⟩:=h;cases rx;cases ry;obtain⟨its1,r1,pl1,hz1⟩:=I.list (SqL.of e1);obtain⟨its2,r2,pl2,hz2⟩:=I.list (SqL.of e2);have l1:=r1.length;have l2:=r2.length;by_cases hl:xs.length=zs.length
   ·refine SeqAt.RcNeAt.lists (e:=fun j=>match xs[j]?,zs[j]? with|some a,some b=>eqV a b|_,_=>true) pl1.isList pl2.isList (by simp only[size_toArray];omega) hu (fun j h1 h2=>?_) X.prog X.w X.xe (EP X pins σ Q) ?_
    ·have j1:j<xs.length:=by simp only[size_toArray] at h1;omega
     have j2:j<zs.length:=ω;have g1:xs[j]?=some xs[j]:=getElem?_eq_getElem j1;have g2:zs[j]?=some zs[j]:=getElem?_eq_getElem j2;obtain⟨u1,hu1,ru1⟩:=r1.get g1;obtain⟨u2,hu2,ru2⟩:=r2.get g2;have k1:its1.toArray[j]=u1:=by
      have:=List.getElem?_eq_some_iff.mp hu1;obtain⟨_,z⟩:=this;simpa using z
     have k2:its2.toArray[j]=u2:=by
      have:=List.getElem?_eq_some_iff.mp hu2;obtain⟨_,z⟩:=this;simpa using z
     rw[k1,k2,g1,g2];exact J6 ru1 ru2 (all_eq_true.mp f1 _ (getElem_mem j1)) (all_eq_true.mp f2 _ (getElem_mem j2))
    rw[show its1.toArray.size=xs.length by simp only[size_toArray];omega,Df xs zs hl];exact⟨.bl _,H,I,rfl,q⟩
   rw[Dd xs zs hl] at q;refine SeqAt.RcNeAt.lists_lengths pl1.isList pl2.isList (by simp only[size_toArray,bne_iff_ne,ne_eq];omega) hu X.prog X.w X.xe (EP X pins σ Q) ⟨.bl _,H,I,rfl,q⟩
  exact h.elim
 exact U3 pins s σ H _ _ v u Q I rx ry h
noncomputable def inq (neg:Bool)(o:Option HO)(x:V)(H:Hp)(Q:VK):Prop:=match o with
 | some (.lst xs)=>fu x=true/\xs.all fu=true/\Q (.bl (if neg then !inV x xs else inV x xs)) H
 | some (.tup xs)=>fu x=true/\xs.all fu=true/\Q (.bl (if neg then !inV x xs else inV x xs)) H
 | _=>False
noncomputable def QX (neg:Bool):R2:=fun x y H Q=>match y with
 | .ref p=>inq neg (H p) x H Q
 | _=>False
theorem QV (neg:Bool)(x:V)(p:Addr)(H:Hp)(Q:VK):QX neg x (.ref p) H Q=inq neg (H p) x H Q:=rfl
theorem Vc (neg:Bool)(x:V)(xs:List V)(H:Hp)(Q:VK):inq neg (some (.tup xs)) x H Q=(fu x=true/\xs.all fu=true/\Q (.bl (if neg then !inV x xs else inV x xs)) H):=rfl
theorem S8 {neg:Bool}{o:Option HO}{x:V}{H:Hp}{Q:VK}{p:Addr}{K:PySem.W.Frag}(e:H p=o)(h:inq neg o x H Q):rIn K neg x (.ref p) H Q:=by
 unfold inq at h;split at h
 ·rename_i xs;exact⟨p,xs,rfl,.inl (SqL.of e),h.1,h.2.1,h.2.2⟩
 ·rename_i xs;exact⟨p,xs,rfl,.inr (SqT.of e),h.1,h.2.1,h.2.2⟩
 exact h.elim
theorem Eg:OpR X (compareOp .NotIn) (QX true):=by
 intro pins s σ H x y v u Q I rx ry h;unfold QX at h;split at h
 ·exact vg pins s σ H _ _ v u Q I rx ry (S8 rfl h)
 exact h.elim
end
theorem Kw {c:TT}{tb:TS}{D:Ends}{σ:St}{H:Hp}(W:Nat->St->Hp->Prop)(m:Nat)(h0:W m σ H)
  (h:∀m σ H,W m σ H->c σ H fun b H1=>if b=true then ∃N:St->Hp->Prop,(∀σ' H',N σ' H'->∃m',m'<m/\W m' σ' H')/\tb { D with nx:=N,ct:=N,bk:=D.nx } σ H1 else D.nx σ H1):yW c tb D σ H:=⟨W,⟨m,h0⟩,h⟩
structure bU (H:Hp)(p:Addr)(B:Int):Prop where
 ex:∃a b c:Int,H p=some (.lst [.int a,.int b,.int c])/\0<=a/\0<=b/\b<2147483629/\0<=c/\c<=B
theorem bU.same {H H':Hp}{p:Addr}{B:Int}(h:bU H p B)(s:Same H H'):bU H' p B:=by
 obtain⟨a,b,c,e,r⟩:=h;exact⟨a,b,c,s _ _ e,r⟩
theorem bU.le {H:Hp}{p:Addr}{B B':Int}(h:bU H p B)(l:B<=B'):bU H p B':=by
 obtain⟨a,b,c,e,r1,r2,r3,r4,r5⟩:=h;exact⟨a,b,c,e,r1,r2,r3,r4,ω⟩
theorem bU.ne {H:Hp}{p q:Addr}{B:Int}(h:bU H p B)(n:H q=none):q≠p:=by
 obtain⟨a,b,c,e,_⟩:=h;exact(aD e n).symm
noncomputable def GZ (K:PySem.W.Frag):Sp:=fun vs H Q _=>∃(a:Addr)(ns:List Int)(k:Int),vs=[.ref a,.int k]/\SqL K H a (ns.map V.int)/\0<=k/\∀v:Int,Q (.int v) H
noncomputable def GR (K:PySem.W.Frag):Sp:=fun vs H Q _=>∃(a:Addr)(ns:List Int)(k:Int),vs=[.ref a,.int k]/\SqL K H a (ns.map V.int)/\0<=k/\k<=100/\∀p H',H p=none->Same H H'->bU H' p 0->Q (.ref p) H'
noncomputable def jo (n:Nat):Sp:=fun vs H Q _=>∃(p:Addr)(m B:Int),vs=[.ref p,.int m]/\bU H p B/\B+(n:Int)<=1000100/\0<m/\m<2^70/\1<=n/\(1000000<=m->2<=n) /\
 ∀r H',0<=r->r<m->aV p H H'->bU H' p (B+n)->Q (.int r) H'
theorem Rm (c:Int):∃v:Int,atI [V.int 2147483587,V.int 2147483579,V.int 2147483563,V.int 2147483549,V.int 2147483543,V.int 2147483497,V.int 2147483489] (c%7)=some (.int v)/\0<v:=by
 have h1:0<=c%7:=emod_nonneg _ δ;have h2:c%7<7:=emod_lt_of_pos _ δ;generalize c%7=d at h1 h2;have h3:d=0\/d=1\/d=2\/d=3\/d=4\/d=5\/d=6:=ω;rcases h3 with rfl|rfl|rfl|rfl|rfl|rfl|rfl
 ·exact⟨_,dh (j:=0) rfl,δ⟩
 ·exact⟨_,dh (j:=1) rfl,δ⟩
 ·exact⟨_,dh (j:=2) rfl,δ⟩
 ·exact⟨_,dh (j:=3) rfl,δ⟩
 ·exact⟨_,dh (j:=4) rfl,δ⟩
 ·exact⟨_,dh (j:=5) rfl,δ⟩
 exact⟨_,dh (j:=6) rfl,δ⟩
theorem Oo {a b:V}{P:V->V->Prop}:(∃v w,(a=v/\b=w)/\P v w)=P a b:=propext ⟨fun⟨_,_,⟨h1,h2⟩,h⟩=>h1 ▸ h2 ▸ h,fun h=>⟨a,b,⟨rfl,rfl⟩,h⟩⟩
inductive It1 where
 | one (a:Int)
 | rng (a b:Int)
 | bits (m v:Nat)
section
variable {mp:List (Option Nat)}{g:TG}{tc:TT}{te:TE}{σ:St}{H:Hp}{Q:VK}{R:It->Hp->Prop}{K:PySem.W.Frag}
theorem Kc {lo:Int}{n:Nat}(hR:R=yQ mp g tc te σ Q)(hz:n<=sizeLine)(Pv:Nat->List V->St->Hp->Prop)(h0:Pv 0 [] (fY mp σ) H)(hl:∀i acc τ H,Pv i acc τ H->acc.length<=i)
  (hs:∀i acc τ H,i<n->Pv i acc τ H->g (.int (lo+i)) τ H fun τ1 H4=>tc τ1 H4 fun b H5=>if b=true then te τ1 H5 fun v H6=>Pv (i+1) (acc++[v]) τ1 H6 else Pv (i+1) acc τ1 H5)
  (hd:∀acc τ H d,Pv n acc τ H->H d=none->Q (.ref d) (upd H d (.lst acc))):R (Itr lo n) H:=by
 refine mX hR n hz Pv h0 hl (fun i acc τ H hi _=>hi) (fun acc τ H _=>le_refl n) (fun i acc τ H x H3 hi p y=>?_) hd;obtain⟨rfl,rfl⟩:=y;exact hs i acc τ _ hi p
theorem jE {a:Addr}{xs:List V}(hR:R=yQ mp g tc te σ Q)(hz:xs.length<=sizeLine)(Pv:Nat->List V->St->Hp->Prop)(h0:Pv 0 [] (fY mp σ) H)(hl:∀i acc τ H,Pv i acc τ H->acc.length<=i)
  (hq:∀i acc τ H,Pv i acc τ H->SqL K H a xs)
  (hs:∀i x acc τ H,xs[i]?=some x->Pv i acc τ H->g x τ H fun τ1 H4=>tc τ1 H4 fun b H5=>if b=true then te τ1 H5 fun v H6=>Pv (i+1) (acc++[v]) τ1 H6 else Pv (i+1) acc τ1 H5)
  (hd:∀acc τ H d,Pv xs.length acc τ H->H d=none->Q (.ref d) (upd H d (.lst acc))):R (Itl K a) H:=by
 refine mX hR xs.length hz Pv h0 hl (fun i acc τ H hi p=>⟨xs,xs[i],hq i acc τ H p,getElem?_eq_getElem hi⟩) (fun acc τ H p=>⟨xs,hq _ acc τ H p,le_refl _⟩) (fun i acc τ H x H3 hi p y=>?_) hd;obtain⟨rfl,hx⟩:=y;exact hs i x acc τ _ (hx xs (hq i acc τ _ p)) p
theorem Tz {a:Addr}{xs:List V}(hR:R=yQ mp g tc te σ Q)(hz:xs.length<=sizeLine)(Pv:Nat->List V->St->Hp->Prop)(h0:Pv 0 [] (fY mp σ) H)(hl:∀i acc τ H,Pv i acc τ H->acc.length<=i)
  (hq:∀i acc τ H,Pv i acc τ H->SqL K H a xs)
  (hs:∀(i:Nat) x acc τ H p,xs[i]?=some x->Pv i acc τ H->H p=none->g (.ref p) τ (upd H p (.tup [.int (i:Nat),x])) fun τ1 H4=>tc τ1 H4 fun b H5=>if b=true then te τ1 H5 fun v H6=>Pv (i+1) (acc++[v]) τ1 H6 else Pv (i+1) acc τ1 H5)
  (hd:∀acc τ H d,Pv xs.length acc τ H->H d=none->Q (.ref d) (upd H d (.lst acc))):R (Ite K a) H:=by
 refine mX hR xs.length hz Pv h0 hl (fun i acc τ H hi p=>⟨xs,xs[i],hq i acc τ H p,getElem?_eq_getElem hi⟩) (fun acc τ H p=>⟨xs,hq _ acc τ H p,getElem?_eq_none (le_refl _)⟩) (fun i acc τ H x H3 hi p y=>?_) hd;obtain⟨q,x1,rfl,hq1,rfl,hx⟩:=y;exact hs i x1 acc τ _ q (hx xs (hq i acc τ _ p)) p hq1
end
theorem Ol (g:TG)(gs:TGs)(x:V)(xs:List V)(σ:St)(H:Hp)(Q:St->Hp->Prop):J0 g gs (x::xs) σ H Q=g x σ H fun σ1 H1=>gs xs σ1 H1 Q:=
 propext ⟨fun⟨_,_,e,h⟩=>by cases e;exact h,fun h=>⟨x,xs,rfl,h⟩⟩
theorem Te (σ:St)(H:Hp)(Q:St->Hp->Prop):Tf [] σ H Q=Q σ H:=propext ⟨fun h=>h.2,fun h=>⟨rfl,h⟩⟩
theorem Vd {tc:TT}{ts us:TS}{D:Ends}{σ:St}{H:Hp}(h:∀kt ke,kt=ts D->ke=us D->tc σ H fun b H1=>if b=true then kt σ H1 else ke σ H1):KJ tc ts us D σ H:=h _ _ rfl rfl
theorem BV {p:Addr}{H H':Hp}(h:aV p H H')(e:H p=none):Same H H':=fun b o hb=>h b o (aD hb e) hb
section
variable {X:Cx}{e o:Expr}{te to:TE}{pos:Pos}
noncomputable def apq (ob:Option HO)(l:Addr)(y:V)(H:Hp)(Q:VK):Prop:=match ob with
 | some (.lst xs)=>xs.length<sizeLine/\Q .non (upd H l (.lst (xs++[y])))
 | _=>False
noncomputable def isq (ob:Option HO):Prop:=match ob with
 | some (.lst _)=>True
 | _=>False
theorem CP (xs:List V):isq (some (.lst xs))=True:=rfl
theorem Ds (xs:List V)(l:Addr)(y:V)(H:Hp)(Q:VK):apq (some (.lst xs)) l y H Q=(xs.length<sizeLine/\Q .non (upd H l (.lst (xs++[y])))):=rfl
noncomputable def T5 (x:V)(te:TE)(σ:St)(H1:Hp)(Q:VK):Prop:=match x with
 | .ref l=>isq (H1 l)/\te σ H1 fun y H2=>apq (H2 l) l y H2 Q
 | _=>False
noncomputable def GJ (to te:TE):TE:=fun σ H Q=>to σ H fun x H1=>T5 x te σ H1 Q
theorem GF (to te:TE)(σ:St)(H:Hp)(Q:VK):GJ to te σ H Q=to σ H fun x H1=>T5 x te σ H1 Q:=rfl
theorem Ko (l:Addr)(te:TE)(σ:St)(H1:Hp)(Q:VK):T5 (.ref l) te σ H1 Q=(isq (H1 l)/\te σ H1 fun y H2=>apq (H2 l) l y H2 Q):=rfl
theorem Nf {apos cpos:Pos}(ho:PE X o to)(he:PE X e te)
  (hbase:attributeBase o "append" X.env (eval o X.env)=eval o X.env:=by rfl)
  (hfew:((backTo cpos (starEach [e] X.env)).all (fun x=>!x.1)&&(backToKw cpos (keywordEach [] X.env)).all (fun x=>x.1.isSome)
   && decide ([e].length+([]:List Keyword).length+(if ([]:List Keyword).isEmpty then 0 else 1)<30))=true:=by rfl)
  (hline:(apos.endLine == cpos.line)=true:=by rfl) (hs:starEach [e] X.env=(false,eval e X.env)::starEach [] X.env:=by rfl) (hplain:(backTo cpos (starEach [] X.env)).any (·.1)=false:=by rfl) :
  PE X (.Call (.Attribute o "append" apos) [e] [] cpos) (GJ to te):=by
 intro pins s σ H Q I h;refine wpAny_Call_method_late hbase hfew hline rfl (thE (ho pins s σ H _ I h) fun v s1 x H1 I1 r1 q=>?_);cases x with
 | ref l=>
  obtain⟨q1,q2⟩:=q;cases el:H1 l with
  | none=>rw[el] at q1;exact q1.elim
  | some ob=>
   cases ob with
   | lst xs=>
    obtain⟨h1,h2⟩:=uD (T := "list") I1 r1 (.inl ⟨rfl,xs,SqL.of el⟩);refine⟨"list","list.append",PySem.F.plainAttrs_list,PySem.F.slot_list_append,PySem.F.type_list_append,h1,h2,?_⟩;rw[hs];refine Calls.callWith_builtin (by show(false||(backTo cpos (starEach [] X.env)).any (·.1))=false;rw[hplain] <;> rfl) (Calls.evalArgs_plain ?_)
    refine Calls.spliced_cons (thE (he pins s1 σ H1 _ I1 q2) fun u s2 y H2 I2 r2 q3=>Calls.spliced_nil ?_);replace q3:apq (H2 l) l y H2 Q:=q3;cases el2:H2 l with
    | none=>rw[el2] at q3;exact q3.elim
    | some ob2=>
     cases ob2 with
     | lst ys=>
      rw[el2] at q3;exact El pins s2 σ H2 (.ref l) [y] v [u] Q I2 r1 (.cons r2 .nil) ⟨l,ys,y,rfl,rfl,el2,q3.1,q3.2⟩
     | _=>rw[el2] at q3;exact q3.elim
   | _=>rw[el] at q1;exact q1.elim
 | _=>exact q.elim
theorem mz {apos cpos:Pos}(ho:QE X o to)(he:QE X e te)
  (hbase:attributeBase o "append" X.env (eval o X.env)=eval o X.env:=by rfl)
  (hfew:((backTo cpos (starEach [e] X.env)).all (fun x=>!x.1)&&(backToKw cpos (keywordEach [] X.env)).all (fun x=>x.1.isSome)
   && decide ([e].length+([]:List Keyword).length+(if ([]:List Keyword).isEmpty then 0 else 1)<30))=true:=by rfl)
  (hline:(apos.endLine == cpos.line)=true:=by rfl) (hs:starEach [e] X.env=(false,eval e X.env)::starEach [] X.env:=by rfl) (hplain:(backTo cpos (starEach [] X.env)).any (·.1)=false:=by rfl) :
  QE X (.Call (.Attribute o "append" apos) [e] [] cpos) (GJ to te):=⟨Nf ho.h he.h hbase hfew hline hs hplain⟩
noncomputable def slq (ob:Option HO)(lo hi:Option Int)(H:Hp)(Q:VK):Prop:=match ob with
 | some (.lst xs)=>∀p,H p=none->Q (.ref p) (upd H p (.lst (nW xs lo hi)))
 | some (.tup xs)=>¬(HT.sIx xs.length 0 lo=0/\HT.sIx xs.length xs.length hi=xs.length)/\∀p,H p=none->Q (.ref p) (upd H p (.tup (nW xs lo hi)))
 | _=>False
noncomputable def Qy:V->Option Int->Option Int->Hp->VK->Prop:=fun x lo hi H Q=>match x with
 | .ref p=>slq (H p) lo hi H Q
 | _=>False
theorem Hq (p:Addr)(lo hi:Option Int)(H:Hp)(Q:VK):Qy (.ref p) lo hi H Q=slq (H p) lo hi H Q:=rfl
theorem K5 (xs:List V)(lo hi:Option Int)(H:Hp)(Q:VK):slq (some (.lst xs)) lo hi H Q=∀p,H p=none->Q (.ref p) (upd H p (.lst (nW xs lo hi))):=rfl
theorem K4 (xs:List V)(lo hi:Option Int)(H:Hp)(Q:VK):slq (some (.tup xs)) lo hi H Q=(¬(HT.sIx xs.length 0 lo=0/\HT.sIx xs.length xs.length hi=xs.length)/\∀p,H p=none->Q (.ref p) (upd H p (.tup (nW xs lo hi)))):=rfl
theorem Qs:SlR X Qy:=by
 intro pins s σ H x v vl vu lo hi sl Q I rx hs pl pu h;unfold Qy at h;split at h
 ·rename_i p;unfold slq at h;split at h
  ·rename_i xs e;exact K6 pins s σ H _ v vl vu lo hi sl Q I rx hs pl pu ⟨p,xs,rfl,SqL.of e,h⟩
  ·rename_i xs e;exact Qq pins s σ H _ v vl vu lo hi sl Q I rx hs pl pu ⟨p,xs,rfl,SqT.of e,h.1,h.2⟩
  exact h.elim
 exact h.elim
structure QO (X:Cx)(e:Option Expr)(t:TO):Prop where
 h:PO X e t
theorem u5:QO X none uF:=⟨Ms⟩
theorem u0 (h:QE X e te):QO X (some e) (Gu te):=⟨vf h.h⟩
theorem pU {r:V->Option Int->Option Int->Hp->VK->Prop}{lo hi:Option Expr}{tl th:TO}{p2:Pos}(hr:SlR X r)(he:QE X e te)(hl:QO X lo tl)(hu:QO X hi th):QE X (.Subscript e (.Slice lo hi none p2) pos) (tSl r te tl th):=⟨Iv hr he.h hl.h hu.h⟩
noncomputable def rpq (ob:Option HO)(k:Int)(H:Hp)(Q:VK):Prop:=match ob with
 | some (.lst xs)=>-(2^63)<=k/\k<2^63/\xs.length*k.toNat<=sizeLine/\∀p,H p=none->Q (.ref p) (upd H p (.lst (List.replicate k.toNat xs).flatten))
 | _=>False
noncomputable def BZ:R2:=fun x y H Q=>match x,y with
 | .ref p,.int k=>rpq (H p) k H Q
 | x,y=>rI FZ (fun i j=>.int (i*j)) x y H Q
theorem Lh (p:Addr)(k:Int)(H:Hp)(Q:VK):BZ (.ref p) (.int k) H Q=rpq (H p) k H Q:=rfl
theorem Li (i j:Int)(H:Hp)(Q:VK):BZ (.int i) (.int j) H Q=rI FZ (fun i j=>.int (i*j)) (.int i) (.int j) H Q:=rfl
theorem Lb (xs:List V)(k:Int)(H:Hp)(Q:VK):rpq (some (.lst xs)) k H Q=(-(2^63)<=k/\k<2^63/\xs.length*k.toNat<=sizeLine/\∀p,H p=none->Q (.ref p) (upd H p (.lst (List.replicate k.toNat xs).flatten))):=rfl
theorem cI:OpR X (binaryOp .Mult) BZ:=by
 intro pins s σ H x y v u Q I rx ry h;unfold BZ at h;split at h
 ·rename_i p k;unfold rpq at h;split at h
  ·rename_i xs e;exact RM pins s σ H _ _ v u Q I rx ry ⟨p,k,xs,rfl,rfl,e,h.1,h.2.1,h.2.2.1,h.2.2.2⟩
  exact h.elim
 exact RP pins s σ H _ _ v u Q I rx ry h
noncomputable def eqo (ob:Option HO)(H:Hp)(Q:VK):Prop:=match ob with
 | some (.lst _)=>Q (.bl false) H
 | some (.tup _)=>Q (.bl false) H
 | _=>False
noncomputable def Ea:R2:=fun x y H Q=>match x,y with
 | .ref p,.str _=>eqo (H p) H Q
 | x,y=>rEq x y H Q
theorem Lp (i j:Int)(H:Hp)(Q:VK):Ea (.int i) (.int j) H Q=rEq (.int i) (.int j) H Q:=rfl
theorem Lq (i j:Bool)(H:Hp)(Q:VK):Ea (.bl i) (.bl j) H Q=rEq (.bl i) (.bl j) H Q:=rfl
theorem Lk (i j:Str)(H:Hp)(Q:VK):Ea (.str i) (.str j) H Q=rEq (.str i) (.str j) H Q:=rfl
theorem Ln (H:Hp)(Q:VK):Ea .non .non H Q=rEq .non .non H Q:=rfl
theorem eO (hu:X.A.units<cLine):OpR X (compareOp .Eq) Ea:=by
 intro pins s σ H x y v u Q I rx ry h;unfold Ea at h;split at h
 ·rename_i p z;cases rx;obtain⟨t,rfl⟩:=ry;unfold eqo at h;split at h
  ·rename_i xs e;obtain⟨its,r,pl,hz⟩:=I.list (SqL.of e);exact SeqAt.RcAt.list_str z t pl.isList hu X.prog X.w X.xe (EP X pins σ Q) ⟨.bl false,H,I,rfl,h⟩
  ·rename_i xs e;obtain⟨its,r,pl,hz⟩:=I.tuple (SqT.of e);exact SeqAt.RcAt.tuple_str z t pl hu X.prog X.w X.xe (EP X pins σ Q) ⟨.bl false,H,I,rfl,h⟩
  exact h.elim
 exact U5 pins s σ H _ _ v u Q I rx ry h
theorem Mf {x:Str}{v:V}{u:Value}(hg:Gl X x)(hm:X.mg x=some u)(r:RelV v u)(b:Bn x):QE X (.Name x pos) (tC v):=⟨M4 hg hm r b.hd⟩
end
mutual
inductive aH (ok:Addr->Prop)(H:Hp):V->PyData->Prop
 | non:aH ok H .non .none
 | bl (b:Bool):aH ok H (.bl b) (.bool b)
 | int (i:Int):aH ok H (.int i) (.int i)
 | str (x:Str):aH ok H (.str x) (.str x)
 | lst {p:Addr} {xs:List V} {ds:List PyData}:ok p->H p=some (.lst xs)->xs.length<=1000000->aJ ok H xs ds->aH ok H (.ref p) (.list ds)
 | tup {p:Addr} {xs:List V} {ds:List PyData}:ok p->H p=some (.tup xs)->xs.length<=1000000->aJ ok H xs ds->aH ok H (.ref p) (.tuple ds)
inductive aJ (ok:Addr->Prop)(H:Hp):List V->List PyData->Prop
 | nil:aJ ok H [] []
 | cons {x:V} {d:PyData} {xs:List V} {ds:List PyData}:aH ok H x d->aJ ok H xs ds->aJ ok H (x::xs) (d::ds)
end
mutual
theorem aH.keep {ok ok':Addr->Prop}{H H':Hp}(k:∀a o,ok a->H a=some o->ok' a/\H' a=some o):∀{v:V}{d:PyData},aH ok H v d->aH ok' H' v d
 | _,_,.non=>.non
 | _,_,.bl b=>.bl b
 | _,_,.int i=>.int i
 | _,_,.str x=>.str x
 | _,_,.lst o e z t=>.lst (k _ _ o e).1 (k _ _ o e).2 z (aJ.keep k t)
 | _,_,.tup o e z t=>.tup (k _ _ o e).1 (k _ _ o e).2 z (aJ.keep k t)
theorem aJ.keep {ok ok':Addr->Prop}{H H':Hp}(k:∀a o,ok a->H a=some o->ok' a/\H' a=some o):∀{vs:List V}{ds:List PyData},aJ ok H vs ds->aJ ok' H' vs ds
 | _,_,.nil=>.nil
 | _,_,.cons t r=>.cons (aH.keep k t) (aJ.keep k r)
end
theorem aH.same {ok:Addr->Prop}{H H':Hp}{v:V}{d:PyData}(t:aH ok H v d)(s:Same H H'):aH ok H' v d:=t.keep fun a o h e=>⟨h,s a o e⟩
theorem aJ.same {ok:Addr->Prop}{H H':Hp}{v:List V}{d:List PyData}(t:aJ ok H v d)(s:Same H H'):aJ ok H' v d:=t.keep fun a o h e=>⟨h,s a o e⟩
theorem aJ.jX {p:Addr}{H H':Hp}{v:List V}{d:List PyData}(t:aJ (·≠p) H v d)(s:aV p H H'):aJ (·≠p) H' v d:=t.keep fun a o h e=>⟨h,s a o h e⟩
theorem aJ.length {ok:Addr->Prop}{H:Hp}:∀{vs:List V}{ds:List PyData},aJ ok H vs ds->vs.length=ds.length
 | _,_,.nil=>rfl
 | _,_,.cons _ r=>by rw[length_cons,length_cons,r.length]
theorem aJ.append {ok:Addr->Prop}{H:Hp}:∀{vs ws:List V}{ds es:List PyData},aJ ok H vs ds->aJ ok H ws es->aJ ok H (vs++ws) (ds++es)
 | _,_,_,_,.nil,t=>t
 | _,_,_,_,.cons h r,t=>.cons h (r.append t)
theorem aJ.get {ok:Addr->Prop}{H:Hp}:∀{vs:List V}{ds:List PyData}{i:Nat}{v:V},aJ ok H vs ds->vs[i]?=some v->∃d,ds[i]?=some d/\aH ok H v d
 | _,_,0,_,.cons h _,e=>by cases e;exact⟨_,rfl,h⟩
 | _,_,i+1,_,.cons _ r,e=>aJ.get r (i:=i) e
section
variable {X:Cx}{pins:List (Addr×Obj)}{σ:St}{H:Hp}{s:Shared}{ok:Addr->Prop}
mutual
theorem aH.reads (I:Inv X pins σ H s):∀{v:V}{d:PyData}{u:Value},aH ok H v d->RelV v u->∃as,Reads s.heap u d as
 | _,_,_,.non,r=>by cases r;exact⟨_,.none⟩
 | _,_,_,.bl b,r=>by cases r;exact⟨_,.bool b⟩
 | _,_,_,.int i,r=>by obtain⟨t,rfl⟩:=r;exact⟨_,.int i t⟩
 | _,_,_,.str x,r=>by obtain⟨t,rfl⟩:=r;exact⟨_,.str x t⟩
 | _,_,_,.lst o e z t,r=>by
  cases r;obtain⟨its,rv,pl,hz⟩:=I.list (SqL.of e);obtain⟨ob,h1,h2,n,h3⟩:=pl.isList;obtain⟨as,h4⟩:=aJ.reads I t rv;exact⟨_,.list h1 h2 h3 (by simpa using h4)⟩
 | _,_,_,.tup o e z t,r=>by
  cases r;obtain⟨its,rv,pl,hz⟩:=I.tuple (SqT.of e);obtain⟨ob,h1,h2,n,h3⟩:=pl;obtain⟨as,h4⟩:=aJ.reads I t rv;exact⟨_,.tuple h1 h2 h3 (by simpa using h4)⟩
theorem aJ.reads (I:Inv X pins σ H s):∀{vs:List V}{ds:List PyData}{us:List Value},aJ ok H vs ds->Vals vs us->∃as,ReadsAll s.heap us ds as
 | _,_,_,.nil,r=>by cases r;exact⟨_,.nil⟩
 | _,_,_,.cons h t,r=>by
  cases r with
  | cons r1 r2=>
   obtain⟨as,h1⟩:=aH.reads I h r1;obtain⟨bs,h2⟩:=aJ.reads I t r2;exact⟨_,.cons h1 h2⟩
end
end
mutual
noncomputable def nodes:PyData->Nat
 | .list ds=>1+dX ds
 | .tuple ds=>1+dX ds
 | _=>1
noncomputable def dX:List PyData->Nat
 | []=>0
 | d::ds=>nodes d+dX ds
end
mutual
noncomputable def smD:PyData->Bool
 | .none=>true
 | .bool _=>true
 | .int i=>decide (i.natAbs<2^50\/i.natAbs=10^20\/i.natAbs<2^55)
 | .str x=>decide ((reprText x).length<=50)
 | .list ds=>lW ds
 | .tuple ds=>lW ds
 | .dict _=>false
noncomputable def lW:List PyData->Bool
 | []=>true
 | d::ds=>smD d&&lW ds
end
theorem Og {i:Int}(h:i.natAbs<2^70):(Str.ofString (toString i)).length<=71:=by
 rw[PySem.ofString_length];have:=int_text_length_le10 (a:=i) (k:=30) δ ω;omega
mutual
theorem tE:∀(d:PyData),smD d=true->d.shown.length+2<=80*nodes d
 | .none,_=>by decide
 | .bool b,_=>by cases b <;> decide
 | .int i,h=>by
  have h1:i.natAbs<2^70:=by
   have:i.natAbs<2^50\/i.natAbs=10^20\/i.natAbs<2^55:=of_decide_eq_true (by simpa [smD] using h);omega
  have:=Og h1;show(Str.ofString (toString i)).length+2<=80*1;omega
 | .str x,h=>by
  have h1:(reprText x).length<=50:=by simpa [smD] using h
  show(reprText x).length+2<=80*1;omega
 | .list ds,h=>by
  have h1:=iU ds (by simpa [smD] using h);have h2:=listText_len_le (PyData.shownAll ds);rw[PyData.shown.eq_5,nodes];omega
 | .tuple ds,h=>by
  have h1:=iU ds (by simpa [smD] using h);have h2:=tupleText_len_le (PyData.shownAll ds);rw[PyData.shown.eq_6,nodes];omega
 | .dict kvs,h=>by simp [smD] at h
theorem iU:∀(ds:List PyData),lW ds=true->((PyData.shownAll ds).map fun x=>x.length).sum+2*(PyData.shownAll ds).length<=80*dX ds
 | [],_=>by simp [PyData.shownAll,dX]
 | d::ds,h=>by
  rw[lW,and_eq_true] at h;have h1:=tE d h.1;have h2:=iU ds h.2;rw[PyData.shownAll.eq_2,dX,map_cons,sum_cons,length_cons];omega
end
mutual
theorem uI:∀(d:PyData),smD d=true->d.showable=true/\d.hasDict=false
 | .none,_=>⟨rfl,rfl⟩
 | .bool b,_=>⟨rfl,rfl⟩
 | .int i,h=>by
  refine⟨?_,rfl⟩;have h1:i.natAbs<2^70:=by
   have:i.natAbs<2^50\/i.natAbs=10^20\/i.natAbs<2^55:=of_decide_eq_true (by simpa [smD] using h);omega
  show decide (i.natAbs.log2<1920)=true;refine decide_eq_true ?_;by_cases z:i.natAbs=0
  ·rw[z];decide
  have:=(Nat.log2_lt z).mpr h1;omega
 | .str x,_=>⟨rfl,rfl⟩
 | .list ds,h=>by
  obtain⟨h1,h2⟩:=lq ds (by simpa [smD] using h);exact⟨h1,h2⟩
 | .tuple ds,h=>by
  obtain⟨h1,h2⟩:=lq ds (by simpa [smD] using h);exact⟨h1,h2⟩
 | .dict kvs,h=>by simp [smD] at h
theorem lq:∀(ds:List PyData),lW ds=true->PyData.showableAll ds=true/\PyData.hasDictAll ds=false
 | [],_=>⟨rfl,rfl⟩
 | d::ds,h=>by
  rw[lW,and_eq_true] at h;obtain⟨h1,h2⟩:=uI d h.1;obtain⟨h3,h4⟩:=lq ds h.2;refine⟨?_,?_⟩
  ·rw[PyData.showableAll.eq_2,h1,h3];rfl
  rw[PyData.hasDictAll.eq_2,h2,h4];rfl
end
structure Kr (d:PyData):Prop where
 sm:smD d=true
 nd:nodes d<=200000
 dp:d.depth<=100
theorem Kr.len {d:PyData}(t:Kr d):d.shown.length<=sizeLine:=by
 have h1:=tE d t.sm;have h2:=t.nd;have h3:16000000<=sizeLine:=by decide
 omega
section
variable {X:Cx}{tg l:Expr}{tl:TE}
noncomputable def itq (K:PySem.W.Frag)(ob:Option HO)(a:Addr)(H:Hp)(R:It->Hp->Prop):Prop:=match ob with
 | some (.lst _)=>R (Itl K a) H
 | some (.tup _)=>R (Itt K a) H
 | _=>False
noncomputable def itK (K:PySem.W.Frag)(x:V)(H:Hp)(R:It->Hp->Prop):Prop:=match x with
 | .ref a=>itq K (H a) a H R
 | _=>False
noncomputable def JV (K:PySem.W.Frag)(tl:TE):TI:=fun σ H R=>tl σ H fun x H1=>itK K x H1 R
theorem JT (K:PySem.W.Frag)(tl:TE)(σ:St)(H:Hp)(R:It->Hp->Prop):JV K tl σ H R=tl σ H fun x H1=>itK K x H1 R:=rfl
theorem Oe (K:PySem.W.Frag)(a:Addr)(H:Hp)(R:It->Hp->Prop):itK K (.ref a) H R=itq K (H a) a H R:=rfl
theorem Oc (K:PySem.W.Frag)(xs:List V)(a:Addr)(H:Hp)(R:It->Hp->Prop):itq K (some (.lst xs)) a H R=R (Itl K a) H:=rfl
theorem Mw (hl:PE X l tl):PI X tg l (JV X.K tl):=by
 intro pins s σ H R I h;refine thn (hl pins s σ H _ I h) fun v s1 ⟨x,H1,I1,r1,q1⟩=>?_;cases x with
 | ref a=>
  replace q1:itq X.K (H1 a) a H1 R:=q1;cases r1;unfold itq at q1;split at q1
  ·rename_i xs e;obtain⟨its,rv,p,hz⟩:=I1.list (SqL.of e);refine wpAny_pyIter_list p.isList ?_;refine⟨s1.heap.objs.size,[s1.heap.objs.size],_,_,H1,rfl,I1.kept (t':=s1.toks) fun b o e=>get?_push_of_some _ e,Dv a _,⟨_,get?_push_size _ rfl,rfl,rfl⟩,fun b hb=>?_,q1⟩;have e:b=s1.heap.objs.size:=by simpa using hb
   subst e;exact I1.rY (le_refl _) (I1.hok.fresh (le_refl _))
  ·rename_i xs e;obtain⟨its,rv,p,hz⟩:=I1.tuple (SqT.of e);refine wpAny_pyIter_tuple (show s1.heap.IsTuple a its.toArray from p) ?_;refine⟨s1.heap.objs.size,[s1.heap.objs.size],_,_,H1,rfl,I1.kept (t':=s1.toks) fun b o e=>get?_push_of_some _ e,yS a _,⟨_,get?_push_size _ rfl,rfl,rfl⟩,fun b hb=>?_,q1⟩;have e:b=s1.heap.objs.size:=by simpa using hb
   subst e;exact I1.rY (le_refl _) (I1.hok.fresh (le_refl _))
  exact q1.elim
 | _=>exact q1.elim
theorem dm (hl:QE X l tl):QI X tg l (JV X.K tl):=⟨Mw hl.h⟩
end
noncomputable def oE (ok:Addr->Prop)(H0:Hp):Prop:=∀H p,Same H0 H->H p=none->ok p
theorem Ej {H0:Hp}:oE (fun _=>True) H0:=fun _ _ _ _=>trivial
theorem oE.same {ok:Addr->Prop}{H0 H1:Hp}(n:oE ok H0)(s:Same H0 H1):oE ok H1:=fun H p s2 h=>n H p (s.trans s2) h
noncomputable def rd0:=And.intro @KH.eq_1 (And.intro @KJ.eq_1 (And.intro @Gn.eq_1 (And.intro @tOp.eq_1 (And.intro @rI.eq_1 (And.intro @rI0.eq_1 (And.intro @rU.eq_1 (And.intro @tUn.eq_1 (And.intro @Gm.eq_1 (And.intro @tC.eq_1 (And.intro @Qf.eq_1 (And.intro @Gx.eq_1 (And.intro @wB.eq_1 (And.intro @GD.eq_1 (And.intro @Qi.eq_1 (And.intro @tCB.eq_1 (And.intro @tIf.eq_1 (And.intro @Qh.eq_1 (And.intro @tB.eq_1 (And.intro @Qo.eq_1 (And.intro @tOr.eq_1 (And.intro @GK.eq_1 (And.intro @Gw.eq_1 (And.intro @Qj.eq_1 (And.intro @Qc.eq_1 (And.intro @wC.eq_1 (And.intro @kJ.eq_1 (And.intro @Td.eq_1 (And.intro @Ey (And.intro @Oi (And.intro @wX (And.intro @Hs (And.intro @Hu (And.intro @Lx (And.intro @Qa.eq_1 (And.intro @Ol @Te)))))))))))))))))))))))))))))))))))
noncomputable def rd1:=And.intro @Hx (And.intro @DW (And.intro @DY (And.intro @Lj (And.intro @Oa (And.intro @N8 (And.intro @KR (And.intro @NT (And.intro @NQ (And.intro JN.1 (And.intro JN.2.1 (And.intro JN.2.2 (And.intro @Dr (And.intro @Vj (And.intro @Vi (And.intro @au (And.intro @HF (And.intro @Hy (And.intro @Tc (And.intro @N7 (And.intro @JL (And.intro @SQ (And.intro @SN (And.intro @kc_bool (And.intro @ty_int (And.intro @Ub (And.intro @ty_str (And.intro @P0 (And.intro @PX (And.intro @KD (And.intro @KC (And.intro @nq (And.intro @oH (And.intro @oG (And.intro @nj (And.intro @mj (And.intro @uT (And.intro @wQ @wO)))))))))))))))))))))))))))))))))))))
noncomputable def rd2:=And.intro @uR (And.intro @rH (And.intro @wN (And.intro @zc (And.intro @zb (And.intro @wM (And.intro @uQ (And.intro @wJ (And.intro @za (And.intro @yZ (And.intro @wI (And.intro @uN (And.intro @uP (And.intro @wL (And.intro @wK (And.intro @uO (And.intro @rG (And.intro @rF (And.intro @uM (And.intro @uL (And.intro @rE (And.intro @pP (And.intro @Bool.or_false (And.intro @Bool.or_self (And.intro @Bool.or_true (And.intro @Bool.not_true (And.intro @Bool.not_false (And.intro @false_eq_true (And.intro @if_true.{1} (And.intro @if_false.{1} (And.intro @decide_true (And.intro @decide_false (And.intro @GC.eq_1 (And.intro @rEq.eq_1 (And.intro @rNe.eq_1 @Lw))))))))))))))))))))))))))))))))))
noncomputable def rd3:=And.intro @Ls (And.intro @T6 (And.intro @QJ (And.intro @QK (And.intro @QL (And.intro @QF (And.intro @QV (And.intro @Vc (And.intro @DR (And.intro @K3 (And.intro @Qg.eq_1 (And.intro @G7 (And.intro @K8 (And.intro @G5 (And.intro @G6 (And.intro @FZ.eq_1 (And.intro @Ua.eq_1 (And.intro @Pz.eq_1 (And.intro @L2.start.eq_1 (And.intro @map_cons.{0,0} (And.intro @map_nil.{0,0} (And.intro @length_cons.{0} (And.intro @length_nil.{0} (And.intro @List.cons_append.{0} (And.intro @List.nil_append.{0} (And.intro @replicate_succ.{0} (And.intro @List.replicate_zero.{0} (And.intro @append_nil.{0} (And.intro @List.getElem?_cons_zero.{0} @List.getElem?_cons_succ.{0}))))))))))))))))))))))))))))
noncomputable def rd4:=And.intro @List.set_cons_zero.{0} (And.intro @List.set_cons_succ.{0} (And.intro @sub_self (And.intro @Option.some.injEq.{0} (And.intro @exists_eq_left'.{1} (And.intro @Oo (And.intro @V.int.injEq (And.intro @V.str.injEq (And.intro @V.bl.injEq (And.intro @V.ref.injEq (And.intro @List.cons.injEq.{0} (And.intro @and_true (And.intro @true_and (And.intro @exists_and_left.{1} (And.intro @decide_eq_true_eq (And.intro @GF (And.intro @Ko (And.intro @CP (And.intro @Ds (And.intro @Hq (And.intro @K5 (And.intro @K4 (And.intro @tSl.eq_1 (And.intro @uF.eq_1 (And.intro @Gu.eq_1 @Lh))))))))))))))))))))))))
noncomputable def rd5:=And.intro @Li (And.intro @Lb (And.intro @Lp (And.intro @Lq (And.intro @Lk (And.intro @Ln (And.intro @JT (And.intro @Oe @Oc)))))))
section
variable {X:Cx}{NX N:List Str}{kX:List (Str×NameKind)}{mp:List (Option Nat)}{scope:Scope}
set_option maxHeartbeats 8000000 in
theorem Mq {tg iter elt:Expr}{ifs:List Expr}{pos pos' pos2:Pos}{wi:TI}{g:TG}{tc:TT}{te:TE}{i:Nat}{x:Str}(N:List Str)(mp:List (Option Nat))(hn:Nm X.N X.env.scope i x)(hNd:X.N.Nodup)(hNX:X.N=NX)(hkX:X.env.scope.names=kX)(S:oF NX kX N mp scope)(hc:X.calm=true)
  (hi:PI X tg iter wi) (hg:∀cl C s H fp,PG (aW X N scope cl C s H fp) tg g) (ht:∀cl C s H fp,PTs (aW X N scope cl C s H fp) ifs tc) (he:∀cl C s H fp,PE (aW X N scope cl C s H fp) elt te)
  (hf:X.fn x=true\/X.env.scope.names.lookup x=some .local:=by exact .inl rfl)
  (hsw:swapsWithSole [.Name x pos'] (.ListComp elt [⟨tg,iter,ifs,0⟩] scope pos) pos2.line X.env=pure true:=by rfl)
  (h1:(assignEach [.Name x pos'] X.env).map (·.2)=[assign (.Name x pos') X.env]:=by rfl)
  (hs:∀x,foldedSetIterable iter X.env x=pure x:=by intro _;rfl):PS X (.Assign [.Name x pos'] (.ListComp elt [⟨tg,iter,ifs,0⟩] scope pos) pos2) (wC (sO mp wi g tc te) (kJ i)):=by
 intro pins s σ H Dn I h;rw[exec_Assign_arm];refine wpAny_bind (wpAny_standAt ?_);rw[hsw];refine wpAny_bind (wpAny_pure ?_);rw[if_pos rfl,h1];replace h:sO mp wi g tc te σ H (fun v H1=>Dn.nx (σ.set i (some v)) H1):=h;obtain⟨cl,hcl,hsub,hhas⟩:=vO (env:=X.env) (scope:=scope) fun y hy hf=>I.ok.has y.1 (by
  rcases S.fre y hy hf with q|q
  ·exact .inl (show X.env.scope.names.lookup y.1=_ by rw[hkX];exact q)
  exact .inr (show X.env.scope.names.lookup y.1=_ by rw[hkX];exact q))
 generalize hQ:(fun(v:V)(H1:Hp)=>Dn.nx (σ.set i (some v)) H1)=Q at h
 let QQ:Value->Shared->Prop:=fun _ s'=>∃τ H',Inv X pins τ H' s'/\Dn.nx τ H'
 refine wpAny_bind (wpAny_bind (thn (Q:=QQ) (wpAny_comprehension_free (e:=.ListComp elt [⟨tg,iter,ifs,0⟩] scope pos) (use:=some fun v=>assignAll v [assign (.Name x pos') X.env]) rfl hs hcl S.kind S.locs ?_) fun _ s' ⟨τ,H',I',q'⟩=>wpAny_pure (wpAny_pure ⟨τ,H',I',q'⟩)));refine thn (hi pins s σ H _ I h) fun v s1 h1=>thn h1 fun itv s2 h2=>?_;obtain⟨it,fp,tn,J,H2,e,I2,T,st2,f2,W,⟨m0,w0⟩,turn⟩:=h2;subst e;refine wpAny_newObj_type (wpAny_newFunctionEnv S.nocell (by intro y hy;simp at hy) (fun h3 hns hsb=>?_) S.kind);dsimp only at hns hsb |-;have hold:∀b∈fp,b<s2.heap.objs.size:=fun b hb=>by
  obtain⟨o,q,_⟩:=T.obj _ _ st2 b hb;exact lt_size q
 generalize hD:s2.heap.objs.size=D at hns hsb;generalize hH2:s2.heap.push { cls:=.type "list",dict:=none,data:=.seq ([]:List Value).toArray }=P2 at hns hsb |-;have hC:P2.objs.size=D+1:=by rw[<- hH2,size_push,hD]
 generalize hC':P2.objs.size=C at hns hsb |-;rw[hC'] at hC;have old:∀b o,s2.heap.get? b=some o->h3.get? b=some o:=fun b o q=>by
  have hb:=lt_size q;exact hsb.extBut b o (na1 hb hD hC) (get?_push_of_some _ (hH2 ▸ get?_push_of_some _ q))
 have accD:h3.get? D=some { cls:=.type "list",data:=.seq ([]:List Value).toArray }:=
  hsb.extBut _ _ (na2 hC) (get?_push_of_some _ (by rw[<- hH2,<- hD];exact get?_push_size _ rfl))
 have hfr:D∉frs X.stack:=fun z=>by
  rcases mem_cons.mp (I2.lg D z) with q|q
  ·exact na0 I2.lt hD q.symm
  exact I2.Nv (na4 hD) q
 have I0:Inv (aW X N scope cl C s2 H2 fp) [(D,{ cls:=.type "list",data:=.seq ([]:List Value).toArray })] (fY mp σ) H2 { s2 with heap:=h3,toks:=s2.toks+([]:List (Str×Value)).length }:=
  vN (s':={ s2 with heap:=h3,toks:=s2.toks+([]:List (Str×Value)).length }) hNX hkX S I2 f2 hold (na3 hD hC) hsub hhas rfl rfl ⟨_,hns⟩ old fun p hp=>by
   have ep:=mem_singleton.mp hp;subst ep;exact⟨accD,I2.hok.fresh (na4 hD),na2 hC,hfr,fun v z=>by cases z⟩
 have T0:tn 0 h3:=T.keep _ _ _ st2 fun b _ o q=>old b o q;have loop:∀z:Shared,z={ s2 with heap:=h3,toks:=s2.toks+([]:List (Str×Value)).length } ->
   codeAny (model X.prog X.w) X.A (.compLoop (.ListComp elt [⟨tg,iter,ifs,0⟩] scope pos) 0 (.ref it) (.ref D) (compEnvC scope cl C X.env))
    (compPost (model X.prog X.w) X.A X.xe (some fun v=>assignAll v [assign (.Name x pos') X.env]) QQ (.ref D) C) z:=by
  rintro z rfl;have stat:∀{H':Hp}{pl:List (Addr×Obj)},(∀b∈fp,H' b=none)->(∀p∈pl,p.1=D)->∀b∈fp,gR (aW X N scope cl C s2 H2 fp) pl H' b:=fun hn hp b hb=>by
   have hb2:=hold b hb;refine⟨hn b hb,na1 hb2 hD hC,(vM hkX S I2 f2 hold (na3 hD hC) hsub hhas).exfs b hb,.inl hb,fun x c q=>(f2 b hb).2.2.2.2.1 x c (hsub x c q),fun p hpp=>?_⟩;have hpD:=hp p (by simpa [aW] using hpp);rw[hpD];exact(na0 hb2 hD).symm
  refine uc (env:=compEnvC scope cl C X.env) (fun n z=>∃i acc τ H' its k,Inv (aW X N scope cl C s2 H2 fp) [(D,{ cls:=.type "list",data:=.seq (List.toArray its) k })] τ H' z/\tn i z.heap/\(∀b∈fp,H' b=none)/\Vals acc its/\acc.length<=sizeLine/\W i n acc τ H')
   ?_ m0 ⟨0,[],_,H2,[],0,I0,T0,fun b hb=>(f2 b hb).1,.nil,zero_le _,w0⟩
  rintro n s5 ⟨i,acc,τ,H5,its,k,I5,st5,fr5,va,hz,w5⟩;rcases turn i n acc τ H5 w5 with⟨stop,qn⟩|⟨go,hz2,N9,hN9,step⟩
  ·refine thn (T.done (aW X N scope cl C s2 H2 fp) rfl rfl rfl hc i _ s5 τ H5 _ I5 (stat fr5 (by simp)) st5 stop) fun r s6 ⟨hr,I6⟩=>?_;subst hr;obtain⟨m6,hn6,_⟩:=I6.loc;obtain⟨dD,nD,_,_,_⟩:=I6.pin (D,_) (mem_append_right _ (mem_singleton.mpr rfl));have U:=I6.base;have nC:H5 C=none:=I6.free;have ne:∀b o,s2.heap.get? b=some o->b≠C/\b≠D:=fun b o q=>by
    exact⟨na1 (lt_size q) hD hC,na0 (lt_size q) hD⟩
   have key:∀h',Heap.SameBut C s6.heap h'->Inv X pins σ (upd H5 D (.lst acc)) { s6 with heap:=h' }:=fun h' sb=>by
    have keepC:∀b o,b≠C->s6.heap.get? b=some o->h'.get? b=some o:=fun b o hb q=>(sb.2 b hb).trans q;have U':Un (frs X.stack) fp H2 (upd H5 D (.lst acc)) s2.heap h':=by
     refine⟨fun b o q n1 hb hx=>keepC b o (ne b o q).1 (U.keep b o q n1 hb hx),fun b o q n1 hb hx=>?_,fun b o q n1 hx=>?_,fun b o q hx=>?_,fun b xs q=>?_,fun b o xs q=>?_,fun b ps q=>?_⟩
     ·obtain⟨sl,z⟩:=U.slot b o q n1 hb hx;exact⟨sl,keepC b _ (ne b o q).1 z⟩
     ·rw[aG (ne b o q).2];exact U.free b o q n1 hx
     ·obtain⟨o',z⟩:=U.there b o q hx;exact⟨o',keepC b _ (ne b o q).1 z⟩
     ·have z:=U.tups b xs q;rw[aG (aD z nD)];exact z
     ·have z:=U.frzs b o xs q;rw[aG (aD z nD)];exact z
     obtain⟨more,z⟩:=U.tbls b ps q;exact⟨more,by rw[aG (aD z nD)];exact z⟩
    have hok:HOk X.prog X.w (upd H5 D (.lst acc)) h':=fun b u q=>by
     by_cases hb:b=D
     ·subst hb;rw[au] at q;cases q;exact⟨hz,its,k,va,keepC _ _ (na2 hC) dD⟩
     rw[aG hb] at q;refine(I6.hok b u q).stay (fun c v hcc z=>keepC c v ?_ z) (fun c z=>by rw[aG (aD z nD)];exact z) fun c xs z=>by rw[aG (aD z nD)];exact z
     rcases hcc with z1|z1
     ·subst z1;exact aD q nC
     exact aD z1 nC
    have I7:Inv X pins σ (upd H5 D (.lst acc)) { s6 with heap:=h' }:=I2.call' (s':={ s6 with heap:=h' }) (ch:=fp) I6.os U' hok I6.bare fun b hb=>by
     obtain⟨_,a2,_,a4,a5,a6⟩:=f2 b hb;exact⟨a4,a2,a5,a6⟩
    exact I7
   have I7:Inv X pins σ (upd H5 D (.lst acc)) s6:=key s6.heap (Heap.SameBut.refl _ _);have lC:X.env.locals≠C:=na1 I2.lt hD hC;have cC:∀y c,X.env.cells.lookup y=some c->c≠C:=fun y c z=>by
    obtain⟨_,o,h1,_⟩:=I2.cell y c z;exact na1 (lt_size h1) hD hC
   show wpAny _ _ (assign (.Name x pos') X.env (.ref D)) _ _ s6;refine wpAny_assign_Name (sV (v:=.ref D) I7 hNd hn.hN hn.hv rfl (fun s7 I8 ⟨a,sa,ha⟩=>?_) hf);have aC:a≠C:=by
    rcases ha with rfl|ha
    ·exact lC
    exact cC _ _ ha
   obtain⟨o6,es6,ep6,g1,g2,g3,g4⟩:=hn6;refine⟨m6,⟨o6,es6,ep6,(sa.2 C (Ne.symm aC)).trans g1,g2,g3,g4⟩,fun h' sb=>?_⟩;have q9:=qn D nD;rw[<- hQ] at q9;refine⟨_,_,I8.turned (it:=C) (t':=s7.toks) (fun b o hb q=>(sb.2 b hb).trans q) ?_ (Ne.symm lC) (.inr (le_trans I2.sz (na3 hD hC))) cC (fun p hp=>?_),q9⟩
   ·rw[aG (Ne.symm (na2 hC))];exact nC
   obtain⟨h1,_⟩:=I2.pin p hp;exact na1 (lt_size h1) hD hC
  refine thn (T.item (aW X N scope cl C s2 H2 fp) rfl rfl rfl hc i _ s5 τ H5 _ I5 (stat fr5 (by simp)) st5 go) fun r s6 ⟨u,hr,h6⟩=>?_;subst hr;refine thn h6 fun _ s7 ⟨x,H7,I7,r7,y7,st7,fr7⟩=>?_;have I7':=I7.pinned (stat fr7 (by simp)) (T.obj _ _ st7);have no:∀{α:Type}{t:Sem α}{Q1 Q2:α->Shared->Prop}{E:Value->Shared->Prop}{z:Shared},wpAny (model X.prog X.w) X.A t Q1 (fun _ _=>False) z->(∀a z,Q1 a z->Q2 a z)->wpAny (model X.prog X.w) X.A t Q2 E z:=
   fun q f=>wpAny_mono q f fun _ _ z=>z.elim
  refine no (hg cl C s2 H2 fp _ s7 τ H7 x u _ I7' r7 (step x H7 y7)) fun _ s8 ⟨τ1,H8,I8,q8⟩=>?_;refine no (ht cl C s2 H2 fp _ s8 τ1 H8 _ I8 q8) fun ok s9 ⟨H9,I9,q9⟩=>?_;have again:∀{H':Hp}{z:Shared}{its':List Value}{k':Nat},Inv (aW X N scope cl C s2 H2 fp) ([(D,{ cls:=.type "list",data:=.seq (List.toArray its') k' })]++fG fp s7.heap) τ1 H' z ->
    tn (i+1) z.heap/\(∀b∈fp,H' b=none)/\Inv (aW X N scope cl C s2 H2 fp) [(D,{ cls:=.type "list",data:=.seq (List.toArray its') k' })] τ1 H' z:=fun {H' z its' k'} Iz=>by
   have get:∀b∈fp,∀o,s7.heap.get? b=some o->z.heap.get? b=some o/\H' b=none:=fun b hb o q=>by
    obtain⟨a1,a2,_⟩:=Iz.pin (b,o) (mem_append_right _ (mem_append_right _ (gH hb q)));exact⟨a1,a2⟩
   refine⟨T.keep _ _ _ st7 fun b hb o q=>(get b hb o q).1,fun b hb=>?_,Iz.iC⟩;obtain⟨o,q,_⟩:=T.obj _ _ st7 b hb;exact(get b hb o q).2
  cases ok with
  | false=>
   rw[if_neg Bool.false_ne_true] at q9 |-;obtain⟨m',hm,w9⟩:=hN9 _ _ _ q9;obtain⟨a1,a2,a3⟩:=again I9;exact⟨m',hm,i+1,acc,τ1,H9,its,k,a3,a1,a2,va,hz,w9⟩
  | true=>
   rw[if_pos rfl] at q9 |-;refine no (he cl C s2 H2 fp _ s9 τ1 H9 _ I9 q9) fun y s10 ⟨v,H10,I10,rv,q10⟩=>?_;obtain⟨m',hm,w10⟩:=hN9 _ _ _ q10;obtain⟨a1,a2,a3⟩:=again I10;obtain⟨dD,nD,_,_,_⟩:=a3.pin (D,_) (mem_append_right _ (mem_singleton.mpr rfl));have hlen:=va.length;refine call_meets F.slot_list_append ⟨_,dD,rfl⟩ F.entry_list_append (F.args_list_append_2 _ _) (PySem.list_append D its.toArray k y (by rw[size_toArray];omega)) ⟨dD,?_⟩;obtain⟨k',q⟩:∃k',(s10.heap.update D (Obj.mapSeq fun a=>a.push y)).get? D=some { cls:=.type "list",data:=.seq (its++[y]).toArray k' }:=by
    have q:=PySem.IsL.update dD (fun a=>a.push y);rw[show its.toArray.push y=(its++[y]).toArray by simp] at q;exact⟨_,q⟩
   have a4:Inv (aW X N scope cl C s2 H2 fp) (fG fp s7.heap) τ1 H10 s10:=I10.gW fun p hp=>I10.pin p (mem_append_right _ (mem_append_right _ hp));have a5:Inv (aW X N scope cl C s2 H2 fp) (fG fp s7.heap) τ1 H10 { s10 with heap:=s10.heap.update D (Obj.mapSeq fun a=>a.push y),toks:=s10.toks }:=
    a4.turned (it:=D) (fun b o hb z=>(get?_update_other _ _ (Ne.symm hb)).trans z) nD (na2 hC) (.inr (na4 hD))
     (fun x c z=>by
      obtain⟨_,o,h1,_⟩:=I2.cell x c (hsub x c z);exact na0 (lt_size h1) hD) fun p hp=>by
      have hb:=(jO (by simpa [aW] using hp)).1;exact na0 (hold _ hb) hD
   obtain⟨b1,b2,b3⟩:=(show tn (i+1) (s10.heap.update D (Obj.mapSeq fun a=>a.push y))/\(∀b∈fp,H10 b=none)/\True from
    ⟨T.keep _ _ _ a1 fun b hb o z=>(get?_update_other _ _ (na0 (hold b hb) hD).symm).trans z,a2,trivial⟩)
   refine⟨m',hm,i+1,acc++[v],τ1,H10,its++[y],k',a5.gW fun p hp=>?_,b1,b2,va.append (.cons rv .nil),by rw[length_append,length_singleton];omega,w10⟩;have ep:=mem_singleton.mp hp;subst ep;exact⟨q,nD,na2 hC,hfr,fun v z=>by cases z⟩
 have e1:{ newEnv scope C X.env.globals cl X.env.qual none .none (some X.env) X.env.builtins with scope:=relabel scope X.env }=compEnvC scope cl C X.env:=rfl;exact codeAny_compStart_list (loop _ rfl) (T.self _ 0 _ _ _ T0 (loop _ rfl))
theorem Ly {tg iter elt:Expr}{ifs:List Expr}{pos pos' pos2:Pos}{wi:TI}{g:TG}{tc:TT}{te:TE}{i:Nat}{x:Str}(N:List Str)(mp:List (Option Nat))(hn:Nm X.N X.env.scope i x)(hNd:X.N.Nodup)(hNX:X.N=NX)(hkX:X.env.scope.names=kX)(S:oF NX kX N mp scope)(hc:X.calm=true)
  (hi:QI X tg iter wi) (hg:∀cl C s H fp,QG (aW X N scope cl C s H fp) tg g) (ht:∀cl C s H fp,QC (aW X N scope cl C s H fp) ifs tc) (he:∀cl C s H fp,QE (aW X N scope cl C s H fp) elt te)
  (hf:X.fn x=true\/X.env.scope.names.lookup x=some .local:=by exact .inl rfl)
  (hsw:swapsWithSole [.Name x pos'] (.ListComp elt [⟨tg,iter,ifs,0⟩] scope pos) pos2.line X.env=pure true:=by rfl)
  (h1:(assignEach [.Name x pos'] X.env).map (·.2)=[assign (.Name x pos') X.env]:=by rfl)
  (hs:∀x,foldedSetIterable iter X.env x=pure x:=by intro _;rfl):QS X (.Assign [.Name x pos'] (.ListComp elt [⟨tg,iter,ifs,0⟩] scope pos) pos2) (wC (sO mp wi g tc te) (kJ i)):=
 ⟨Mq N mp hn hNd hNX hkX S hc hi.h (fun cl C s H fp=>(hg cl C s H fp).h) (fun cl C s H fp=>(ht cl C s H fp).h) (fun cl C s H fp=>(he cl C s H fp).h) hf hsw h1 hs⟩
end
section
variable {mp:List (Option Nat)}{g:TG}{te:TE}{σ:St}{H:Hp}{Q:VK}{R:It->Hp->Prop}{K:PySem.W.Frag}{a:Addr}{xs:List V}{ds:List PyData}{ok:Addr->Prop}
theorem take_snoc {α:Type}{l:List α}{i:Nat}{x:α}(h:l[i]?=some x):l.take (i+1)=l.take i++[x]:=by
 rw[take_add_one,h];rfl
end
theorem qO {p c:Addr}{H Hk:Hp}{B:Int}(s:aV p H Hk)(t:bU Hk p B)(h:Hk c=none):c≠p/\H c=none:=by
 have n:=t.ne h;refine⟨n,?_⟩;cases e:H c with
 | none=>rfl
 | some o=>rw[s _ _ n e] at h;cases h
theorem DP {p c:Addr}{H H':Hp}{o:HO}(s:aV p H H')(h:H c=none):aV p H (upd H' c o):=fun b u n e=>by
 rw[aG (aD e h)];exact s b u n e
theorem bU.upd {H:Hp}{p c:Addr}{B:Int}{o:HO}(t:bU H p B)(n:c≠p):bU (upd H c o) p B:=by
 obtain⟨a,b,c',e,r⟩:=t;exact⟨a,b,c',by rw[aG (Ne.symm n)];exact e,r⟩
structure Bd (n k:Nat)(d:PyData):Prop where
 sm:smD d=true
 nd:nodes d<=n
 dp:d.depth<=k
theorem Bd.mono {n k n' k':Nat}{d:PyData}(b:Bd n k d)(h1:n<=n')(h2:k<=k'):Bd n' k' d:=⟨b.sm,le_trans b.nd h1,le_trans b.dp h2⟩
theorem Bd.tell {n k:Nat}{d:PyData}(b:Bd n k d)(h1:n<=200000)(h2:k<=100):Kr d:=⟨b.sm,le_trans b.nd h1,le_trans b.dp h2⟩
theorem Bj {n k:Nat}:∀{ds:List PyData},(∀d∈ds,Bd n k d)->lW ds=true/\dX ds<=ds.length*n/\PyData.depthAll ds<=k
 | [],_=>⟨rfl,zero_le _,zero_le _⟩
 | d::ds,h=>by
  have h1:=h d mem_cons_self;obtain⟨a,b,c⟩:=Bj fun x hx=>h x (mem_cons_of_mem _ hx);have:=h1.nd;have:=h1.dp;refine⟨by rw[lW,h1.sm,a];rfl,?_,?_⟩
  ·rw[dX,length_cons,Nat.succ_mul];omega
  rw[PyData.depthAll.eq_2];omega
theorem vX {n k m:Nat}{ds:List PyData}(h:∀d∈ds,Bd n k d)(hl:ds.length<=m):Bd (1+m*n) (k+1) (.list ds):=by
 obtain⟨a,b,c⟩:=Bj h;have:=Nat.mul_le_mul_right n hl;refine⟨a,?_,?_⟩
 ·show 1+dX ds<=_;omega
 rw[PyData.depth.eq_1];omega
theorem yM {n k m:Nat}{ds:List PyData}(h:∀d∈ds,Bd n k d)(hl:ds.length<=m):Bd (1+m*n) (k+1) (.tuple ds):=by
 obtain⟨a,b,c⟩:=Bj h;have:=Nat.mul_le_mul_right n hl;refine⟨a,?_,?_⟩
 ·show 1+dX ds<=_;omega
 rw[PyData.depth.eq_2];omega
theorem qW {i:Int}(h:i.natAbs<2^55):Bd 1 0 (.int i):=⟨by show decide _=true;exact decide_eq_true (.inr (.inr h)),le_refl _,le_refl _⟩
theorem dN.O5 {k:Nat}{A:Around}(r:dN k A):A.units+200<cLine:=by have:=r.un;omega
theorem T4 {n k:Nat}:∀d∈([]:List PyData),Bd n k d:=fun d h=>by cases h
theorem vY {n k:Nat}{x:PyData}{xs:List PyData}(h:Bd n k x)(h2:∀d∈xs,Bd n k d):∀d∈x::xs,Bd n k d:=fun d hd=>by
 rcases mem_cons.mp hd with rfl|z
 ·exact h
 exact h2 d z
theorem G9 {α:Type}(k:Nat)(x:α):(List.replicate k [x]).flatten=List.replicate k x:=by
 induction k with
 | zero=>rfl
 | succ k ih=>rw[replicate_succ,flatten_cons,ih];rfl
theorem Ob {n:Nat}{i:Int}(h0:0<=i)(h:i<n):ixN n i=some i.toNat:=by
 unfold ixN;rw[if_pos h0,if_pos h]
theorem Fd (t:Addr) (items:Array Value):Meets (Builtin.«enumerate.__new__» { pos:=[Value.type "enumerate",Value.ref t] }) fun _ R s=>
  s.heap.IsTuple t items/\R (.ok (.ret (.ref (s.heap.objs.size+1)))) { s with heap:=(s.heap.push { cls:=.type "tuple_iterator",data:=.fields #[.ref t,.int 0 0] }).push { cls:=.type "enumerate",data:=.fields #[.none,.bool false,.ref s.heap.objs.size,rawInt 0,.none,.none] } }:=by
 refine Meets.of_wp fun prog w A R s h=>?_;obtain⟨ht,hR⟩:=h;unfold Builtin.«enumerate.__new__» Builtin.SmallTypes.newClass;refine wpAny_bind (wpAny_bind (wpAny_pure (wpAny_ite_false rfl (wpAny_bind (wpAny_of_eq sub_enumerate (wpAny_ite_false rfl (wpAny_pure (wpAny_ite_true rfl (wpAny_bind ?_)))))))));unfold Builtin.SmallTypes.calledThroughType;refine wpAny_bind (wpAny_stack_any fun st=>wpAny_pure ?_);have fin:wpAny (model prog w) A.in1 (do
   let it <- pyIter (Value.ref t)
   let r <- Builtin.SmallTypes.newRecord (Value.type "enumerate") (Builtin.SmallTypes.ownedTupleFields++[it,rawInt 0,Value.none,Value.none])
   ret r) (fun fin s'=>∃v,fin=Fin.done (Flow.ret v)/\R (Except.ok (Flow.ret v)) s') (fun e s'=>R (Except.error e) s') s:=by
  refine wpAny_bind (wpAny_pyIter_tuple ht ?_);show wpAny _ _ (newObj (.type "enumerate") (.fields #[.none,.bool false,.ref s.heap.objs.size,rawInt 0,.none,.none]) >>= fun r=>ret r) _ _ _;refine wpAny_bind (wpAny_newObj_type ?_);refine wpAny_pure ⟨_,rfl,?_⟩;have e:(s.heap.push { cls:=Value.type "tuple_iterator",data:=Data.fields #[Value.ref t,Value.int 0 0] }).objs.size=s.heap.objs.size+1:=size_push ..;rw[e];exact hR
 dsimp only;split
 ·split
  ·exact wpAny_bind (wpAny_pure fin)
  exact wpAny_bind (wpAny_pure fin)
 split
 ·exact wpAny_bind (wpAny_pure fin)
 exact wpAny_bind (wpAny_pure fin)
theorem cJ {prog:Program}{w:World}{A:Around}{E:Value->Shared->Prop}{s:Shared}{it t:Addr}{i:Nat}{items:Array Value}{x:Value}{Q:Value->Shared->Prop}(hit:s.heap.IsTupleIter it t i)(ht:s.heap.IsTuple t items)(hx:items[i]?=some x)
  (hQ:∀h',h'.IsTupleIter it t (i+1)->Heap.SameBut it s.heap h'->Q x { s with heap:=h' }):wpAny (model prog w) A (Builtin.SmallTypes.nextOf (Value.ref it)) Q E s:=by
 obtain⟨o,ho,hc,hd⟩:=id hit;obtain⟨ol,hol,hcl,nl,hdl⟩:=ht;unfold Builtin.SmallTypes.nextOf;refine wpAny_bind (wpAny_callSpecial?_slot hit.typeIs F.slot_tuple_iterator_next (wpAny_call_entry F.slot_tuple_iterator_next hit.typeIs F.entry_tuple_iterator_next ?_ (F.args_tuple_iterator_next_1 _)));refine wpAny_bind (wpAny_pure (wpAny_bind (wpAny_field ho hd (i:=0) rfl ?_)));refine wpAny_ite_false rfl (wpAny_bind (wpAny_field ho hd (i:=1) rfl ?_));refine wpAny_bind (wpAny_seqItems hol hdl ?_);show wpAny _ _ (match items[(i:Int).toNat]? with
  | some x=>(do setField (.ref it) 1 (rawInt ((i:Int)+1));ret x)
  | none=>_) _ _ _
 rw[toNat_natCast,hx];refine wpAny_bind (wpAny_setField ho hd (lt_succ_self 1) (wpAny_pure ⟨x,rfl,wpAny_pure (hQ _ ?_ ?_)⟩))
 ·refine⟨_,get?_update_self _ ho (Obj.isFreed_of_fields (Obj.data_mapFields hd _)),(Obj.cls_mapFields o _).trans hc,?_⟩;rw[Obj.data_mapFields hd];rfl
 exact Heap.SameBut.update s.heap it _
theorem dM {prog:Program}{w:World}{A:Around}{E:Value->Shared->Prop}{s:Shared}{it t:Addr}{i:Nat}{items:Array Value}{Q:Value->Shared->Prop}(hh:A.handled=none)(hit:s.heap.IsTupleIter it t i)(ht:s.heap.IsTuple t items)(hx:items[i]?=none)
  (hE:∀h' e,Heap.ExtBut it s.heap h'->(∃o,h'.get? e=some o/\o.cls=Value.type "StopIteration")->E (.ref e) { s with heap:=h' }):wpAny (model prog w) A (Builtin.SmallTypes.nextOf (Value.ref it)) Q E s:=by
 obtain⟨o,ho,hc,hd⟩:=id hit;obtain⟨ol,hol,hcl,nl,hdl⟩:=ht;unfold Builtin.SmallTypes.nextOf;refine wpAny_bind (wpAny_callSpecial?_slot hit.typeIs F.slot_tuple_iterator_next (wpAny_call_entry F.slot_tuple_iterator_next hit.typeIs F.entry_tuple_iterator_next ?_ (F.args_tuple_iterator_next_1 _)));refine wpAny_bind (wpAny_pure (wpAny_bind (wpAny_field ho hd (i:=0) rfl ?_)));refine wpAny_ite_false rfl (wpAny_bind (wpAny_field ho hd (i:=1) rfl ?_));refine wpAny_bind (wpAny_seqItems hol hdl ?_);show wpAny _ _ (match items[(i:Int).toNat]? with
  | some x=>_
  | none=>(do rule (toString "tuple_iterator.__next__" ++ toString ".end");setField (.ref it) 0 .none;Builtin.SmallTypes.stopIteration)) _ _ _
 rw[toNat_natCast,hx];refine wpAny_bind (wpAny_rule (wpAny_bind (wpAny_setField ho hd (zero_lt_succ 1) ?_)));unfold Builtin.SmallTypes.stopIteration newExc;refine wpAny_bind (wpAny_bind (wpAny_newObj_type ?_));refine wpAny_bind (wpAny_of_eq (a:=.none) rfl ?_);refine wpAny_newObj_type ?_;refine wpAny_raiseNew_none hh (hE _ _ ?_ ?_)
 ·exact fun b ob hb e=>get?_push_of_some _ (get?_push_of_some _ ((get?_update_other _ _ (Ne.symm hb)).trans e))
 exact⟨_,get?_push_size _ rfl,rfl⟩
theorem oh {prog:Program}{w:World}{A:Around}(hh:A.handled=none)(it t:Addr)(hne:t≠it)(items:Array Value):Draws prog w A it [it,t] items.size (fun i v=>items[i]?=some v) fun i h=>h.IsTupleIter it t i/\h.IsTuple t items where
 live:=fun _ _ st=>by
  obtain⟨⟨o,ho,_⟩,_⟩:=st;exact⟨o,ho⟩
 frame:=fun _ _ _ st hk=>by
  obtain⟨h1,⟨o,e,r⟩⟩:=st;exact⟨h1.at fun o e=>hk it (by simp) o e,o,hk t (by simp) o e,r⟩
 item:=fun i s Q E hi st hQ=>by
  have e:items[i]?=some items[i]:=by simp [hi]
  refine cJ st.1 st.2 e fun h' h1 sb=>hQ _ _ s.toks e ⟨h1,?_⟩ sb;obtain⟨o,g,r⟩:=st.2;exact⟨o,(sb.2 t hne).trans g,r⟩
 done:=fun s Q E st hE=>dM hh st.1 st.2 (by simp) hE
noncomputable def Iet (K:PySem.W.Frag)(a:Addr):It:=
 ⟨fun i H=>∃xs x,SqT K H a xs/\xs[i]?=some x,
  fun i H v H'=>∃p x,v=.ref p/\H p=none/\H'=upd H p (.tup [.int (i:Nat),x])/\∀xs,SqT K H a xs->xs[i]?=some x,
  fun i H=>∃xs,SqT K H a xs/\xs.length=i⟩
theorem yV {P:Program}{w:World}{K:PySem.W.Frag}{es:List Expr}{kk:Nat}{tpos:Pos}{e it l:Addr}(hne:e≠it) :
  Turn P w K (.Tuple es kk tpos) (Iet K l) [e,it] e (fun i h=>(∃old,IsEnum h e it ((i:Nat):Int) old)/\h.IsTupleIter it l i) where
 mem:=by simp
 obj:=fun i h st b hb=>by
  obtain⟨⟨old,he⟩,⟨o1,e1,c1,d1⟩⟩:=st;simp only[mem_cons,not_mem_nil,or_false] at hb;rcases hb with rfl|rfl
  ·exact⟨_,he,fun v q=>by cases q⟩
  exact⟨o1,e1,fun v q=>by rw[d1] at q;cases q⟩
 keep:=fun i h h' st k=>by
  obtain⟨⟨old,he⟩,h1⟩:=st;exact⟨⟨old,k e (by simp) _ he⟩,h1.at fun o q=>k it (by simp) o q⟩
 item:=by
  intro X hP hw hK hc i pins s σ H E I hf st hg;subst hP hw hK;obtain⟨xs,x,q1,hx⟩:=hg;obtain⟨its1,rv1,p1,hz1⟩:=I.tuple q1;obtain⟨u1,hu1,ru1⟩:=rv1.get hx;obtain⟨⟨old,he⟩,h1⟩:=st;have hel:e≠l:=fun z=>by
   obtain⟨ol,g1,g2,_⟩:=p1;rw[<- z,he] at g1;cases g1;injection g2 with g2;exact absurd g2 δ
  have hil:l≠it:=fun z=>by
   obtain⟨ol,g1,g2,_⟩:=p1;obtain⟨oi,g3,g4,_⟩:=h1;rw[z,g3] at g1;cases g1;rw[g4] at g2;injection g2 with g2;exact absurd g2 δ
  have hsz1:i<its1.toArray.size:=by
   obtain⟨z,_⟩:=List.getElem?_eq_some_iff.mp hu1;simpa using z
  refine wpAny_pyNext_enum_itemD (oh (A:=X.A.in1) (I.ok.hd hc) it l hil its1.toArray) he ⟨h1,p1⟩ hsz1 hne (by simp [hne,hel]) fun x1 h' tk hP a1 a2 a3 a4 hk=>?_;have ex:x1=u1:=by
   have hP':its1[i]?=some x1:=by simpa using hP
   rw[hu1] at hP';exact(Option.some.inj hP').symm
  subst ex;obtain⟨a2,_⟩:=a2;have new:bI X.prog X.w (upd H s.heap.objs.size (.tup [.int (i:Nat),x])) h' s.heap.objs.size (.tup [.int (i:Nat),x]):=⟨by show 2<=sizeLine;decide,[.int (i:Nat) tk,x1],.cons ⟨_,rfl⟩ (.cons ru1 .nil),_,a3,rfl,_,rfl⟩;have I1:Inv X pins σ (upd H s.heap.objs.size (.tup [.int (i:Nat),x])) { s with heap:=h',toks:=tk+1 }:=I.Bq (ch:=[e,it]) hf
   (fun b o hb q=>hk b o (fun z=>hb (by simp [z])) (fun z=>hb (by simp [z])) q) (le_refl _) new
  have hsz:∀b,b∈[e,it]->b≠s.heap.objs.size:=fun b hb=>by
   have lt:∃o,s.heap.get? b=some o:=by
    simp only[mem_cons,not_mem_nil,or_false] at hb;rcases hb with rfl|rfl
    ·exact⟨_,he⟩
    obtain⟨o,q,_⟩:=h1;exact⟨o,q⟩
   obtain⟨o,q⟩:=lt;exact ne_of_lt (lt_size q)
  refine⟨_,rfl,wpAny_letOwnedTupleGo_enum (s:={ s with heap:=h',toks:=tk+1 }) a1 fun h'' z2 sb=>?_⟩;have fz:=hf e (by simp);have I2:Inv X pins σ (upd H s.heap.objs.size (.tup [.int (i:Nat),x])) { s with heap:=h'',toks:=tk+1 }:=Inv.turned (s:={ s with heap:=h',toks:=tk+1 }) (it:=e) I1 (fun b o hb q=>(sb.2 b hb).trans q) (by rw[aG (hsz e (by simp))];exact fz.1) fz.2.1 fz.2.2.2.1 fz.2.2.2.2.1 fz.2.2.2.2.2;refine⟨.ref s.heap.objs.size,_,I2,rfl,⟨_,x,rfl,I.fresh,rfl,fun xs' q=>by rw[I.jH q q1];exact hx⟩,
   ⟨⟨_,by simpa using z2⟩,a2.extBut sb.extBut hne.symm⟩,fun b hb=>by rw[aG (hsz b hb)];exact(hf b hb).1⟩
 done:=by
  intro X hP hw hK hc i pins s σ H E I hf st hg;subst hP hw hK;obtain⟨xs,q1,hx⟩:=hg;obtain⟨its1,rv1,p1,hz1⟩:=I.tuple q1;obtain⟨⟨old,he⟩,h1⟩:=st;have hil:l≠it:=fun z=>by
   obtain⟨ol,g1,g2,_⟩:=p1;obtain⟨oi,g3,g4,_⟩:=h1;rw[z,g3] at g1;cases g1;rw[g4] at g2;injection g2 with g2;exact absurd g2 δ
  have hl1:=rv1.length;have hsi:its1.toArray.size=i:=by rw[size_toArray];omega
  refine wpAny_pyNext_enum_endD (oh (A:=X.A.in1) (I.ok.hd hc) it l hil its1.toArray) he (by rw[hsi];exact⟨h1,p1⟩) fun h' hk=>⟨rfl,?_⟩;exact I.lV (t':=s.toks) (ch:=[e,it]) hf (fun b o hb q=>hk b o (fun z=>hb (by simp [z])) q)
 self:=fun _ _ _ _ _ st h=>by
  obtain⟨⟨old,he⟩,_⟩:=st;exact wpAny_pyIter_enum he h
noncomputable def ieq (K:PySem.W.Frag)(ob:Option HO)(a:Addr)(H:Hp)(R:It->Hp->Prop):Prop:=match ob with
 | some (.lst _)=>R (Ite K a) H
 | some (.tup _)=>R (Iet K a) H
 | _=>False
noncomputable def ieK (K:PySem.W.Frag)(vs:List V)(H:Hp)(R:It->Hp->Prop):Prop:=match vs with
 | [.ref a]=>ieq K (H a) a H R
 | _=>False
noncomputable def Af (K:PySem.W.Frag)(ta:TA):TI:=fun σ H R=>ta σ H fun vs H1=>ieK K vs H1 R
theorem tX (K:PySem.W.Frag)(ta:TA)(σ:St)(H:Hp)(R:It->Hp->Prop):Af K ta σ H R=ta σ H fun vs H1=>ieK K vs H1 R:=rfl
theorem CT (K:PySem.W.Frag)(a:Addr)(H:Hp)(R:It->Hp->Prop):ieK K [.ref a] H R=ieq K (H a) a H R:=rfl
theorem CQ (K:PySem.W.Frag)(xs:List V)(a:Addr)(H:Hp)(R:It->Hp->Prop):ieq K (some (.lst xs)) a H R=R (Ite K a) H:=rfl
section
variable {X:Cx}
theorem Im {es:List Expr}{kk:Nat}{tpos:Pos}{a:Expr}{ta:TA}{p pos:Pos}(hg:Gl X "enumerate") (hm:X.mg "enumerate" = none) (ha:PA X [a] ta) (hs:starEach [a] X.env=[(false,eval a X.env)]:=by rfl) :
  PI X (.Tuple es kk tpos) (.Call (.Name "enumerate" p) [a] [] pos) (Af X.K ta):=by
 intro pins s σ H R I h;refine Call_ (eU I hg hm PyProof.Rows.Boot.«enumerate» (PyProof.Rows.callWith_type1 (thA (ha pos pins s σ H _ I h) fun us s1 vs H1 I1 r1 q1=>?_) hs rfl));replace q1:ieK X.K vs H1 R:=q1;unfold ieK at q1;split at q1
 ·rename_i l1;cases r1 with
  | cons r rr=>
   cases rr;cases r;unfold ieq at q1;split at q1
   ·rename_i xs e;obtain⟨its1,rv1,p1,hz1⟩:=I1.list (SqL.of e);refine call_enumerate_list p1.isList fun h' b1 b2 b3 hk=>?_;refine wpAny_pyIter_enum (s:={ s1 with heap:=h' }) b1 ?_;have I2:Inv X pins σ H1 { s1 with heap:=h' }:=I1.kept (t':=s1.toks) hk;refine⟨_,_,_,_,H1,rfl,I2,Dw (ne_of_gt (lt_succ_self _)),⟨⟨_,b1⟩,b2⟩,fun b hb=>?_,q1⟩;have hle:s1.heap.objs.size<=b:=by
     simp only[mem_cons,not_mem_nil,or_false] at hb;rcases hb with rfl|rfl <;> simp
    exact I1.rY hle (I1.hok.fresh hle)
   ·rename_i xs e;obtain⟨its1,rv1,p1,hz1⟩:=I1.tuple (SqT.of e);refine callType_new F.called_enumerate δ (F.typeCall_enumerate_1 _) (F.newCall_enumerate_1 _) (fun obj=>F.args_object_init_2 obj _) F.entry_enumerate_new (Fd l1 its1.toArray) ⟨p1,?_⟩;have hz:(s1.heap.push { cls:=Value.type "tuple_iterator",data:=Data.fields #[Value.ref l1,Value.int 0 0] }).objs.size=s1.heap.objs.size+1:=size_push ..;have b1:((s1.heap.push { cls:=Value.type "tuple_iterator",data:=Data.fields #[Value.ref l1,Value.int 0 0] }).push { cls:=Value.type "enumerate",data:=Data.fields #[Value.none,Value.bool false,Value.ref s1.heap.objs.size,rawInt 0,Value.none,Value.none] }).get? (s1.heap.objs.size+1)=some { cls:=Value.type "enumerate",data:=Data.fields #[Value.none,Value.bool false,Value.ref s1.heap.objs.size,rawInt 0,Value.none,Value.none] }:=by
     rw[<- hz];exact get?_push_size _ rfl
    have b2:((s1.heap.push { cls:=Value.type "tuple_iterator",data:=Data.fields #[Value.ref l1,Value.int 0 0] }).push { cls:=Value.type "enumerate",data:=Data.fields #[Value.none,Value.bool false,Value.ref s1.heap.objs.size,rawInt 0,Value.none,Value.none] }).IsTupleIter s1.heap.objs.size l1 0:=
     ⟨_,get?_push_of_some _ (get?_push_size _ rfl),rfl,rfl⟩
    have hk:∀b o,s1.heap.get? b=some o->((s1.heap.push { cls:=Value.type "tuple_iterator",data:=Data.fields #[Value.ref l1,Value.int 0 0] }).push { cls:=Value.type "enumerate",data:=Data.fields #[Value.none,Value.bool false,Value.ref s1.heap.objs.size,rawInt 0,Value.none,Value.none] }).get? b=some o:=fun b o z=>get?_push_of_some _ (get?_push_of_some _ z);refine⟨⟨_,b1,rfl⟩,?_⟩;generalize (s1.heap.push { cls:=Value.type "tuple_iterator",data:=Data.fields #[Value.ref l1,Value.int 0 0] }).push { cls:=Value.type "enumerate",data:=Data.fields #[Value.none,Value.bool false,Value.ref s1.heap.objs.size,rawInt 0,Value.none,Value.none] }=h' at b1 b2 hk;refine wpAny_pyIter_enum (s:={ s1 with heap:=h' }) b1 ?_;have I2:Inv X pins σ H1 { s1 with heap:=h' }:=I1.kept (t':=s1.toks) hk;refine⟨_,_,_,_,H1,rfl,I2,yV (ne_of_gt (lt_succ_self _)),⟨⟨_,b1⟩,b2⟩,fun b hb=>?_,q1⟩;have hle:s1.heap.objs.size<=b:=by
     simp only[mem_cons,not_mem_nil,or_false] at hb;rcases hb with rfl|rfl <;> simp
    exact I1.rY hle (I1.hok.fresh hle)
   exact q1.elim
 exact q1.elim
theorem wZ {es:List Expr}{kk:Nat}{tpos:Pos}{a:Expr}{ta:TA}{p pos:Pos}(hg:Gl X "enumerate") (hm:X.mg "enumerate" = none) (ha:QA X [a] ta) (hs:starEach [a] X.env=[(false,eval a X.env)]:=by rfl) :
  QI X (.Tuple es kk tpos) (.Call (.Name "enumerate" p) [a] [] pos) (Af X.K ta):=⟨Im hg hm ha.h hs⟩
end
theorem Ti {J:It}{g:TG}{tb:TS}{D:Ends}{σ:St}{H:Hp}{R:It->Hp->Prop}(hR:R=(fun J H1=>∃W:Nat->Nat->St->Hp->Prop,(∃m,W 0 m σ H1)/\∀i m σ H,W i m σ H ->
  (J.stop i H/\D.nx σ H)\/(J.go i H/\∃N:St->Hp->Prop,(∀σ' H',N σ' H'->∃m',m'<m/\W (i+1) m' σ' H')/\∀x H',J.yld i H x H'->g x σ H' fun σ2 H2=>tb { D with nx:=N,ct:=N,bk:=D.nx } σ2 H2)))
  (n:Nat) (Pv:Nat->St->Hp->Prop) (h0:Pv 0 σ H) (hgo:∀i σ H,i<n->Pv i σ H->J.go i H) (hst:∀σ H,Pv n σ H->J.stop n H)
  (hs:∀i σ H x H3,i<n->Pv i σ H->J.yld i H x H3->g x σ H3 fun σ2 H2=>tb { D with nx:=Pv (i+1),ct:=Pv (i+1),bk:=D.nx } σ2 H2) (hd:∀σ H,Pv n σ H->D.nx σ H):R J H:=by
 subst hR;refine⟨fun i m σ H2=>m=n-i/\i<=n/\Pv i σ H2,⟨_,rfl,zero_le _,h0⟩,?_⟩;rintro i m σ H2 ⟨rfl,hi,p⟩;by_cases hlt:i<n
 ·exact .inr ⟨hgo i σ H2 hlt p,Pv (i+1),fun σ' H' q=>⟨_,ω,rfl,hlt,q⟩,fun x H3 y=>hs i σ H2 x H3 hlt p y⟩
 have e:i=n:=ω;subst e;exact .inl ⟨hst σ H2 p,hd σ H2 p⟩
section
variable {X:Cx}{e o:Expr}{te to:TE}{pos:Pos}
theorem xq:∀(l:List Value),(List.range l.length).filterMap (fun k=>l[k]?)=l
 | []=>rfl
 | x::l=>by
  rw[length_cons,List.range_succ_eq_map,filterMap_cons];show x::((List.range l.length).map Nat.succ).filterMap _=_;rw[filterMap_map];congr 1;exact xq l
theorem yu {α β:Type}{f g:α->Option β}:∀{l:List α},(∀x∈l,f x=g x)->l.filterMap f=l.filterMap g
 | [],_=>rfl
 | x::l,h=>by
  rw[filterMap_cons,filterMap_cons,h x mem_cons_self,yu fun y hy=>h y (mem_cons_of_mem _ hy)]
theorem rC (its:List Value):slicePick its.toArray none none (some (-1))=its.reverse.toArray:=by
 unfold slicePick sliceBounds sliceRange;simp only[Option.getD_some,size_toArray,show ¬((-1:Int)>0) by decide,if_false];congr 1;have key:(if ((its.length:Int)-1) > -1 then ((its.length:Int)-1 - -1 - -1-1)/(- -1) else 0).toNat=its.length:=by
  rw[show(- -1:Int)=1 from rfl,Int.ediv_one];split <;> omega
 rw[key,filterMap_map];rw[<- xq its.reverse,length_reverse];refine yu fun k hk=>?_;have hk':=mem_range.mp hk;show its.toArray[((its.length:Int)-1 + -1*(k:Int)).toNat]?=its.reverse[k]?;rw[getElem?_reverse hk',show((its.length:Int)-1 + -1*(k:Int)).toNat=its.length-1-k by omega];simp
noncomputable def rvq (ob:Option HO)(H:Hp)(Q:VK):Prop:=match ob with
 | some (.lst xs)=>∀p,H p=none->Q (.ref p) (upd H p (.lst xs.reverse))
 | _=>False
noncomputable def rvK (x:V)(H:Hp)(Q:VK):Prop:=match x with
 | .ref p=>rvq (H p) H Q
 | _=>False
noncomputable def Qe (te:TE):TE:=fun σ H Q=>te σ H fun x H1=>rvK x H1 Q
theorem Bt (te:TE)(σ:St)(H:Hp)(Q:VK):Qe te σ H Q=te σ H fun x H1=>rvK x H1 Q:=rfl
theorem BX (p:Addr)(H:Hp)(Q:VK):rvK (.ref p) H Q=rvq (H p) H Q:=rfl
theorem BW (xs:List V)(H:Hp)(Q:VK):rvq (some (.lst xs)) H Q=∀p,H p=none->Q (.ref p) (upd H p (.lst xs.reverse)):=rfl
theorem Rv {p2 p3 p4:Pos}{j}(he:PE X e te)(hlt:∀o r,letTemporaryGo e o r=pure ():=by intro _ _;rfl):PE X (.Subscript e (.Slice none none (some (.UnaryOp .USub (.Constant (.int 1) j p3) p4)) p2) pos) (Qe te):=by
 intro pins s σ H Q I h;refine wpAny_Subscript_Slice_step (T := "list") slot_list_getitem.lookup (thE (he pins s σ H _ I h) fun v s1 x H1 I1 r1 q1=>?_) hlt;replace q1:rvK x H1 Q:=q1;unfold rvK at q1;split at q1
 ·rename_i p;unfold rvq at q1;split at q1
  ·rename_i xs e1;cases r1;refine wpAny_Slice ?_;rw[evalPart_none];refine wpAny_pure ?_;refine wpAny_pure ?_;refine thn (vf (Iu uz zB) pins s1 σ H1 (fun o H'=>o=some (-1)/\H'=H1) I1 ⟨_,rfl,_,rfl,rfl,rfl⟩) fun vs s3 ⟨o3,H3,I3,pu,e3,e4⟩=>?_;subst e3;subst e4;have I4:Inv X pins σ H3 { s3 with heap:=s3.heap.push { cls:=.type "slice",data:=.fields #[.none,.none,vs] } }:=I3.kept (t':=s3.toks) fun b ob q=>get?_push_of_some _ q;obtain⟨its,r,ht,hz⟩:=I4.list (SqL.of e1);have hlen:=r.length;refine⟨ht.isList.typeIs,?_⟩;refine wpAny_getItem_list_slice ht.isList (Heap.IsSliceOf.new ..) .none .none pu δ ?_ (by rw[size_toArray] <;> omega)
   rw[rC];refine⟨.ref _,_,I4.laid (t':=s3.toks) (o:=.lst xs.reverse) (fun b ob q=>get?_push_of_some _ q) (le_refl _) ?_,rfl,q1 _ (I4.hok.fresh (le_refl _))⟩;exact⟨by rw[length_reverse];exact hz,_,0,r.reverse,get?_push_size _ rfl⟩
  exact q1.elim
 exact q1.elim
theorem Ia {p2 p3 p4:Pos}{j}(he:QE X e te)(hlt:∀o r,letTemporaryGo e o r=pure ():=by intro _ _;rfl):QE X (.Subscript e (.Slice none none (some (.UnaryOp .USub (.Constant (.int 1) j p3) p4)) p2) pos) (Qe te):=⟨Rv he.h hlt⟩
end
mutual
noncomputable def szD (a:Nat):PyData->Prop
 | .none=>True
 | .bool _=>True
 | .int i=>i.natAbs<=10^20*2^a
 | .str x=>x.length<=30+a/\∀c∈x.cps.toList,c<16^8
 | .list ds=>ds.length<=210*5^a/\GP a ds
 | .tuple ds=>ds.length<=210*5^a/\GP a ds
 | .dict _=>False
noncomputable def GP (a:Nat):List PyData->Prop
 | []=>True
 | d::ds=>szD a d/\GP a ds
end
structure Shw (d:PyData):Prop where
 sh:d.showable=true
 nd:d.hasDict=false
 dp:d.depth<=100
 ln:d.shown.length<=sizeLine
noncomputable def Qz:List V->Hp->VK->Prop:=fun xs H Q=>∃v ok d,xs=[v]/\aH ok H v d/\Shw d/\Q (.str d.shown) H
theorem qR {X:Cx}(hg:X.A.guards=some []) (hu:X.A.units+200<cLine):cN X (.builtin "repr") Qz:=by
 intro pins s σ H xs us Q I r h;obtain⟨v,ok,d,rfl,t,⟨sh,hd,hdp,hl⟩,q⟩:=h;obtain⟨u,rfl,rv⟩:=vals1 r;have nodict:∀as:List Addr,d.hasDict=true->¬sysModules∈as:=fun as z=>by rw[hd] at z;cases z
 cases t with
 | non=>cases rv;exact P.repr_of_none ⟨.str _,H,I.tok _,⟨_,rfl⟩,q⟩
 | bl b=>cases rv;exact P.repr_of_bool ⟨.str _,H,I.tok _,⟨_,rfl⟩,q⟩
 | int i=>
  obtain⟨t,rfl⟩:=rv;exact P.repr_of_int (of_decide_eq_true sh) ⟨.str _,H,I.tok _,⟨_,rfl⟩,q⟩
 | str x=>
  obtain⟨t,rfl⟩:=rv;exact P.repr_of_str ⟨.str _,H,I.tok _,⟨_,rfl⟩,q⟩ hl
 | lst o e z t=>
  obtain⟨as,rd⟩:=aH.reads I (aH.lst o e z t) rv;cases rv;exact repr_of_reads' rd sh (nodict as) hg ω (fun _ _ z=>z) (fun h' u tk k=>⟨.str _,H,I.kept k,⟨_,rfl⟩,q⟩) hl
 | tup o e z t=>
  obtain⟨as,rd⟩:=aH.reads I (aH.tup o e z t) rv;cases rv;exact repr_of_reads' rd sh (nodict as) hg ω (fun _ _ z=>z) (fun h' u tk k=>⟨.str _,H,I.kept k,⟨_,rfl⟩,q⟩) hl
theorem mW {x:PyData}:∀{ds:List PyData},x∈ds->x.depth<=PyData.depthAll ds
 | y::ds,h=>by
  rw[PyData.depthAll.eq_2];rcases mem_cons.mp h with rfl|z
  ·omega
  have:=mW z;omega
theorem tK {H H':Hp}{l:Addr}{o:HO}(s:Same H H')(h:H l=none):Same H (upd H' l o):=fun b u e=>by
 rw[aG (aD e h)];exact s b u e
theorem oE.new {ok:Addr->Prop}{H:Hp}(n:oE ok H){q:Addr}(h:H q=none):ok q:=n H q (Same.refl _) h
theorem NZ {α:Type}(xs:List α)(h:1<=xs.length):∃(i:Nat)(x:α),xs[i]?=some x/\atI xs (-1)=some x:=by
 have h1:xs.length-1<xs.length:=ω;refine⟨xs.length-1,xs[xs.length-1],getElem?_eq_getElem h1,?_⟩;unfold atI ixN;rw[if_neg δ,if_pos ω];show xs[_]?=_;rw[show(-1+(xs.length:Int)).toNat=xs.length-1 by omega];exact getElem?_eq_getElem h1
section
variable {X:Cx}{a:Expr}{ta:TE}
noncomputable def trq (ob:Option HO)(H:Hp)(Q:Bool->Hp->Prop):Prop:=match ob with
 | some (.lst xs)=>Q (!xs.isEmpty) H
 | some (.tup xs)=>Q (!xs.isEmpty) H
 | _=>False
noncomputable def Uc (x:V)(H:Hp)(Q:Bool->Hp->Prop):Prop:=match x with
 | .ref p=>trq (H p) H Q
 | .bl b=>Q b H
 | .int i=>Q (i != 0) H
 | .non=>Q false H
 | _=>False
noncomputable def Vm (te:TE):TT:=fun σ H Q=>te σ H fun x H1=>Uc x H1 Q
theorem Bs (te:TE)(σ:St)(H:Hp)(Q:Bool->Hp->Prop):Vm te σ H Q=te σ H fun x H1=>Uc x H1 Q:=rfl
noncomputable def Vq:R2:=fun x y H Q=>∃p q xs,x=.ref p/\y=.ref q/\H p=some (.lst xs)/\H q=some (.lst [])/\Q (.bl (!xs.isEmpty)) H
theorem RN (hu:X.A.units<cLine):OpR X (compareOp .NotEq) Vq:=by
 intro pins s σ H x y v u Q I rx ry h;obtain⟨p,q,xs,rfl,rfl,e1,e2,qq⟩:=h;cases rx;cases ry;obtain⟨its1,r1,pl1,hz1⟩:=I.list (SqL.of e1);obtain⟨its2,r2,pl2,hz2⟩:=I.list (SqL.of e2);cases r2;cases xs with
 | nil=>
  cases r1;exact SeqAt.RcNeAt.lists (e:=fun _=>true) pl1.isList pl2.isList rfl hu (fun j h1 h2=>absurd h2 (not_lt_zero _)) X.prog X.w X.xe (EP X pins σ Q) ⟨.bl false,H,I,rfl,qq⟩
 | cons a b=>
  cases r1;exact SeqAt.RcNeAt.lists_lengths pl1.isList pl2.isList (by simp) hu X.prog X.w X.xe (EP X pins σ Q) ⟨.bl true,H,I,rfl,qq⟩
end
noncomputable def rd6:=And.intro @Bs @Bs
noncomputable def stD (s:Int×Int×Int):PyData:=.tuple [.int s.1,.int s.2.1,.int s.2.2]
theorem aH.st {ok:Addr->Prop}{H:Hp}{x:V}{s:Int×Int×Int}(t:aH ok H x (stD s)):∃a,x=.ref a/\ok a/\H a=some (.tup [.int s.1,.int s.2.1,.int s.2.2]):=by
 cases t with
 | tup o e z ts=>
  rename_i p xs;refine⟨p,rfl,o,?_⟩;cases ts with
  | cons t1 ts=>
   cases t1;cases ts with
   | cons t2 ts=>
    cases t2;cases ts with
    | cons t3 ts=>
     cases t3;cases ts;exact e
theorem aJ.st {ok:Addr->Prop}{H:Hp}{xs:List V}{ss:List (Int×Int×Int)}{i:Nat}{x:V}(t:aJ ok H xs (ss.map stD))(h:xs[i]?=some x):∃a s,x=.ref a/\ok a/\ss[i]?=some s/\H a=some (.tup [.int s.1,.int s.2.1,.int s.2.2]):=by
 obtain⟨d,hd,td⟩:=t.get h;rw[getElem?_map] at hd;cases hs:ss[i]? with
 | none=>rw[hs] at hd;cases hd
 | some s=>
  rw[hs] at hd;cases hd;obtain⟨a,h1,h2,h3⟩:=td.st;exact⟨a,s,h1,h2,rfl,h3⟩
theorem jr {is:List Int}{r:Int}(h0:0<=r)(h:r<is.length):∃i,i∈is/\atI (is.map V.int) r=some (.int i):=by
 have h1:r.toNat<is.length:=ω;refine⟨is[r.toNat],getElem_mem h1,?_⟩;unfold atI;rw[Ob h0 (by rw[length_map];omega)];show(is.map V.int)[r.toNat]?=_;rw[getElem?_map,getElem?_eq_getElem h1];rfl
structure pB (ss:List (Int×Int×Int)):Prop where
 lh:∀(i:Nat) s,ss[i]?=some s->s.1<=s.2.1/\0<=s.2.2/\s.2.2<=9
 nx:∀(i:Nat) s t,ss[i]?=some s->ss[i+1]?=some t->t.1=s.2.1+1
 bd:∀(i:Nat) s,ss[i]?=some s->-(10^12)<=s.1/\s.2.1<=10^9+(10^12+10)*(i+1)
theorem pB.nil:pB []:=⟨fun i s h=>(by cases h),fun i s t h=>(by cases h),fun i s h=>(by cases h)⟩
theorem pB.snoc {ss:List (Int×Int×Int)}(h:pB ss){lo hi b:Int}(h1:lo<=hi)(h2:0<=b/\b<=9)(h3:-(10^12)<=lo/\hi<=10^9+(10^12+10)*(ss.length+1))(h4:∀s,ss[ss.length-1]?=some s->lo=s.2.1+1):pB (ss++[(lo,hi,b)]):=by
 have get:∀(i:Nat) s,(ss++[(lo,hi,b)])[i]?=some s->(i<ss.length/\ss[i]?=some s)\/(i=ss.length/\s=(lo,hi,b)):=fun i s e=>by
  rcases lt_or_ge i ss.length with z|z
  ·rw[getElem?_append_left z] at e;exact .inl ⟨z,e⟩
  rw[getElem?_append_right z] at e;cases hk:i-ss.length with
  | zero=>rw[hk] at e;cases e;exact .inr ⟨ω,rfl⟩
  | succ k=>rw[hk] at e;cases e
 refine⟨fun i s e=>?_,fun i s t e1 e2=>?_,fun i s e=>?_⟩
 ·rcases get i s e with⟨z,e⟩|⟨z,rfl⟩
  ·exact h.lh i s e
  exact⟨h1,h2.1,h2.2⟩
 ·rcases get i s e1 with⟨z,e1⟩|⟨z,rfl⟩
  ·rcases get (i+1) t e2 with⟨z2,e2⟩|⟨z2,rfl⟩
   ·exact h.nx i s t e1 e2
   exact h4 s (by rw[show ss.length-1=i by omega];exact e1)
  rcases get (i+1) t e2 with⟨z2,e2⟩|⟨z2,rfl⟩ <;> omega
 rcases get i s e with⟨z,e⟩|⟨z,rfl⟩
 ·exact h.bd i s e
 rw[z];exact h3
noncomputable def O8:Sp:=fun vs H Q _=>∃(p:Addr)(m B:Int),vs=[.ref p,.int m]/\bU H p B/\0<=B/\B<=900000/\1<=m/\m<=60 /\
 ∀(l:Addr)(ss:List (Int×Int×Int)) H',aV p H H'->bU H' p (B+2000)->aH (·≠p) H' (.ref l) (.list (ss.map stD))->(ss.length:Int)=m->pB ss->Q (.ref l) H'
theorem Kr.shw {d:PyData}(t:Kr d):Shw d:=⟨(uI d t.sm).1,(uI d t.sm).2,t.dp,t.len⟩
theorem Vh {s:Int×Int×Int}(h1:s.1.natAbs<2^55)(h2:s.2.1.natAbs<2^55)(h3:s.2.2.natAbs<2^55):Bd 4 1 (stD s):=
 (yM (n:=1) (k:=0) (m:=3) (vY (qW h1) (vY (qW h2) (vY (qW h3) T4))) (le_refl _)).mono δ δ
theorem pB.small {ss:List (Int×Int×Int)}(r:pB ss)(h:ss.length<=60){s:Int×Int×Int}(hs:s∈ss):s.1.natAbs<2^50/\s.2.1.natAbs<2^50/\s.2.2.natAbs<2^50:=by
 obtain⟨i,hi,e⟩:=mem_iff_getElem.mp hs;have hg:ss[i]?=some s:=by rw[<- e];exact getElem?_eq_getElem hi
 have h1:=r.lh i s hg;have h2:=r.bd i s hg;omega
section
variable {κ:Type}[DecidableEq κ]
noncomputable def gQ (kvs:List (κ×V))(k:κ):Option V:=(kvs.find? fun kv=>decide (kv.1=k)).map (·.2)
noncomputable def putK (kvs:List (κ×V))(k:κ)(v:V):List (κ×V):=
 if (kvs.any fun kv=>decide (kv.1=k))=true then kvs.map (fun kv=>if kv.1=k then (kv.1,v) else kv) else kvs++[(k,v)]
theorem Gh {k:κ}:gQ ([]:List (κ×V)) k=none:=rfl
theorem dw {p:κ×V}{r:List (κ×V)}{k:κ}(e:p.1=k):gQ (p::r) k=some p.2:=by simp [gQ,find?_cons,e]
theorem dB {p:κ×V}{r:List (κ×V)}{k:κ}(e:¬p.1=k):gQ (p::r) k=gQ r k:=by simp [gQ,find?_cons,e]
theorem pI (k:κ):∀kvs:List (κ×V),(kvs.any fun kv=>decide (kv.1=k))=(gQ kvs k).isSome
 | []=>rfl
 | p::r=>by
  rw[any_cons];by_cases e:p.1=k
  ·simp only[dw e,decide_eq_true e,Bool.true_or,Option.isSome_some]
  rw[dB e,decide_eq_false e,Bool.false_or];exact pI k r
theorem wu (k j:κ)(y:V):∀kvs:List (κ×V),gQ (kvs.map fun kv=>if kv.1=k then (kv.1,y) else kv) j=(gQ kvs j).map fun x=>if j=k then y else x
 | []=>rfl
 | p::r=>by
  have ih:=wu k j y r;rw[map_cons];by_cases h:p.1=k
  ·rw[if_pos h];by_cases e:p.1=j
   ·rw[dw (p:=(p.1,y)) e,dw e,map_some,if_pos (e.symm.trans h)]
   rw[dB (p:=(p.1,y)) e,dB e,ih]
  rw[if_neg h];by_cases e:p.1=j
  ·rw[dw (p:=p) e,dw e,map_some,if_neg (fun z=>h (e.trans z))]
  rw[dB (p:=p) e,dB e,ih]
theorem sG (k j:κ)(y:V):∀kvs:List (κ×V),gQ kvs k=none->gQ (kvs++[(k,y)]) j=if j=k then some y else gQ kvs j
 | [],_=>by
  by_cases e:k=j
  ·rw[if_pos e.symm];exact dw (p:=(k,y)) e
  rw[if_neg (fun z=>e z.symm)];exact dB (p:=(k,y)) e
 | p::r,hn=>by
  rw[List.cons_append];have hk:¬p.1=k:=fun z=>by rw[dw z] at hn;cases hn
  rw[dB hk] at hn;have ih:=sG k j y r hn;by_cases e:p.1=j
  ·rw[dw e,dw e,if_neg (fun z=>hk (e.trans z))]
  rw[dB e,dB e,ih]
theorem Gg (kvs:List (κ×V))(k j:κ)(y:V):gQ (putK kvs k y) j=if j=k then some y else gQ kvs j:=by
 unfold putK;by_cases a:(kvs.any fun kv=>decide (kv.1=k))=true
 ·rw[if_pos a,wu];rw[pI] at a;by_cases e:j=k
  ·obtain⟨x,hx⟩:=Option.isSome_iff_exists.mp a;rw[if_pos e,e,hx,map_some,if_pos rfl]
  rw[if_neg e];cases gQ kvs j with
  | none=>rfl
  | some x=>rw[map_some,if_neg e]
 rw[if_neg a];refine sG k j y kvs ?_;rw[pI] at a;cases q:gQ kvs k with
 | none=>rfl
 | some x=>rw[q] at a;exact(a rfl).elim
theorem yh (kvs:List (κ×V))(k:κ)(v:V):(putK kvs k v).length<=kvs.length+1:=by
 unfold putK;split
 ·rw[length_map];omega
 rw[length_append,length_cons,length_nil];omega
theorem KV.val {kvs:List (κ×V)}{vs:List (κ×Value)}(r:KV kvs vs)(k:κ):v5 (gQ kvs k) (valueAt vs k):=by
 unfold KV at r
 induction r with
 | nil=>exact True.intro
 | @cons p q ps qs h t ih=>
  obtain⟨h1,h2⟩:=h;by_cases e:p.1=k
  ·have e':q.1=k:=h1.symm.trans e;have b:valueAt (q::qs) k=some q.2:=by simp [valueAt,find?_cons,e']
   rw[dw e,b];exact h2
  have e':¬q.1=k:=fun z=>e (h1.trans z);have b:valueAt (q::qs) k=valueAt qs k:=by simp [valueAt,find?_cons,e']
  rw[dB e,b];exact ih
theorem KV.any {kvs:List (κ×V)}{vs:List (κ×Value)}(r:KV kvs vs)(k:κ):(kvs.any fun kv=>decide (kv.1=k))=vs.any fun kv=>decide (kv.1=k):=by
 unfold KV at r
 induction r with
 | nil=>rfl
 | cons h t ih=>rw[any_cons,any_cons,ih,h.1]
theorem KV.repl {kvs:List (κ×V)}{vs:List (κ×Value)}(r:KV kvs vs)(k:κ){y:V}{u:Value}(ry:RelV y u) :
  KV (kvs.map fun kv=>if kv.1=k then (kv.1,y) else kv) (vs.map fun kv=>if kv.1=k then (kv.1,u) else kv):=by
 unfold KV at r |-
 induction r with
 | nil=>exact .nil
 | @cons p q ps qs h t ih=>
  rw[map_cons,map_cons];refine .cons ?_ ih;obtain⟨h1,h2⟩:=h;by_cases e:p.1=k
  ·rw[if_pos e,if_pos (h1.symm.trans e)];exact⟨h1,ry⟩
  rw[if_neg e,if_neg (fun z=>e (h1.trans z))];exact⟨h1,h2⟩
theorem KV.put {kvs:List (κ×V)}{vs:List (κ×Value)}(r:KV kvs vs)(k:κ){y:V}{u:Value}(ry:RelV y u):KV (putK kvs k y) (stored vs k u):=by
 unfold putK stored;rw[r.any k];by_cases e:(vs.any fun kv=>decide (kv.1=k))=true
 ·rw[if_pos e,if_pos e];exact r.repl k ry
 rw[if_neg e,if_neg e];exact Paired.snoc r ⟨rfl,ry⟩
end
theorem JM {P:Program}{w:World}{k:Key}{u:Value}(r:RelV (kV k) u):(bO P w).is k u=true:=by
 cases k with
 | inl i=>obtain⟨t,e⟩:=(show ∃t,u=Value.int i t from r);subst e;exact yd P w i t
 | inr x=>obtain⟨t,e⟩:=(show ∃t,u=Value.str x t from r);subst e;exact yc P w x t
theorem tV {P:Program}{w:World}:∀{ks:List Key}{us:List Value},Vals (ks.map kV) us->ItemsAre (bO P w) ks us
 | [],_,r=>by rw[map_nil] at r;cases r;exact .nil
 | k::ks,_,r=>by
  rw[map_cons] at r;cases r with
  | cons h t=>exact .cons (JM h) (tV t)
noncomputable abbrev KT (H:Hp):List (List Key×V)->List (List Key×Addr×Value)->Prop:=Paired fun p q=>p.1=q.1/\H q.2.1=some (.tup (p.1.map kV))/\RelV p.2 q.2.2
theorem KT.val {H:Hp}{kvs:List (List Key×V)}{xs:List (List Key×Addr×Value)}(r:KT H kvs xs)(k:List Key):v5 (gQ kvs k) ((atKey xs k).map (·.2)):=by
 induction r with
 | nil=>exact True.intro
 | @cons p q ps qs h t ih=>
  obtain⟨h1,_,h2⟩:=h;by_cases e:p.1=k
  ·have e':q.1=k:=h1.symm.trans e;have b:atKey (q::qs) k=some q.2:=by simp [atKey,find?_cons,e']
   rw[dw e,b];exact h2
  have e':¬q.1=k:=fun z=>e (h1.trans z);have b:atKey (q::qs) k=atKey qs k:=by simp [atKey,find?_cons,e']
  rw[dB e,b];exact ih
section
variable {P:Program}{w:World}{H:Hp}{h:Heap}{a:Addr}
theorem Pa {u:HO}(ok:HOk P w H h)(e:Rd H a u):bI P w H h a u:=e.ok ok
theorem Py {kvs:List (Key×V)}(ok:HOk P w H h)(e:Rd H a (.dK kvs)):kvs.length<=sizeLine/\(a == sysModules)=false/\∃vs,KV kvs vs/\h.DictOf (bO P w) a vs:=
 show bI P w H h a (.dK kvs) from Pa ok e
theorem JH {ks:List Key}(ok:HOk P w H h)(e:H a=some (.tup (ks.map kV))):(tupleKind (bO P w)).is h ks a:=by
 obtain⟨_,its,r,o,h1,h2,n,h3⟩:=(show bI P w H h a (.tup (ks.map kV)) from ok a _ e);exact⟨o,its.toArray,n,h1,h2,h3,by simpa using tV r⟩
theorem Px {kvs:List (List Key×V)}(ok:HOk P w H h)(e:Rd H a (.dT kvs)):kvs.length<=sizeLine/\(a == sysModules)=false /\
  ∃xs,KT H kvs xs/\h.DictOfH (tupleKind (bO P w)) a xs:=by
 obtain⟨z,y,xs,r,o,es,ep,h1,h2,h3,h4,h5⟩:=(show bI P w H h a (.dT kvs) from Pa ok e);refine⟨z,y,xs,r,o,es,ep,h1,h2,h3,h4,fun x hx=>?_,h5⟩;have all:∀{l:List (List Key×V)}{m:List (List Key×Addr×Value)},KT H l m->∀x∈m,(tupleKind (bO P w)).is h x.1 x.2.1:=by
  intro l m q
  induction q with
  | nil=>intro x hx;exact nomatch hx
  | @cons p q ps qs hq t ih=>
   intro x hx;rcases mem_cons.mp hx with e|hx
   ·subst e;exact JH ok (by rw[<- hq.1];exact hq.2.1)
   exact ih x hx
 exact all r x hx
end
noncomputable def Bo (H:Hp)(a:Addr)(y:V)(r:Option V):Prop:=
 (∃kvs k,Rd H a (.dK kvs)/\y=kV k/\r=gQ kvs k)\/∃kvs k b,Rd H a (.dT kvs)/\y=.ref b/\H b=some (.tup (k.map kV))/\r=gQ kvs k
theorem Bo.k {H:Hp}{a:Addr}{kvs:List (Key×V)}{k:Key}(e:H a=some (.dK kvs)):Bo H a (kV k) (gQ kvs k):=.inl ⟨kvs,k,.inl e,rfl,rfl⟩
section
variable {X:Cx}{pins:List (Addr×Obj)}{σ:St}{H:Hp}{s:Shared}{a:Addr}{y v:V}{u r:Value}{o:Option V}{A:Around}{E:Value->Shared->Prop}
theorem Inv.big (I:Inv X pins σ H s):sysModules<s.heap.objs.size:=by
 have h:mainGlobals<s.heap.objs.size:=(I.mod.glob.keeps I.bk).lt;exact lt_trans δ h
theorem Fg {Q:Value->Shared->Prop}(hu:A.units+1<cLine)(I:Inv X pins σ H s)(g:Bo H a y (some v))(ry:RelV y u)(h:∀w' s',Inv X pins σ H s'->RelV v w'->Q w' s') :
  wpAny (model X.prog X.w) A (getItem (.ref a) u) Q E s:=by
 rcases g with⟨kvs,k,e,ey,l⟩|⟨kvs,k,b,e,ey,eb,l⟩
 ·subst ey;obtain⟨z,hd,vs,rel,dd⟩:=Py I.hok e;obtain⟨w',hw,rw'⟩:=v5.some_of (v:=v) (o:=valueAt vs k) (by rw[l];exact rel.val k);exact wpAny_getItem_of (JM ry) dd.mapOf hw (h w' _ (I.tok _) rw')
 subst ey;cases (show u=Value.ref b from ry);obtain⟨z,hd,xs,rel,dd⟩:=Px I.hok e;obtain⟨w',hw,rw'⟩:=v5.some_of (v:=v) (o:=(atKey xs k).map (·.2)) (by rw[l];exact rel.val k);obtain⟨p,hp,hp2⟩:=map_eq_some_iff.mp hw;refine wpAny_getItem_heap (tupleKind_room_in1 hu) (JH I.hok eb) dd hp ?_;rw[hp2];exact h w' _ (I.tok _) rw'
theorem Tt {P:Program}{w:World}{H':Hp}{h':Heap}{kvs:List (Key×V)}{vs:List (Key×Value)}(z:kvs.length<=sizeLine)(hd:(a == sysModules)=false)(rel:KV kvs vs)(dd:h'.DictOf (bO P w) a vs) :
  bI P w H' h' a (.dK kvs):=⟨z,hd,vs,rel,dd⟩
end
noncomputable def T9 (i:Expr):Prop:=∀ov iv,subscripted i false ov iv=operate [ov,iv] (getItem ov iv)
theorem KQ {prog:Program}{w:World}{A:Around}{E:Value->Shared->Prop}{s:Shared}{env:Env}{value slice:Expr}{pos:Pos}{T id:String}{Q:Value->Shared->Prop}
  (hl:typeLookup (.type T) "__getitem__" = pure (some (.builtin id))) (hs:T9 slice)
  (h:wpAny (model prog w) A (eval value env) (fun o s₁=>wpAny (model prog w) A (eval slice env) (fun i s₂=>s₂.TypeIs o T/\wpAny (model prog w) A (getItem o i) Q E s₂) E s₁) E s) :
  wpAny (model prog w) A (eval (.Subscript value slice pos) env) Q E s:=by
 refine Subscript_ (wpAny_mono h (fun o s₁ h₁=>wpAny_mono h₁ (fun i s₂ h₂=>?_) fun _ _ x=>x) fun _ _ x=>x);obtain⟨hT,h₂⟩:=h₂;unfold subscriptTail;refine wpAny_bind ?_;rw[getitemInPython_of_ne hT.not_modules];refine wpAny_bind (wpAny_specialOf hT hl ?_);have fin:wpAny (model prog w) A (subscripted slice false o i) (fun r s₃=>wpAny (model prog w) A (letTemporaryGo value o r >>= fun _=>pure r) Q E s₃) E s₂:=by
  rw[hs o i];exact wpAny_operating (wpAny_mono h₂ (fun r s₃ h₃=>wpAny_bind (wpAny_letTemporaryGo (wpAny_pure h₃))) fun _ _ x=>x)
 first
  | exact wpAny_pure (wpAny_bind fin)
  | exact wpAny_bind (wpAny_pure (wpAny_bind fin))
  | exact wpAny_bind fin
theorem yE {X:Cx}{pins:List (Addr×Obj)}{σ:St}{H:Hp}{s:Shared}{a:Addr}{y:V}{o:Option V}(I:Inv X pins σ H s) (g:Bo H a y o):s.TypeIs (.ref a) "dict" := by
 rcases g with⟨kvs,k,e,_,_⟩|⟨kvs,k,b,e,_,_,_⟩
 ·obtain⟨_,_,vs,_,dd⟩:=Py I.hok e;exact dd.typeIs
 obtain⟨_,_,xs,_,dd⟩:=Px I.hok e;exact dd.typeIs
noncomputable def Ue (td ty:TE):TE:=fun σ H Q=>td σ H fun x H1=>ty σ H1 fun y H2=>∃a v,x=.ref a/\Bo H2 a y (some v)/\Q v H2
section
variable {X:Cx}{o i e value:Expr}{pos pos' tpos:Pos}{td ty tv:TE}
theorem M6 (hu:X.A.units+1<cLine)(ho:PE X o td)(hi:PE X i ty)(hs:T9 i):PE X (.Subscript o i pos) (Ue td ty):=by
 intro pins s σ H Q I h;refine KQ PySem.F.slot_dict_getitem.lookup hs (thE (ho pins s σ H _ I h) fun u s1 x H1 I1 rx q1=>thn (hi pins s1 σ H1 _ I1 q1) fun iv s2 ⟨y,H2,I2,ry,a,v,ex,g,q2⟩=>?_);subst ex;obtain rfl:u=Value.ref a:=rx;exact⟨yE I2 g,Fg hu I2 g ry fun w' s3 I3 rw'=>⟨v,H2,I3,rw',q2⟩⟩
end
theorem J7 {P:Program}{w:World}{H:Hp}(h:Heap) (hb:sysModules<h.objs.size):bI P w H (h.push { cls:=.type "dict",data:=.dict #[] }) h.objs.size (.dK []):=
 ⟨zero_le _,beq_eq_false_iff_ne.mpr (Ne.symm (ne_of_lt hb)),[],.nil,Heap.DictOf.new h⟩
noncomputable def Gv:List (TE×TE)->St->Hp->(List (V×V)->Hp->Prop)->Prop
 | [],_,H,Q=>Q [] H
 | (tk,tv)::r,σ,H,Q=>tk σ H fun x H1=>tv σ H1 fun y H2=>Gv r σ H2 fun ps H3=>Q ((x,y)::ps) H3
noncomputable def fX (kvs more:List (Key×V)):List (Key×V):=more.foldl (fun acc kv=>putK acc kv.1 kv.2) kvs
theorem KV.merge:∀{more:List (Key×V)}{rs:List (Key×Value)}{kvs:List (Key×V)}{vs:List (Key×Value)},KV more rs->KV kvs vs->KV (fX kvs more) (merged vs rs):=by
 intro more rs kvs vs r;unfold KV at r
 induction r generalizing kvs vs with
 | nil=>intro q;exact q
 | @cons p q ps qs h t ih=>
  intro r0;have e:KV (putK kvs p.1 p.2) (stored vs q.1 q.2):=by
   have:=r0.put p.1 h.2;rw[<- h.1];exact this
  exact ih e
theorem kI:∀(more kvs:List (Key×V)),(fX kvs more).length<=kvs.length+more.length
 | [],kvs=>by show kvs.length<=kvs.length+0;omega
 | p::r,kvs=>by
  have h1:=kI r (putK kvs p.1 p.2);have h2:=yh kvs p.1 p.2;show(fX (putK kvs p.1 p.2) r).length<=_;rw[length_cons];omega
noncomputable def O6 (trs:List (TE×TE)):TE:=fun σ H Q=>∀p,H p=none->Gv trs σ (upd H p (.dK [])) fun ps H2=>H2 p=some (.dK [])/\∃kvs:List (Key×V),ps=kvs.map (fun kv=>(kV kv.1,kv.2))/\kvs.length<=15/\Q (.ref p) (upd H2 p (.dK (fX [] kvs)))
theorem dN.PN {k:Nat}{A:Around}(r:dN k A):A.units+1<cLine:=by have:=r.un;omega
theorem dN.un1 {k:Nat}{A:Around}(r:dN k A):A.in1.units<cLine:=by
 have:=r.un;show A.units+1<cLine;omega
noncomputable def rd7:=And.intro @O6.eq_1 @O6.eq_1
theorem xG:(("is" : Str) = "below")=False:=eq_false ψ
theorem zK:(("is" : Str) = "mask")=False:=eq_false ψ
theorem oJ:(("within" : Str) = "below")=False:=eq_false ψ
theorem pY:(("within" : Str) = "mask")=False:=eq_false ψ
theorem rM:(("below" : Str) = "mask")=False:=eq_false ψ
theorem rK:(("mask" : Str) = "below")=False:=eq_false ψ
theorem rJ:(("pick" : Str) = "table")=False:=eq_false ψ
noncomputable def rdW:=And.intro @xG (And.intro @zK (And.intro @oJ (And.intro @pY (And.intro @rM (And.intro @rK @rJ)))))
theorem Vf {K:PySem.W.Frag}{a:Addr}{xs:List V}{g:TG}{tb:TS}{D:Ends}{σ:St}{H:Hp}{R:It->Hp->Prop}(hR:R=(fun J H1=>∃W:Nat->Nat->St->Hp->Prop,(∃m,W 0 m σ H1)/\∀i m σ H,W i m σ H ->
  (J.stop i H/\D.nx σ H)\/(J.go i H/\∃N:St->Hp->Prop,(∀σ' H',N σ' H'->∃m',m'<m/\W (i+1) m' σ' H')/\∀x H',J.yld i H x H'->g x σ H' fun σ2 H2=>tb { D with nx:=N,ct:=N,bk:=D.nx } σ2 H2)))
  (Pv:Nat->St->Hp->Prop) (h0:Pv 0 σ H) (hl:∀i σ H,Pv i σ H->H a=some (.lst xs))
  (hs:∀(i:Nat) x σ H p,xs[i]?=some x->Pv i σ H->H p=none->g (.ref p) σ (upd H p (.tup [.int (i:Nat),x])) fun σ2 H2=>tb { D with nx:=Pv (i+1),ct:=Pv (i+1),bk:=D.nx } σ2 H2) (hd:∀σ H,Pv xs.length σ H->D.nx σ H):R (Ite K a) H:=by
 refine Ti hR xs.length Pv h0 (fun i σ H hi p=>?_) (fun σ H p=>?_) (fun i σ H x H3 hi p y=>?_) hd
 ·exact⟨xs,_,SqL.of (hl i σ H p),getElem?_eq_getElem hi⟩
 ·exact⟨xs,SqL.of (hl _ σ H p),getElem?_eq_none (le_refl _)⟩
 obtain⟨q,x1,rfl,hq,rfl,hx⟩:=y;exact hs i x1 σ H q (hx _ (SqL.of (hl i σ H p))) p hq
theorem Same.none {H H':Hp}(s:Same H H'){p:Addr}(h:H' p=none):H p=none:=by
 cases e:H p with
 | none=>rfl
 | some o=>rw[s _ _ e] at h;cases h
mutual
noncomputable def szB:PyData->Bool
 | .none=>true
 | .bool _=>true
 | .int i=>decide (i.natAbs<=10^20)
 | .str x=>decide (x.length<=30)&&x.cps.toList.all fun c=>decide (c<16^8)
 | .list ds=>decide (ds.length<=210)&&Qp ds
 | .tuple ds=>decide (ds.length<=210)&&Qp ds
 | .dict _=>false
noncomputable def Qp:List PyData->Bool
 | []=>true
 | d::ds=>szB d&&Qp ds
end
structure Od (d:PyData):Prop where
 sz:szD 2 d
 nd:nodes d<=300
 dp:d.depth<=90
structure Sm5 (d:PyData):Prop where
 sz:szD 0 d
 nd:nodes d<=5
 dp:d.depth<=2
theorem pH {prog:Program}{w:World}{A:Around}{E:Value->Shared->Prop}{s:Shared}{z TI TO i1 i2 l1 l2:Addr}{k1 k2:Nat}{xs ys:Array Value}{x y a b:Value}{Q:Value->Shared->Prop}(D:ZipApart z TI TO i1 i2 l1 l2)(hz:IsZip s.heap z TI TO Value.none)(hTI:IsPair s.heap TI (Value.ref i1) (Value.ref i2))(hTO:IsPair s.heap TO a b)
  (h1:s.heap.IsTupleIter i1 l1 k1) (h2:s.heap.IsTupleIter i2 l2 k2) (hl1:s.heap.IsTuple l1 xs) (hl2:s.heap.IsTuple l2 ys) (hx:xs[k1]?=some x) (hy:ys[k2]?=some y)
  (hQ:∀h':Heap,IsZip h' z TI TO (rawInt s.heap.objs.size)->IsPair h' TO x y->h'.IsTupleIter i1 l1 (k1+1)->h'.IsTupleIter i2 l2 (k2+1)->IsPair h' s.heap.objs.size x y->h'.objs.size=s.heap.objs.size+1->(∀c o,c≠z->c≠TO->c≠i1->c≠i2->s.heap.get? c=some o->h'.get? c=some o)->Q (Value.ref s.heap.objs.size) { s with heap:=h' }) :
  wpAny (model prog w) A (Builtin.«zip.__next__» { pos:=[Value.ref z] }) (fun fin s'=>∃v,fin=Fin.done (Flow.ret v)/\Q v s') E s:=by
 show wpAny _ _ (field (Value.ref z) 2 >>= _) _ _ _;refine wpAny_bind (wpAny_field hz rfl rfl ?_);show wpAny _ _ (field (Value.ref z) 3 >>= _) _ _ _;refine wpAny_bind (wpAny_field hz rfl rfl ?_);refine wpAny_bind (wpAny_seqItems hTI rfl ?_);show wpAny _ _ (Builtin.SmallTypes.ownedTupleIsFree (Value.ref z) >>= _) _ _ _;refine wpAny_bind ?_;show wpAny _ _ (field (Value.ref z) 0 >>= _) _ _ _;refine wpAny_bind (wpAny_field hz rfl rfl (wpAny_pure ?_));show wpAny _ _ (rule _ >>= _) _ _ _;refine wpAny_bind (wpAny_rule (wpAny_bind (wpAny_field hz rfl rfl ?_)));show wpAny _ _ (setField (Value.ref z) 0 Value.ellipsis >>= _) _ _ _;refine wpAny_bind (wpAny_setField_rec hz (lt_of_sub_pos (zero_lt_succ 4)) fun h₁ hz₁ hs₁=>?_);have old1:∀c o,c≠z->s.heap.get? c=some o->h₁.get? c=some o:=fun c o hc e=>(hs₁.2 c hc).trans e;have h1a:h₁.IsTupleIter i1 l1 k1:=h1.at fun o e=>old1 i1 o D.i1z e;have h2a:h₁.IsTupleIter i2 l2 k2:=h2.at fun o e=>old1 i2 o D.i2z e;have tup:∀{h:Heap}{l:Addr}{vs:Array Value},s.heap.IsTuple l vs->(∀o,s.heap.get? l=some o->h.get? l=some o)->h.IsTuple l vs:=fun⟨o,e,r⟩ k=>⟨o,k o e,r⟩;refine wpAny_bind ?_;show wpAny _ _ (forIn [(Value.ref i1,0),(Value.ref i2,1)] (none,()) _) _ _ _;rw[forIn_cons];refine wpAny_bind ?_;show wpAny _ _ ((Sem.onRaise (Builtin.SmallTypes.nextOf (Value.ref i1) >>= fun v=>pure (some v)) (fun _=>setField (Value.ref z) 0 Value.none)) >>= _) _ _ _;refine wpAny_bind (wpAny_onRaise (wpAny_bind (cJ (s:={ s with heap:=h₁ }) h1a (tup hl1 fun o e=>old1 l1 o D.l1z e) hx fun h₂ h1b sb₂=>wpAny_pure ?_)));have old2:∀c o,c≠z->c≠i1->s.heap.get? c=some o->h₂.get? c=some o:=fun c o hc hc1 e=>(sb₂.2 c hc1).trans (old1 c o hc e);have hTO2:IsPair h₂ TO a b:=old2 TO _ D.TOz D.TOi1 hTO;show wpAny _ _ (seqItems? (Value.ref TO) >>= _) _ _ _;refine wpAny_bind (wpAny_seqItems (s:={ s with heap:=h₂ }) hTO2 rfl ?_);show wpAny _ _ (updateSeq TO _ >>= _) _ _ _;refine wpAny_bind (wpAny_updateSeq_pair (s:={ s with heap:=h₂ }) hTO2 fun h₃ g₃ sb₃=>?_);refine wpAny_bind (wpAny_letGo (wpAny_pure ?_));show wpAny _ _ (forIn [(Value.ref i2,1)] (none,()) _) _ _ _;rw[forIn_cons];refine wpAny_bind ?_;have old3:∀c o,c≠z->c≠i1->c≠TO->s.heap.get? c=some o->h₃.get? c=some o:=fun c o hc hc1 hc2 e=>(sb₃.2 c hc2).trans (old2 c o hc hc1 e);have h2c:h₃.IsTupleIter i2 l2 k2:=h2.at fun o e=>old3 i2 o D.i2z (Ne.symm D.i12) (Ne.symm D.TOi2) e;have g₃':IsPair h₃ TO x b:=g₃;show wpAny _ _ ((Sem.onRaise (Builtin.SmallTypes.nextOf (Value.ref i2) >>= fun v=>pure (some v)) (fun _=>setField (Value.ref z) 0 Value.none)) >>= _) _ _ _;refine wpAny_bind (wpAny_onRaise (wpAny_bind (cJ (s:={ s with heap:=h₃ }) h2c (tup hl2 fun o e=>old3 l2 o D.l2z D.l2i1 D.l2TO e) hy fun h₄ h2d sb₄=>wpAny_pure ?_)));have hTO4:IsPair h₄ TO x b:=(sb₄.2 TO D.TOi2).trans g₃';show wpAny _ _ (seqItems? (Value.ref TO) >>= _) _ _ _;refine wpAny_bind (wpAny_seqItems (s:={ s with heap:=h₄ }) hTO4 rfl ?_);show wpAny _ _ (updateSeq TO _ >>= _) _ _ _
 refine wpAny_bind (wpAny_updateSeq_pair (s:={ s with heap:=h₄ }) hTO4 fun h₅ g₅ sb₅=>?_);refine wpAny_bind (wpAny_letGo (wpAny_pure ?_));have g₅':IsPair h₅ TO x y:=g₅;show wpAny _ _ (forIn [] (none,()) _) _ _ _;rw[forIn_nil];refine wpAny_pure ?_;show wpAny _ _ (seqItems? (Value.ref TO) >>= _) _ _ _;refine wpAny_bind (wpAny_seqItems (s:={ s with heap:=h₅ }) g₅' rfl ?_);show wpAny _ _ (newTuple [x,y] >>= _) _ _ _;refine wpAny_bind (wpAny_newTuple ?_ (by show 2<=sizeLine;decide));have sz:h₅.objs.size=s.heap.objs.size:=by
  rw[sb₅.1,sb₄.1,sb₃.1,sb₂.1,hs₁.1]
 have z5:h₅.get? z=_:=(sb₅.2 z (Ne.symm D.TOz)).trans ((sb₄.2 z (Ne.symm D.i2z)).trans ((sb₃.2 z (Ne.symm D.TOz)).trans ((sb₂.2 z (Ne.symm D.i1z)).trans hz₁)));have z6:(h₅.push { cls:=Value.type "tuple",data:=Data.seq #[x,y] }).get? z=_:=get?_push_of_some _ z5;refine wpAny_bind ?_;show wpAny _ _ (setField (Value.ref z) 0 (rawInt h₅.objs.size) >>= fun _=>setField (Value.ref z) 1 (Value.bool false)) _ _ _;refine wpAny_bind (wpAny_setField_rec (s:={ s with heap:=h₅.push { cls:=Value.type "tuple",data:=Data.seq #[x,y] } }) z6 (lt_of_sub_pos (zero_lt_succ 4)) fun h₇ hz₇ hs₇=>?_);refine wpAny_setField_rec (s:={ s with heap:=h₇ }) hz₇ (lt_of_sub_pos (zero_lt_succ 3)) fun h₈ hz₈ hs₈=>?_;have nzs:s.heap.objs.size≠z:=fun q=>by
  have:=lt_size hz;rw[<- q] at this;exact lt_irrefl _ this
 have old6:∀c o,h₅.get? c=some o->(h₅.push { cls:=Value.type "tuple",data:=Data.seq #[x,y] }).get? c=some o:=fun c o e=>get?_push_of_some _ e;have old8:∀c o,c≠z->h₅.get? c=some o->h₈.get? c=some o:=fun c o hc e=>(hs₈.2 c hc).trans ((hs₇.2 c hc).trans (old6 c o e));have new8:h₈.get? s.heap.objs.size=some { cls:=Value.type "tuple",data:=Data.seq #[x,y] }:=by
  refine(hs₈.2 _ nzs).trans ((hs₇.2 _ nzs).trans ?_);show(h₅.push { cls:=Value.type "tuple",data:=Data.seq #[x,y] }).get? s.heap.objs.size=_;rw[<- sz];exact get?_push_size _ rfl
 refine wpAny_pure ⟨_,rfl,?_⟩;rw[show(({ s with heap:=h₅ }:Shared).heap.objs.size)=s.heap.objs.size from sz];refine hQ h₈ ?_ ?_ ?_ ?_ new8 ?_ ?_
 ·rw[sz] at hz₈;exact hz₈
 ·exact old8 TO _ D.TOz g₅'
 ·refine h1b.at fun o e=>old8 i1 o D.i1z ?_;exact(sb₅.2 i1 (Ne.symm D.TOi1)).trans ((sb₄.2 i1 D.i12).trans ((sb₃.2 i1 (Ne.symm D.TOi1)).trans e))
 ·refine h2d.at fun o e=>old8 i2 o D.i2z ?_;exact(sb₅.2 i2 (Ne.symm D.TOi2)).trans e
 ·rw[hs₈.1,hs₇.1];show(h₅.push { cls:=Value.type "tuple",data:=Data.seq #[x,y] }).objs.size=_;rw[size_push,sz]
 intro c o hc1 hc2 hc3 hc4 e;exact old8 c o hc1 ((sb₅.2 c hc2).trans ((sb₄.2 c hc4).trans (old3 c o hc1 hc3 hc2 e)))
theorem iR {prog:Program}{w:World}{A:Around}{E:Value->Shared->Prop}{s:Shared}{z TI TO i1 i2 l1 l2:Addr}{k1 k2:Nat}{xs ys:Array Value}{x y a b:Value}{Q:Option Value->Shared->Prop}(D:ZipApart z TI TO i1 i2 l1 l2)(hz:IsZip s.heap z TI TO Value.none)(hTI:IsPair s.heap TI (Value.ref i1) (Value.ref i2))(hTO:IsPair s.heap TO a b)
  (h1:s.heap.IsTupleIter i1 l1 k1) (h2:s.heap.IsTupleIter i2 l2 k2) (hl1:s.heap.IsTuple l1 xs) (hl2:s.heap.IsTuple l2 ys) (hx:xs[k1]?=some x) (hy:ys[k2]?=some y)
  (hQ:∀h':Heap,IsZip h' z TI TO (rawInt s.heap.objs.size)->IsPair h' TO x y->h'.IsTupleIter i1 l1 (k1+1)->h'.IsTupleIter i2 l2 (k2+1)->IsPair h' s.heap.objs.size x y->h'.objs.size=s.heap.objs.size+1->(∀c o,c≠z->c≠TO->c≠i1->c≠i2->s.heap.get? c=some o->h'.get? c=some o)->Q (some (Value.ref s.heap.objs.size)) { s with heap:=h' }) :
  wpAny (model prog w) A (pyNext (Value.ref z)) Q E s:=by
 have hT:∃o,s.heap.get? z=some o/\o.cls=Value.type "zip" := ⟨_,hz,rfl⟩;exact wpAny_bind (wpAny_attempt (wpAny_callSpecial?_slot hT F.slot_zip_next (wpAny_call_entry F.slot_zip_next hT F.entry_zip_next
  (pH D hz hTI hTO h1 h2 hl1 hl2 hx hy fun h' a1 a2 a3 a4 a5 a6 a7=>wpAny_pure (hQ h' a1 a2 a3 a4 a5 a6 a7)) (F.args_zip_next_1 (Value.ref z)))))
theorem rz {prog:Program}{w:World}{A:Around}{E:Value->Shared->Prop}{s:Shared}{z TI TO i1 i2 l1 l2:Addr}{k1 k2:Nat}{xs ys:Array Value}{a b:Value}{Q:PySem.Fin->Shared->Prop}(hh:A.handled=none)(D:ZipApart z TI TO i1 i2 l1 l2)(hz:IsZip s.heap z TI TO Value.none)(hTI:IsPair s.heap TI (Value.ref i1) (Value.ref i2))(hTO:IsPair s.heap TO a b)
  (h1:s.heap.IsTupleIter i1 l1 k1) (h2:s.heap.IsTupleIter i2 l2 k2) (hl1:s.heap.IsTuple l1 xs) (hl2:s.heap.IsTuple l2 ys) (hend:xs[k1]?=none\/ys[k2]?=none)
  (hE:∀(h':Heap)(e:Addr),(∀c o,c≠z->c≠TO->c≠i1->c≠i2->s.heap.get? c=some o->h'.get? c=some o)->(∃o,h'.get? e=some o/\o.cls=Value.type "StopIteration")->E (Value.ref e) { s with heap:=h' }) :
  wpAny (model prog w) A (Builtin.«zip.__next__» { pos:=[Value.ref z] }) Q E s:=by
 show wpAny _ _ (field (Value.ref z) 2 >>= _) _ _ _;refine wpAny_bind (wpAny_field hz rfl rfl ?_);show wpAny _ _ (field (Value.ref z) 3 >>= _) _ _ _;refine wpAny_bind (wpAny_field hz rfl rfl ?_);refine wpAny_bind (wpAny_seqItems hTI rfl ?_);show wpAny _ _ (Builtin.SmallTypes.ownedTupleIsFree (Value.ref z) >>= _) _ _ _;refine wpAny_bind ?_;show wpAny _ _ (field (Value.ref z) 0 >>= _) _ _ _;refine wpAny_bind (wpAny_field hz rfl rfl (wpAny_pure ?_));show wpAny _ _ (rule _ >>= _) _ _ _;refine wpAny_bind (wpAny_rule (wpAny_bind (wpAny_field hz rfl rfl ?_)));show wpAny _ _ (setField (Value.ref z) 0 Value.ellipsis >>= _) _ _ _;refine wpAny_bind (wpAny_setField_rec hz (lt_of_sub_pos (zero_lt_succ 4)) fun h₁ hz₁ hs₁=>?_);have old1:∀c o,c≠z->s.heap.get? c=some o->h₁.get? c=some o:=fun c o hc e=>(hs₁.2 c hc).trans e;have h1a:h₁.IsTupleIter i1 l1 k1:=h1.at fun o e=>old1 i1 o D.i1z e;have tup:∀{h:Heap}{l:Addr}{vs:Array Value},s.heap.IsTuple l vs->(∀o,s.heap.get? l=some o->h.get? l=some o)->h.IsTuple l vs:=fun⟨o,e,r⟩ k=>⟨o,k o e,r⟩;have out:∀{h:Heap}{e:Addr}{vs:Array Value},h.get? z=some { cls:=Value.type "zip",data:=Data.fields vs }->0<vs.size->(∀c o,c≠z->c≠TO->c≠i1->c≠i2->s.heap.get? c=some o->h.get? c=some o)->(∃o,h.get? e=some o/\o.cls=Value.type "StopIteration") ->
   wpAny (model prog w) A (setField (Value.ref z) 0 Value.none) (fun _ s''=>E (Value.ref e) s'') E { s with heap:=h }:=fun {h e vs} ez hv hk he=>by
  refine wpAny_setField_rec (s:={ s with heap:=h }) ez hv fun h' _ hs=>hE h' e (fun c o c1 c2 c3 c4 g=>(hs.2 c c1).trans (hk c o c1 c2 c3 c4 g)) ?_;obtain⟨o,ho,hc⟩:=he;refine⟨o,(hs.2 e fun q=>?_).trans ho,hc⟩;rw[q,ez] at ho;cases ho;injection hc with hc;exact absurd hc δ
 refine wpAny_bind ?_;show wpAny _ _ (forIn [(Value.ref i1,0),(Value.ref i2,1)] (none,()) _) _ _ _;rw[forIn_cons];refine wpAny_bind ?_;show wpAny _ _ ((Sem.onRaise (Builtin.SmallTypes.nextOf (Value.ref i1) >>= fun v=>pure (some v)) (fun _=>setField (Value.ref z) 0 Value.none)) >>= _) _ _ _;cases hx:xs[k1]? with
 | none=>
  refine wpAny_bind (wpAny_onRaise (wpAny_bind (dM (s:={ s with heap:=h₁ }) hh h1a (tup hl1 fun o e=>old1 l1 o D.l1z e) hx fun h₂ e ext he=>?_)));exact out (h:=h₂) (ext z _ (Ne.symm D.i1z) hz₁) (lt_of_sub_pos (zero_lt_succ 4)) (fun c o c1 c2 c3 c4 g=>ext c o c3 (old1 c o c1 g)) he
 | some x=>
  have hy:ys[k2]?=none:=by
   rcases hend with q|q
   ·rw[hx] at q;cases q
   exact q
  refine wpAny_bind (wpAny_onRaise (wpAny_bind (cJ (s:={ s with heap:=h₁ }) h1a (tup hl1 fun o e=>old1 l1 o D.l1z e) hx fun h₂ h1b sb₂=>wpAny_pure ?_)));have old2:∀c o,c≠z->c≠i1->s.heap.get? c=some o->h₂.get? c=some o:=fun c o hc hc1 e=>(sb₂.2 c hc1).trans (old1 c o hc e);have hTO2:IsPair h₂ TO a b:=old2 TO _ D.TOz D.TOi1 hTO;show wpAny _ _ (seqItems? (Value.ref TO) >>= _) _ _ _;refine wpAny_bind (wpAny_seqItems (s:={ s with heap:=h₂ }) hTO2 rfl ?_);show wpAny _ _ (updateSeq TO _ >>= _) _ _ _;refine wpAny_bind (wpAny_updateSeq_pair (s:={ s with heap:=h₂ }) hTO2 fun h₃ g₃ sb₃=>?_);refine wpAny_bind (wpAny_letGo (wpAny_pure ?_));show wpAny _ _ (forIn [(Value.ref i2,1)] (none,()) _) _ _ _;rw[forIn_cons];refine wpAny_bind ?_;have old3:∀c o,c≠z->c≠i1->c≠TO->s.heap.get? c=some o->h₃.get? c=some o:=fun c o hc hc1 hc2 e=>(sb₃.2 c hc2).trans (old2 c o hc hc1 e);have h2c:h₃.IsTupleIter i2 l2 k2:=h2.at fun o e=>old3 i2 o D.i2z (Ne.symm D.i12) (Ne.symm D.TOi2) e;have z3:h₃.get? z=_:=(sb₃.2 z (Ne.symm D.TOz)).trans ((sb₂.2 z (Ne.symm D.i1z)).trans hz₁);show wpAny _ _ ((Sem.onRaise (Builtin.SmallTypes.nextOf (Value.ref i2) >>= fun v=>pure (some v)) (fun _=>setField (Value.ref z) 0 Value.none)) >>= _) _ _ _;refine wpAny_bind (wpAny_onRaise (wpAny_bind (dM (s:={ s with heap:=h₃ }) hh h2c (tup hl2 fun o e=>old3 l2 o D.l2z D.l2i1 D.l2TO e) hy fun h₄ e ext he=>?_)));exact out (h:=h₄) (ext z _ (Ne.symm D.i2z) z3) (lt_of_sub_pos (zero_lt_succ 4)) (fun c o c1 c2 c3 c4 g=>ext c o c4 (old3 c o c1 c3 c2 g)) he
theorem ji {prog:Program}{w:World}{A:Around}{E:Value->Shared->Prop}{s:Shared}{z TI TO i1 i2 l1 l2:Addr}{k1 k2:Nat}{xs ys:Array Value}{a b:Value}{Q:Option Value->Shared->Prop}(hh:A.handled=none)(D:ZipApart z TI TO i1 i2 l1 l2)(hz:IsZip s.heap z TI TO Value.none)(hTI:IsPair s.heap TI (Value.ref i1) (Value.ref i2))(hTO:IsPair s.heap TO a b)
  (h1:s.heap.IsTupleIter i1 l1 k1) (h2:s.heap.IsTupleIter i2 l2 k2) (hl1:s.heap.IsTuple l1 xs) (hl2:s.heap.IsTuple l2 ys) (hend:xs[k1]?=none\/ys[k2]?=none)
  (hQ:∀h':Heap,(∀c o,c≠z->c≠TO->c≠i1->c≠i2->s.heap.get? c=some o->h'.get? c=some o)->Q none { s with heap:=h' }):wpAny (model prog w) A (pyNext (Value.ref z)) Q E s:=by
 have hT:∃o,s.heap.get? z=some o/\o.cls=Value.type "zip" := ⟨_,hz,rfl⟩;exact wpAny_bind (wpAny_attempt (wpAny_callSpecial?_slot hT F.slot_zip_next (wpAny_call_entry F.slot_zip_next hT F.entry_zip_next
  (rz hh D hz hTI hTO h1 h2 hl1 hl2 hend fun h' e hk he=>by
   obtain⟨o,ho,hc⟩:=he;exact wpAny_bind (wpAny_isInstance ⟨o,ho,hc⟩ isSubtype_stop (wpAny_pure (hQ h' hk)))) (F.args_zip_next_1 (Value.ref z)))))
noncomputable def tz1 (h:Heap) (l1:Addr):Heap:=h.push { cls:=Value.type "tuple_iterator",data:=Data.fields #[Value.ref l1,Value.int 0 0] }
noncomputable def tz2 (h:Heap) (l1 l2:Addr):Heap:=(tz1 h l1).push { cls:=Value.type "tuple_iterator",data:=Data.fields #[Value.ref l2,Value.int 0 0] }
noncomputable def tz3 (h:Heap) (l1 l2:Addr):Heap:=(tz2 h l1 l2).push { cls:=Value.type "tuple",data:=Data.seq #[Value.ref h.objs.size,Value.ref (tz1 h l1).objs.size] }
noncomputable def tz4 (h:Heap) (l1 l2:Addr):Heap:=(tz3 h l1 l2).push { cls:=Value.type "tuple",data:=Data.seq #[Value.none,Value.none] }
noncomputable def tz5 (h:Heap) (l1 l2:Addr):Heap:=(tz4 h l1 l2).push { cls:=Value.type "zip",data:=Data.fields #[Value.none,Value.bool false,Value.bool false,Value.ref (tz2 h l1 l2).objs.size,Value.ref (tz3 h l1 l2).objs.size] }
theorem Gb (l1 l2:Addr) (xs ys:Array Value):Meets (Builtin.«zip.__new__» { pos:=[Value.type "zip",Value.ref l1,Value.ref l2] }) fun _ R s=>
  s.heap.IsTuple l1 xs/\s.heap.IsTuple l2 ys/\R (.ok (.ret (.ref (tz4 s.heap l1 l2).objs.size))) { s with heap:=tz5 s.heap l1 l2 }:=by
 refine Meets.of_wp fun prog w A R s h=>?_;obtain⟨ht1,ht2,hR⟩:=h;unfold Builtin.«zip.__new__» Builtin.SmallTypes.newClass;refine wpAny_bind (wpAny_bind (wpAny_pure (wpAny_ite_false rfl (wpAny_bind (wpAny_of_eq sub_zip (wpAny_ite_false rfl (wpAny_pure ?_)))))));show wpAny _ _ (Builtin.SmallTypes.iterAll [Value.ref l1,Value.ref l2] >>= _) _ _ _;refine wpAny_bind ?_;unfold Builtin.SmallTypes.iterAll;refine wpAny_bind ?_;rw[forIn_cons];refine wpAny_bind (wpAny_bind (wpAny_holding (wpAny_pyIter_tuple ht1 (wpAny_pure ?_))));show wpAny _ _ (forIn [Value.ref l2] #[Value.ref s.heap.objs.size] _) _ _ _;rw[forIn_cons];have ht2':(tz1 s.heap l1).IsTuple l2 ys:=by
  obtain⟨o,e,r⟩:=ht2;exact⟨o,get?_push_of_some _ e,r⟩
 refine wpAny_bind (wpAny_bind (wpAny_holding (wpAny_pyIter_tuple (s:={ s with heap:=tz1 s.heap l1 }) ht2' (wpAny_pure ?_))));show wpAny _ _ (forIn [] #[Value.ref s.heap.objs.size,Value.ref (tz1 s.heap l1).objs.size] _) _ _ _;rw[forIn_nil];refine wpAny_pure (wpAny_pure ?_);show wpAny _ _ (newTuple [Value.ref s.heap.objs.size,Value.ref (tz1 s.heap l1).objs.size] >>= _) _ _ { s with heap:=tz2 s.heap l1 l2 };refine wpAny_bind (wpAny_newTuple ?_ (by show 2<=sizeLine;decide));show wpAny _ _ (newTuple [Value.none,Value.none] >>= _) _ _ { s with heap:=tz3 s.heap l1 l2 };refine wpAny_bind (wpAny_newTuple ?_ (by show 2<=sizeLine;decide));show wpAny _ _ (newObj (.type "zip") (.fields #[.none,.bool false,.bool false,.ref (tz2 s.heap l1 l2).objs.size,.ref (tz3 s.heap l1 l2).objs.size]) >>= fun r=>ret r) _ _ { s with heap:=tz4 s.heap l1 l2 };refine wpAny_bind (wpAny_newObj_type ?_);exact wpAny_pure ⟨_,rfl,hR⟩
theorem oA {prog:Program}{w:World}{A:Around}{E:Value->Shared->Prop}{s:Shared}{l1 l2:Addr}{xs ys:Array Value}{Q:Value->Shared->Prop}(hl1:s.heap.IsTuple l1 xs)(hl2:s.heap.IsTuple l2 ys)
  (h:∀h':Heap,IsZip h' (s.heap.objs.size+4) (s.heap.objs.size+2) (s.heap.objs.size+3) Value.none->IsPair h' (s.heap.objs.size+2) (Value.ref s.heap.objs.size) (Value.ref (s.heap.objs.size+1))->IsPair h' (s.heap.objs.size+3) Value.none Value.none->h'.IsTupleIter s.heap.objs.size l1 0->h'.IsTupleIter (s.heap.objs.size+1) l2 0 ->
   h'.objs.size=s.heap.objs.size+5->(∀c o,s.heap.get? c=some o->h'.get? c=some o)->Q (Value.ref (s.heap.objs.size+4)) { s with heap:=h' }):wpAny (model prog w) A (call (Value.type "zip") [Value.ref l1,Value.ref l2]) Q E s:=by
 refine callType_new F.called_zip δ (F.typeCall_zip_2 _ _) (F.newCall_zip_2 _ _) (fun obj=>F.args_object_init_3 obj _ _) F.entry_zip_new (Gb l1 l2 xs ys) ⟨hl1,hl2,?_⟩;have z1:(tz1 s.heap l1).objs.size=s.heap.objs.size+1:=size_push ..;have z2:(tz2 s.heap l1 l2).objs.size=s.heap.objs.size+2:=(size_push ..).trans (by rw[z1]);have z3:(tz3 s.heap l1 l2).objs.size=s.heap.objs.size+3:=(size_push ..).trans (by rw[z2]);have z4:(tz4 s.heap l1 l2).objs.size=s.heap.objs.size+4:=(size_push ..).trans (by rw[z3]);have z5:(tz5 s.heap l1 l2).objs.size=s.heap.objs.size+5:=(size_push ..).trans (by rw[z4]);have g5:(tz5 s.heap l1 l2).get? (tz4 s.heap l1 l2).objs.size=_:=get?_push_size _ rfl;have g4:(tz5 s.heap l1 l2).get? (tz3 s.heap l1 l2).objs.size=_:=get?_push_of_some _ (get?_push_size _ rfl);have g3:(tz5 s.heap l1 l2).get? (tz2 s.heap l1 l2).objs.size=_:=get?_push_of_some _ (get?_push_of_some _ (get?_push_size _ rfl));have g2:(tz5 s.heap l1 l2).get? (tz1 s.heap l1).objs.size=_:=get?_push_of_some _ (get?_push_of_some _ (get?_push_of_some _ (get?_push_size _ rfl)));have g1:(tz5 s.heap l1 l2).get? s.heap.objs.size=_:=get?_push_of_some _ (get?_push_of_some _ (get?_push_of_some _ (get?_push_of_some _ (get?_push_size _ rfl))));have hk:∀c o,s.heap.get? c=some o->(tz5 s.heap l1 l2).get? c=some o:=fun c o e=>get?_push_of_some _ (get?_push_of_some _ (get?_push_of_some _ (get?_push_of_some _ (get?_push_of_some _ e))));rw[z4,z2,z3] at g5;rw[z3] at g4;rw[z2,z1] at g3;rw[z1] at g2;rw[z4];generalize tz5 s.heap l1 l2=h' at z5 g5 g4 g3 g2 g1 hk;exact⟨⟨_,g5,rfl⟩,h h' g5 g3 g4 ⟨_,g1,rfl,rfl⟩ ⟨_,g2,rfl,rfl⟩ z5 hk⟩
noncomputable def Itu (K:PySem.W.Frag)(a b:Addr):It:=
 ⟨fun i H=>∃xs ys x y,SqT K H a xs/\SqT K H b ys/\xs[i]?=some x/\ys[i]?=some y,
  fun i H v H'=>∃p x y,v=.ref p/\H p=none/\H'=upd H p (.tup [x,y])/\(∀xs,SqT K H a xs->xs[i]?=some x)/\∀ys,SqT K H b ys->ys[i]?=some y,
  fun i H=>∃xs ys,SqT K H a xs/\SqT K H b ys/\(xs[i]?=none\/ys[i]?=none)⟩
theorem Du {P:Program}{w:World}{K:PySem.W.Frag}{es:List Expr}{kk:Nat}{tpos:Pos}{z TI TO i1 i2 l1 l2:Addr}(D:ZipApart z TI TO i1 i2 l1 l2) :
  Turn P w K (.Tuple es kk tpos) (Itu K l1 l2) [z,TI,TO,i1,i2] z (fun i h=>IsZip h z TI TO .none/\IsPair h TI (.ref i1) (.ref i2)/\(∃a b,IsPair h TO a b)/\h.IsTupleIter i1 l1 i/\h.IsTupleIter i2 l2 i) where
 mem:=by simp
 obj:=fun i h st b hb=>by
  obtain⟨hz,hTI,⟨a,b',hTO⟩,⟨o1,e1,c1,d1⟩,⟨o2,e2,c2,d2⟩⟩:=st;simp only[mem_cons,not_mem_nil,or_false] at hb;rcases hb with rfl|rfl|rfl|rfl|rfl
  ·exact⟨_,hz,fun v q=>by cases q⟩
  ·exact⟨_,hTI,fun v q=>by cases q⟩
  ·exact⟨_,hTO,fun v q=>by cases q⟩
  ·exact⟨o1,e1,fun v q=>by rw[d1] at q;cases q⟩
  exact⟨o2,e2,fun v q=>by rw[d2] at q;cases q⟩
 keep:=fun i h h' st k=>by
  obtain⟨hz,hTI,⟨a,b',hTO⟩,h1,h2⟩:=st;exact⟨k z (by simp) _ hz,k TI (by simp) _ hTI,⟨a,b',k TO (by simp) _ hTO⟩,h1.at fun o e=>k i1 (by simp) o e,h2.at fun o e=>k i2 (by simp) o e⟩
 item:=by
  intro X hP hw hK hc i pins s σ H E I hf st hg;subst hP hw hK;obtain⟨xs,ys,x,y,q1,q2,hx,hy⟩:=hg;obtain⟨its1,rv1,p1,hz1⟩:=I.tuple q1;obtain⟨its2,rv2,p2,hz2⟩:=I.tuple q2;obtain⟨u1,hu1,ru1⟩:=rv1.get hx;obtain⟨u2,hu2,ru2⟩:=rv2.get hy;obtain⟨hz,hTI,⟨a,b',hTO⟩,h1,h2⟩:=st;refine iR D hz hTI hTO h1 h2 p1 p2 (x:=u1) (y:=u2) (by simpa using hu1) (by simpa using hu2) fun h' a1 a2 a3 a4 a5 a6 hk=>?_;have new:bI X.prog X.w (upd H s.heap.objs.size (.tup [x,y])) h' s.heap.objs.size (.tup [x,y]):=⟨by show 2<=sizeLine;decide,[u1,u2],.cons ru1 (.cons ru2 .nil),_,a5,rfl,_,rfl⟩;have I1:Inv X pins σ (upd H s.heap.objs.size (.tup [x,y])) { s with heap:=h' }:=I.Bq (t':=s.toks) (ch:=[z,TO,i1,i2]) (fun b hb=>hf b (by
   simp only[mem_cons,not_mem_nil,or_false] at hb |-;rcases hb with r|r|r|r <;> simp [r]))
   (fun b o hb e=>hk b o (fun q=>hb (by simp [q])) (fun q=>hb (by simp [q])) (fun q=>hb (by simp [q])) (fun q=>hb (by simp [q])) e) (le_refl _) new
  have hTI':IsPair h' TI (.ref i1) (.ref i2):=hk _ _ D.TIz D.TITO D.TIi1 D.TIi2 hTI;have hsz:∀b,b∈[z,TI,TO,i1,i2]->b≠s.heap.objs.size:=fun b hb=>by
   obtain⟨_,_,hlt,_⟩:=hf b hb;have lt:∃o,s.heap.get? b=some o:=by
    simp only[mem_cons,not_mem_nil,or_false] at hb;rcases hb with rfl|rfl|rfl|rfl|rfl
    ·exact⟨_,hz⟩
    ·exact⟨_,hTI⟩
    ·exact⟨_,hTO⟩
    ·obtain⟨o,e,_⟩:=h1;exact⟨o,e⟩
    obtain⟨o,e,_⟩:=h2;exact⟨o,e⟩
   obtain⟨o,e⟩:=lt;exact ne_of_lt (lt_size e)
  refine⟨_,rfl,wpAny_letOwnedTupleGo_zip (s:={ s with heap:=h' }) a1 fun h'' z2 sb=>?_⟩;have fz:=hf z (by simp);have I2:Inv X pins σ (upd H s.heap.objs.size (.tup [x,y])) { s with heap:=h'' }:=Inv.turned (s:={ s with heap:=h' }) (it:=z) (t':=s.toks) I1 (fun b o hb e=>(sb.2 b hb).trans e) (by rw[aG (hsz z (by simp))];exact fz.1) fz.2.1 fz.2.2.2.1 fz.2.2.2.2.1 fz.2.2.2.2.2;refine⟨.ref s.heap.objs.size,_,I2,rfl,⟨_,x,y,rfl,I.fresh,rfl,fun xs' q=>by rw[I.jH q q1];exact hx,fun ys' q=>by rw[I.jH q q2];exact hy⟩,
   ⟨z2,(sb.2 _ D.TIz).trans hTI',⟨_,_,(sb.2 _ D.TOz).trans a2⟩,a3.extBut sb.extBut D.i1z,a4.extBut sb.extBut D.i2z⟩,fun b hb=>by rw[aG (hsz b hb)];exact(hf b hb).1⟩
 done:=by
  intro X hP hw hK hc i pins s σ H E I hf st hg;subst hP hw hK;obtain⟨xs,ys,q1,q2,hx⟩:=hg;obtain⟨its1,rv1,p1,hz1⟩:=I.tuple q1;obtain⟨its2,rv2,p2,hz2⟩:=I.tuple q2;obtain⟨hz,hTI,⟨a,b',hTO⟩,h1,h2⟩:=st;have hend:its1.toArray[i]?=none\/its2.toArray[i]?=none:=by
   rcases hx with r|r
   ·exact .inl (by simpa using rv1.none_of r)
   exact .inr (by simpa using rv2.none_of r)
  refine ji (I.ok.hd hc) D hz hTI hTO h1 h2 p1 p2 hend fun h' hk=>⟨rfl,?_⟩;exact I.lV (t':=s.toks) (ch:=[z,TO,i1,i2]) (fun b hb=>hf b (by
   simp only[mem_cons,not_mem_nil,or_false] at hb |-;rcases hb with r|r|r|r <;> simp [r]))
   (fun b o hb e=>hk b o (fun q=>hb (by simp [q])) (fun q=>hb (by simp [q])) (fun q=>hb (by simp [q])) (fun q=>hb (by simp [q])) e)
 self:=fun _ _ _ _ _ st h=>wpAny_pyIter_zip st.1 h
noncomputable def zpq (K:PySem.W.Frag)(o1 o2:Option HO)(a b:Addr)(H:Hp)(R:It->Hp->Prop):Prop:=match o1,o2 with
 | some (.lst _),some (.lst _)=>R (Itz K a b) H
 | some (.tup _),some (.tup _)=>R (Itu K a b) H
 | _,_=>False
noncomputable def zpK (K:PySem.W.Frag)(vs:List V)(H:Hp)(R:It->Hp->Prop):Prop:=match vs with
 | [.ref a,.ref b]=>zpq K (H a) (H b) a b H R
 | _=>False
noncomputable def JS (K:PySem.W.Frag)(ta:TA):TI:=fun σ H R=>ta σ H fun vs H1=>zpK K vs H1 R
theorem JR (K:PySem.W.Frag)(ta:TA)(σ:St)(H:Hp)(R:It->Hp->Prop):JS K ta σ H R=ta σ H fun vs H1=>zpK K vs H1 R:=rfl
theorem PK (K:PySem.W.Frag)(a b:Addr)(H:Hp)(R:It->Hp->Prop):zpK K [.ref a,.ref b] H R=zpq K (H a) (H b) a b H R:=rfl
theorem PJ (K:PySem.W.Frag)(xs ys:List V)(a b:Addr)(H:Hp)(R:It->Hp->Prop):zpq K (some (.lst xs)) (some (.lst ys)) a b H R=R (Itz K a b) H:=rfl
theorem PB (K:PySem.W.Frag)(xs ys:List V)(a b:Addr)(H:Hp)(R:It->Hp->Prop):zpq K (some (.tup xs)) (some (.tup ys)) a b H R=R (Itu K a b) H:=rfl
section
variable {X:Cx}
theorem Mv {es:List Expr}{kk:Nat}{tpos:Pos}{a b:Expr}{ta:TA}{p pos:Pos}(hg:Gl X "zip") (hm:X.mg "zip" = none) (ha:PA X [a,b] ta) (hs:starEach [a,b] X.env=[(false,eval a X.env),(false,eval b X.env)]:=by rfl) (hs2:starEach [b] X.env=[(false,eval b X.env)]:=by rfl) :
  PI X (.Tuple es kk tpos) (.Call (.Name "zip" p) [a,b] [] pos) (JS X.K ta):=by
 intro pins s σ H R I h;refine Call_ (eU I hg hm boot_zip (PyProof.Rows.callWith_type1 (thA (ha pos pins s σ H _ I h) fun us s1 vs H1 I1 r1 q1=>?_) (by rw[hs,hs2]) (by rw[hs2];rfl)));replace q1:zpK X.K vs H1 R:=q1;unfold zpK at q1;split at q1
 ·rename_i l1 l2;unfold zpq at q1;cases r1 with
  | cons r rr=>
   cases rr with
   | cons r' rr=>
    cases rr;cases r;cases r';have apart:l1<s1.heap.objs.size->l2<s1.heap.objs.size->ZipApart (s1.heap.objs.size+4) (s1.heap.objs.size+2) (s1.heap.objs.size+3) s1.heap.objs.size (s1.heap.objs.size+1) l1 l2:=by
     generalize s1.heap.objs.size=n;intro lt1 lt2;have lt1':@LT.lt Nat _ l1 n:=lt1;have lt2':@LT.lt Nat _ l2 n:=lt2;constructor <;> (intro(z:@Eq Nat _ _);omega)
    have fp:∀b∈[s1.heap.objs.size+4,s1.heap.objs.size+2,s1.heap.objs.size+3,s1.heap.objs.size,s1.heap.objs.size+1],gR X pins H1 b:=fun b hb=>by
     have hle:s1.heap.objs.size<=b:=by
      simp only[mem_cons,not_mem_nil,or_false] at hb;rcases hb with rfl|rfl|rfl|rfl|rfl <;> simp
     exact I1.rY hle (I1.hok.fresh hle)
    split at q1
    ·rename_i xs ys e1 e2;obtain⟨its1,rv1,p1,hz1⟩:=I1.list (SqL.of e1);obtain⟨its2,rv2,p2,hz2⟩:=I1.list (SqL.of e2);have lt1:l1<s1.heap.objs.size:=by obtain⟨_,e,_⟩:=p1.isList;exact lt_size e
     have lt2:l2<s1.heap.objs.size:=by obtain⟨_,e,_⟩:=p2.isList;exact lt_size e
     refine call_zip_2 p1.isList p2.isList fun h' b1 b2 b3 b4 b5 b6 hk=>?_;refine wpAny_pyIter_zip (s:={ s1 with heap:=h' }) b1 ?_;exact⟨_,_,_,_,H1,rfl,I1.kept (t':=s1.toks) hk,Gj (apart lt1 lt2),⟨b1,b2,⟨_,_,b3⟩,b4,b5⟩,fp,q1⟩
    ·rename_i xs ys e1 e2;obtain⟨its1,rv1,p1,hz1⟩:=I1.tuple (SqT.of e1);obtain⟨its2,rv2,p2,hz2⟩:=I1.tuple (SqT.of e2);have lt1:l1<s1.heap.objs.size:=by obtain⟨_,e,_⟩:=p1;exact lt_size e
     have lt2:l2<s1.heap.objs.size:=by obtain⟨_,e,_⟩:=p2;exact lt_size e
     refine oA p1 p2 fun h' b1 b2 b3 b4 b5 b6 hk=>?_;refine wpAny_pyIter_zip (s:={ s1 with heap:=h' }) b1 ?_;exact⟨_,_,_,_,H1,rfl,I1.kept (t':=s1.toks) hk,Du (apart lt1 lt2),⟨b1,b2,⟨_,_,b3⟩,b4,b5⟩,fp,q1⟩
    exact q1.elim
 exact q1.elim
theorem Lz {es:List Expr}{kk:Nat}{tpos:Pos}{a b:Expr}{t:TA}{p pos:Pos}(hg:Gl X "zip") (hm:X.mg "zip" = none) (ha:QA X [a,b] t) (hs:starEach [a,b] X.env=[(false,eval a X.env),(false,eval b X.env)]:=by rfl) (hs2:starEach [b] X.env=[(false,eval b X.env)]:=by rfl):QI X (.Tuple es kk tpos) (.Call (.Name "zip" p) [a,b] [] pos) (JS X.K t):=⟨Mv hg hm ha.h hs hs2⟩
end
noncomputable def jK (n:Nat):Sp:=fun vs H Q _=>∃x y ok d,vs=[x,y]/\aH ok H x d/\aH ok H y d/\d.depth<n/\∀H',Same H H'->Q (.bl true) H'
theorem t7 {d:PyData}{ds:List PyData}(h:d∈ds):d.depth<(PyData.list ds).depth/\d.depth<(PyData.tuple ds).depth:=by
 have:=mW h;rw[PyData.depth.eq_1,PyData.depth.eq_2];omega
noncomputable def rd8:=And.intro @JR (And.intro @PK (And.intro @PJ @PB))
section
variable {K:PySem.W.Frag}{mp:List (Option Nat)}{g:TG}{tc:TT}{te:TE}{σ:St}{H:Hp}{Q:VK}{R:It->Hp->Prop}
theorem Ow {a b:Addr}{xs ys:List V}(hR:R=yQ mp g tc te σ Q)(hz:xs.length<=sizeLine)(hl2:xs.length=ys.length)(Pv:Nat->List V->St->Hp->Prop)(h0:Pv 0 [] (fY mp σ) H)(hl:∀i acc τ H,Pv i acc τ H->acc.length<=i)
  (hq:∀i acc τ H,Pv i acc τ H->H a=some (.lst xs)/\H b=some (.lst ys))
  (hs:∀i x y acc τ H p,xs[i]?=some x->ys[i]?=some y->Pv i acc τ H->H p=none->g (.ref p) τ (upd H p (.tup [x,y])) fun τ1 H4=>tc τ1 H4 fun b H5=>if b=true then te τ1 H5 fun v H6=>Pv (i+1) (acc++[v]) τ1 H6 else Pv (i+1) acc τ1 H5)
  (hd:∀acc τ H d,Pv xs.length acc τ H->H d=none->Q (.ref d) (upd H d (.lst acc))):R (Itz K a b) H:=by
 refine mX hR xs.length hz Pv h0 hl (fun i acc τ H hi p=>?_) (fun acc τ H p=>?_) (fun i acc τ H x H3 hi p y=>?_) hd
 ·obtain⟨e1,e2⟩:=hq i acc τ H p;exact⟨xs,ys,_,_,SqL.of e1,SqL.of e2,getElem?_eq_getElem hi,getElem?_eq_getElem ω⟩
 ·obtain⟨e1,e2⟩:=hq _ acc τ H p;exact⟨xs,ys,SqL.of e1,SqL.of e2,.inl (getElem?_eq_none (le_refl _))⟩
 obtain⟨e1,e2⟩:=hq i acc τ H p;obtain⟨q,x1,y1,rfl,hq1,rfl,hx,hy⟩:=y;exact hs i x1 y1 acc τ H q (hx _ (SqL.of e1)) (hy _ (SqL.of e2)) p hq1
theorem Ov {a b:Addr}{xs ys:List V}(hR:R=yQ mp g tc te σ Q)(hz:xs.length<=sizeLine)(hl2:xs.length=ys.length)(Pv:Nat->List V->St->Hp->Prop)(h0:Pv 0 [] (fY mp σ) H)(hl:∀i acc τ H,Pv i acc τ H->acc.length<=i)
  (hq:∀i acc τ H,Pv i acc τ H->H a=some (.tup xs)/\H b=some (.tup ys))
  (hs:∀i x y acc τ H p,xs[i]?=some x->ys[i]?=some y->Pv i acc τ H->H p=none->g (.ref p) τ (upd H p (.tup [x,y])) fun τ1 H4=>tc τ1 H4 fun b H5=>if b=true then te τ1 H5 fun v H6=>Pv (i+1) (acc++[v]) τ1 H6 else Pv (i+1) acc τ1 H5)
  (hd:∀acc τ H d,Pv xs.length acc τ H->H d=none->Q (.ref d) (upd H d (.lst acc))):R (Itu K a b) H:=by
 refine mX hR xs.length hz Pv h0 hl (fun i acc τ H hi p=>?_) (fun acc τ H p=>?_) (fun i acc τ H x H3 hi p y=>?_) hd
 ·obtain⟨e1,e2⟩:=hq i acc τ H p;exact⟨xs,ys,_,_,SqT.of e1,SqT.of e2,getElem?_eq_getElem hi,getElem?_eq_getElem ω⟩
 ·obtain⟨e1,e2⟩:=hq _ acc τ H p;exact⟨xs,ys,SqT.of e1,SqT.of e2,.inl (getElem?_eq_none (le_refl _))⟩
 obtain⟨e1,e2⟩:=hq i acc τ H p;obtain⟨q,x1,y1,rfl,hq1,rfl,hx,hy⟩:=y;exact hs i x1 y1 acc τ H q (hx _ (SqT.of e1)) (hy _ (SqT.of e2)) p hq1
end
inductive RowC where
 | one (n t:Int)
 | rng (a b t:Int)
 | low (n t:Int)
 | msk (lo wd bits t:Int)
 | tab (lo:Int) (gs:List Int)
 | pik (l:Int)
noncomputable def scV:PyData->Option V
 | .int i=>some (.int i)
 | .str z=>some (.str z)
 | _=>none
theorem aH.sc {ok:Addr->Prop}{H:Hp}{x v:V}{d:PyData}(t:aH ok H x d)(h:scV d=some v):x=v:=by
 cases t with
 | int i=>exact Option.some.inj h
 | str z=>exact Option.some.inj h
 | _=>cases h
theorem aJ.sc {ok:Addr->Prop}{H:Hp}:∀{xs vs:List V}{ds:List PyData},aJ ok H xs ds->ds.map scV=vs.map some->xs=vs
 | _,[],_,.nil,_=>rfl
 | _,v::vs,_,.nil,h=>by cases h
 | _,[],_,.cons _ _,h=>by cases h
 | _,v::vs,_,.cons t ts,h=>by
  rw[map_cons,map_cons] at h;injection h with h1 h2;rw[t.sc h1,ts.sc h2]
theorem aJ.uncons {ok:Addr->Prop}{H:Hp}{xs:List V}{d:PyData}{ds:List PyData}(t:aJ ok H xs (d::ds)):∃x r,xs=x::r/\aH ok H x d/\aJ ok H r ds:=by
 cases t with
 | cons h r=>exact⟨_,_,rfl,h,r⟩
theorem aH.tupOf {ok:Addr->Prop}{H:Hp}{x:V}{ds:List PyData}(t:aH ok H x (.tuple ds)):∃p xs,x=.ref p/\H p=some (.tup xs)/\aJ ok H xs ds:=by
 cases t with
 | tup o e z ts=>exact⟨_,_,rfl,e,ts⟩
section
variable {X:Cx}{e o:Expr}{te to:TE}{pos:Pos}
theorem HY {i:Nat}{x:Str}{op:Operator}{ti:TIp}{pos':Pos}(h:Nm X.N X.env.scope i x)(hN:X.N.Nodup)(he:QE X e te)(ho:PIp X op ti)(hf:X.fn x=true\/X.env.scope.names.lookup x=some .local:=by exact .inl rfl) :
  QS X (.AugAssign (.Name x pos') op e pos) (Qn i te ti):=⟨Ri hN h.hN h.hv he.h ho hf⟩
noncomputable def yX (ta:TA):TE:=fun σ H Q=>ta σ H fun vs H1=>∃j:Int,vs=[.int j]/\(-(2^62)<=j/\j<2^62)/\(j-0).toNat<=sizeLine/\∀p,H1 p=none->Q (.ref p) (upd H1 p (.lst (zf 0 (j-0).toNat)))
theorem Iw {a:Expr}{ta:TA}{p p2 pos pos2:Pos}(hc:X.calm=true) (hgl:Gl X "list") (hml:X.mg "list" = none) (hg:Gl X "range") (hm:X.mg "range" = none) (ha:PA X [a] ta)
  (hs:starEach [a] X.env=[(false,eval a X.env)]:=by rfl)
  (he:starEach [.Call (.Name "range" p2) [a] [] pos2] X.env=[(false,eval (.Call (.Name "range" p2) [a] [] pos2) X.env)]:=by rfl) :
  PE X (.Call (.Name "list" p) [.Call (.Name "range" p2) [a] [] pos2] [] pos) (yX ta):=by
 intro pins s σ H Q I h;refine wpAny_Call_Name_kw (eU I hgl hml boot_list ?_ δ δ);refine PyProof.Rows.callWith_type1 ?_ he rfl;rw[he];show wpAny _ _ (spliced ((false,eval (.Call (.Name "range" p2) [a] [] pos2) X.env)::[])) _ _ s;refine Calls.spliced_cons ?_;refine Call_ (eU I hg hm boot_range (PyProof.Rows.callWith_type1 (thA (ha pos2 pins s σ H _ I h) fun us s1 vs H1 I1 r1 q1=>?_) hs rfl));obtain⟨j,e,⟨q3,q4⟩,hz,q⟩:=q1;have q1:(-(2^62):Int)<=0:=by decide
 have q2:(0:Int)<2^62:=by decide
 subst e;cases r1 with
 | cons r' rr=>
  cases rr;obtain⟨t',rfl⟩:=r';refine call_range_1 (Calls.spliced_nil ?_);refine call_list_range (n:=(j-0).toNat) (I1.ok.hd hc) (IsRange.new ..) (small_one q1 q2 q3 q4) (by rw[rangeSize_one];split <;> omega) (le_trans hz Sv) fun h' tk acc' c' kp e it=>?_
  have I2:Inv X pins σ H1 { s1 with heap:=s1.heap.push { cls:=.type "range",data:=.fields #[.int 0 s1.toks,.int j t',.int 1 (s1.toks+1)] },toks:=s1.toks+1+1 }:=I1.kept fun b o e=>get?_push_of_some _ e;have hf:H1 (s1.heap.push { cls:=.type "range",data:=.fields #[.int 0 s1.toks,.int j t',.int 1 (s1.toks+1)] }).objs.size=none:=I2.hok.fresh (le_refl _);refine⟨.ref _,_,I2.laid (t':=tk) kp (le_refl _) (show bI X.prog X.w _ h' _ (.lst (zf 0 (j-0).toNat)) from⟨?_,acc'.toList,c',?_,by simpa using e⟩),rfl,q _ hf⟩
  ·simpa [zf] using hz
  obtain⟨it1,it2⟩:=it;refine Bp (by simp [zf,it1]) fun k x u h1 h2=>?_;have h2':acc'[k]?=some u:=by simpa using h2
  obtain⟨t9,rfl⟩:=it2 k u h2';unfold zf at h1;rw[getElem?_map] at h1;have hk:k<(j-0).toNat:=by
   rcases lt_or_ge k (j-0).toNat with z|z
   ·exact z
   rw[getElem?_eq_none (by simpa using z)] at h1;cases h1
  rw[List.getElem?_range hk] at h1;cases h1;exact⟨t9,by rw[Int.mul_one]⟩
theorem Ib {a:Expr}{ta:TA}{p p2 pos pos2:Pos}(hc:X.calm=true) (hgl:Gl X "list") (hml:X.mg "list" = none) (hg:Gl X "range") (hm:X.mg "range" = none) (ha:QA X [a] ta)
  (hs:starEach [a] X.env=[(false,eval a X.env)]:=by rfl)
  (he:starEach [.Call (.Name "range" p2) [a] [] pos2] X.env=[(false,eval (.Call (.Name "range" p2) [a] [] pos2) X.env)]:=by rfl) :
  QE X (.Call (.Name "list" p) [.Call (.Name "range" p2) [a] [] pos2] [] pos) (yX ta):=⟨Iw hc hgl hml hg hm ha.h hs he⟩
noncomputable def Dc (ws:List Str)(w:Str)(j:Nat):Prop:=ws[j]?=some w/\∀m,m<j->ws[m]?≠some w
end
theorem uE (l:Addr)(items:Array Value)(x:Value)(e:Value->Bool)(j:Nat)(hj:j<items.size)(h1:e items[j]=true)(h2:∀m (hm:m<items.size),m<j->e items[m]=false) :
  Meets (Builtin.«tuple.index» { pos:=[Value.ref l,x] }) fun A R s=>s.heap.IsTuple l items/\(∀y,y∈items->SeqAt.EqAt A.in1 s y x (e y))/\R (.ok (.ret (.int j s.toks))) { s with toks:=s.toks+1 }:=by
 refine Meets.of_wp fun prog w A R s h=>?_;obtain⟨⟨o,ho,hc,n,hd⟩,heq,hR⟩:=h;unfold Builtin.«tuple.index» selfAndSome;refine wpAny_bind (wpAny_bind (wpAny_of_eq (a:=()) rfl ?_));refine wpAny_bind (wpAny_of_eq (a:=()) rfl (wpAny_pure ?_));unfold Builtin.Tuple.tupleItemsOf;refine wpAny_bind (wpAny_bind (wpAny_seqItems ho hd (wpAny_pure ?_)));refine wpAny_bind (wpAny_pure ?_);refine wpAny_bind (wpAny_pure ?_);refine wpAny_bind ?_;rw[Std.Legacy.Range.forIn_eq_forIn_range'];have hsz:[:min items.size items.size].size=items.size:=by simp [Std.Legacy.Range.size]
 rw[hsz];refine wpAny_forIn_list _ (fun rest b s'=>b=(none,())/\s'=s/\∃i,rest=List.range' i (items.size-i)/\i<=j) _ ?_ ?_ _ _ ⟨rfl,rfl,0,rfl,zero_le _⟩
 ·rintro i rest b s' ⟨rfl,rfl,i0,hrest,hij⟩;obtain⟨k,hk⟩:∃k,items.size-i0=k+1:=⟨items.size-i0-1,ω⟩;rw[hk,List.range'_succ] at hrest;cases hrest;have hi:i<items.size:=ω;have he:items[i]?=some items[i]:=Array.getElem?_eq_getElem hi;simp only[he];refine wpAny_bind (heq _ (Array.getElem_mem hi) _ _ _ _ ?_);by_cases hj2:i=j
  ·subst hj2;rw[h1,if_pos rfl];refine wpAny_bind ?_;unfold retInt;refine wpAny_bind (wpAny_mkInt ?_);exact wpAny_pure (wpAny_pure (wpAny_pure ⟨_,rfl,hR⟩))
  rw[h2 i hi ω,if_neg δ];exact wpAny_pure ⟨rfl,rfl,i+1,by rw[show items.size-(i+1)=k by omega],ω⟩
 rintro b s' ⟨rfl,rfl,i,hrest,hij⟩;obtain⟨k,hk⟩:∃k,items.size-i=k+1:=⟨items.size-i-1,ω⟩;rw[hk,List.range'_succ] at hrest;cases hrest
section
variable {X:Cx}{e o:Expr}{te to:TE}{pos:Pos}
noncomputable def KTup (K:PySem.W.Frag) (p:Addr) (xs:List V):Prop:=∃(o:Obj)(its:Array Value)(n:Nat),K.lookup p=some o/\o.cls=.type "tuple" /\ o.dict=none/\o.data=.seq its n/\its.size<=sizeLine/\Vals xs its.toList
theorem KTup.sq {K:PySem.W.Frag}{p:Addr}{xs:List V}{H:Hp}(h:KTup K p xs):SqT K H p xs:=by
 obtain⟨o,its,n,h1,h2,_,h3,h4,h5⟩:=h;exact .inr ⟨o,its,n,h1,h2,h3,h4,h5⟩
noncomputable def SqB (b:Bool)(K:PySem.W.Frag)(H:Hp)(p:Addr)(xs:List V):Prop:=match b with
 | true=>SqL K H p xs
 | false=>KTup K p xs
noncomputable def Gz (K:PySem.W.Frag)(to te:TE):TE:=fun σ H Q=>to σ H fun x H1=>∃(p:Addr)(ws:List Str)(b:Bool),x=.ref p/\SqB b K H1 p (ws.map V.str)/\te σ H1 fun y H2=>∃w j,y=.str w/\SqB b K H2 p (ws.map V.str)/\Dc ws w j/\Q (.int (j:Nat)) H2
theorem kY {ws:List Str}{its:List Value}(r:Vals (ws.map V.str) its){i:Nat}{v:Value}(h:its[i]?=some v):∃w t,ws[i]?=some w/\v=Value.str w t:=by
 have hl:=r.length;rw[length_map] at hl;have hi:=(List.getElem?_eq_some_iff.mp h).1;have hx:(ws.map V.str)[i]?=some (V.str ws[i]):=by rw[getElem?_map,getElem?_eq_getElem ω];rfl
 obtain⟨u,hu,ru⟩:=r.get hx;rw[hu] at h;cases h;obtain⟨t,rfl⟩:=ru;exact⟨ws[i],t,getElem?_eq_getElem ω,rfl⟩
theorem MT {apos cpos:Pos}(hu:X.A.in1.units<cLine)(ho:PE X o to)(he:PE X e te)
  (hbase:attributeBase o "index" X.env (eval o X.env)=eval o X.env:=by rfl)
  (hfew:((backTo cpos (starEach [e] X.env)).all (fun x=>!x.1)&&(backToKw cpos (keywordEach [] X.env)).all (fun x=>x.1.isSome)
   && decide ([e].length+([]:List Keyword).length+(if ([]:List Keyword).isEmpty then 0 else 1)<30))=true:=by rfl)
  (hline:(apos.endLine == cpos.line)=true:=by rfl) (hs:starEach [e] X.env=(false,eval e X.env)::starEach [] X.env:=by rfl) (hplain:(backTo cpos (starEach [] X.env)).any (·.1)=false:=by rfl) :
  PE X (.Call (.Attribute o "index" apos) [e] [] cpos) (Gz X.K to te):=by
 intro pins s σ H Q I h;refine wpAny_Call_method_late hbase hfew hline rfl (thE (ho pins s σ H _ I h) fun v s1 x H1 I1 r1 q=>?_);obtain⟨p,ws,b,rfl,hq,q⟩:=q;have key:∀{its:List Value}{w:Str}{j:Nat}{u:Value}{s2:Shared},Vals (ws.map V.str) its->Dc ws w j->RelV (.str w) u->∃(g:Value->Bool)(hj:j<its.toArray.size),g its.toArray[j]=true/\(∀m (hm:m<its.toArray.size),m<j->g its.toArray[m]=false)/\∀y,y∈its.toArray->SeqAt.EqAt X.A.in1 s2 y u (g y):=fun {its w j u s2} rv hf ru=>by
  obtain⟨t,rfl⟩:=ru;have hl:=rv.length;rw[length_map] at hl;have hj:j<its.length:=by have:=(List.getElem?_eq_some_iff.mp hf.1).1;omega
  refine⟨fun y=>match y with | .str z _=>z == w|_=>false,by simpa using hj,?_,fun m hm hmj=>?_,fun y hy=>?_⟩
  ·obtain⟨w',t',h1,h2⟩:=kY rv (getElem?_eq_getElem hj);rw[hf.1] at h1;cases h1;have:its.toArray[j]=Value.str w t':=by simpa using h2
   rw[this];simp
  ·have hm':m<its.length:=by simpa using hm
   obtain⟨w',t',h1,h2⟩:=kY rv (getElem?_eq_getElem hm');have:its.toArray[m]=Value.str w' t':=by simpa using h2
   rw[this];have hne:w'≠w:=fun z=>hf.2 m hmj (by rw[h1,z]);simpa using hne
  have hy':y∈its:=by simpa using hy
  obtain⟨m,hm,em⟩:=mem_iff_getElem.mp hy';obtain⟨w',t',h1,h2⟩:=kY rv (getElem?_eq_getElem hm);rw[em] at h2;rw[h2];exact SeqAt.EqAt.str_str w' t' w t
 cases b with
 | true=>
  obtain⟨h1,h2⟩:=uD (T := "list") I1 r1 (.inl ⟨rfl,_,hq⟩);refine⟨"list","list.index",PySem.F.plainAttrs_list,PySem.F.slot_list_index,PySem.F.type_list_index,h1,h2,?_⟩;rw[hs];refine Calls.callWith_builtin (by show(false||(backTo cpos (starEach [] X.env)).any (·.1))=false;rw[hplain] <;> rfl) (Calls.evalArgs_plain ?_)
  refine Calls.spliced_cons (thn (he pins s1 σ H1 _ I1 q) fun u s2 ⟨y,H2,I2,r2,w,j,ey,hq2,hf,q3⟩=>Calls.spliced_nil ?_);subst ey;cases r1;obtain⟨its,rv,pl,hz⟩:=I2.list hq2;obtain⟨g,hj,g1,g2,g3⟩:=key (s2:=s2) rv hf r2;obtain⟨ob,n,eo,ec,ed,es⟩:=pl;cases ob with
  | mk cls dict data slots=>
   cases ec;cases es;have hj2:((j:Nat):Int)<2^63-1:=by
    rw[size_toArray] at hj;have hl:=rv.length;have:=sizeLine_eq;omega
   refine call_meets F.slot_list_index ⟨_,eo,rfl⟩ F.entry_list_index (F.args_list_index_2 _ _) (SeqAt.list_indexAt p its.toArray n _ _ u g j hj hj2 g1 g2) ⟨eo,g3,?_⟩;exact⟨.int (j:Nat),H2,I2.tok _,⟨_,rfl⟩,q3⟩
 | false=>
  obtain⟨h1,h2⟩:=uD (T := "tuple") I1 r1 (.inr (.inl ⟨rfl,by obtain⟨o,_,_,k1,k2,k3,_⟩:=hq;exact⟨o,k1,k2,k3⟩⟩));refine⟨"tuple","tuple.index",PySem.F.plainAttrs_tuple,PySem.F.slot_tuple_index,PySem.F.type_tuple_index,h1,h2,?_⟩;rw[hs];refine Calls.callWith_builtin (by show(false||(backTo cpos (starEach [] X.env)).any (·.1))=false;rw[hplain] <;> rfl) (Calls.evalArgs_plain ?_)
  refine Calls.spliced_cons (thn (he pins s1 σ H1 _ I1 q) fun u s2 ⟨y,H2,I2,r2,w,j,ey,hq2,hf,q3⟩=>Calls.spliced_nil ?_);subst ey;cases r1;obtain⟨its,rv,pl,hz⟩:=I2.tuple (KTup.sq hq2);obtain⟨g,hj,g1,g2,g3⟩:=key (s2:=s2) rv hf r2;have pl':s2.heap.IsTuple p its.toArray:=pl;obtain⟨ob,eo,ec,n,ed⟩:=id pl';refine call_meets F.slot_tuple_index ⟨_,eo,ec⟩ F.entry_tuple_index (F.args_tuple_index_2 _ _) (uE p its.toArray u g j hj g1 g2) ⟨pl',g3,?_⟩;exact⟨.int (j:Nat),H2,I2.tok _,⟨_,rfl⟩,q3⟩
theorem Ma {apos cpos:Pos}(hu:X.A.in1.units<cLine)(ho:QE X o to)(he:QE X e te)
  (hbase:attributeBase o "index" X.env (eval o X.env)=eval o X.env:=by rfl)
  (hfew:((backTo cpos (starEach [e] X.env)).all (fun x=>!x.1)&&(backToKw cpos (keywordEach [] X.env)).all (fun x=>x.1.isSome)
   && decide ([e].length+([]:List Keyword).length+(if ([]:List Keyword).isEmpty then 0 else 1)<30))=true:=by rfl)
  (hline:(apos.endLine == cpos.line)=true:=by rfl) (hs:starEach [e] X.env=(false,eval e X.env)::starEach [] X.env:=by rfl) (hplain:(backTo cpos (starEach [] X.env)).any (·.1)=false:=by rfl) :
  QE X (.Call (.Attribute o "index" apos) [e] [] cpos) (Gz X.K to te):=⟨MT hu ho.h he.h hbase hfew hline hs hplain⟩
end
noncomputable def rd9:=And.intro @yX.eq_1 (And.intro @Qn.eq_1 @ipI.eq_1)
inductive Pl where
 | pick (l:Int)
 | one (k:Nat) (r:Pl)
 | wit (k:Nat) (r:Pl)
 | low (k:Nat) (a b:Pl)
 | msk (l:Int) (r:Pl)
 | tab
noncomputable def plD:Pl->PyData
 | .pick l=>.tuple [.str "pick",.int l]
 | .one k r=>.tuple [.str "is",.int (k:Int),plD r]
 | .wit k r=>.tuple [.str "within",.int (k:Int),plD r]
 | .low k a b=>.tuple [.str "below",.int (k:Int),plD a,plD b]
 | .msk l r=>.tuple [.str "mask",.int l,plD r]
 | .tab=>.tuple [.str "table"]
noncomputable def bG:Pl->Nat
 | .pick _=>1
 | .one _ r=>bG r+1
 | .wit _ r=>bG r+1
 | .low _ a b=>bG a+bG b+1
 | .msk _ r=>bG r+1
 | .tab=>1
noncomputable abbrev Sts:=List (Int×Int×Int)
noncomputable def cO (ss:Sts)(k:Nat):Int×Int×Int:=ss.getD k (0,0,0)
structure Lf (ss:Sts)(left:List Nat):Prop where
 ne:left≠[]
 lt:∀k∈left,k<ss.length
 up:left.Pairwise (· < ·)
noncomputable def v7 (ss:Sts):Pl->List Nat->Prop
 | .pick _,left=>Lf ss left
 | .tab,left=>Lf ss left
 | .one k r,left=>Lf ss left/\v7 ss r (left.filter (·≠k))
 | .wit k r,left=>Lf ss left/\v7 ss r (left.filter (·≠k))
 | .low k a b,left=>Lf ss left/\v7 ss a (left.filter (· < k))/\v7 ss b (left.filter (k<=·))
 | .msk l r,left=>Lf ss left/\v7 ss r (left.filter fun k=>(cO ss k).2.2≠l)
noncomputable def jT (ss:Sts)(f:List Nat->Pl->Int):Pl->List Nat->Int
 | .pick l,left=>f left (.pick l)
 | .tab,left=>f left .tab
 | .one k r,left=>f left (.one k r)+jT ss f r (left.filter (·≠k))
 | .wit k r,left=>f left (.wit k r)+jT ss f r (left.filter (·≠k))
 | .low k a b,left=>f left (.low k a b)+jT ss f a (left.filter (· < k))+jT ss f b (left.filter (k<=·))
 | .msk l r,left=>f left (.msk l r)+jT ss f r (left.filter fun k=>(cO ss k).2.2≠l)
theorem uG {ss:Sts}{k:Nat}(h:k<ss.length):ss[k]?=some (cO ss k):=by
 unfold cO;rw[List.getD_eq_getElem?_getD,getElem?_eq_getElem h];rfl
theorem aJ.stN {ok:Addr->Prop}{H:Hp}{xs:List V}{ss:Sts}(t:aJ ok H xs (ss.map stD)){k:Nat}(h:k<ss.length):∃a,atI xs (k:Int)=some (.ref a)/\H a=some (.tup [.int (cO ss k).1,.int (cO ss k).2.1,.int (cO ss k).2.2]):=by
 have hl:=t.length;rw[length_map] at hl;have hx:xs[k]?=some xs[k]:=getElem?_eq_getElem ω;obtain⟨a,s,h1,_,h2,h3⟩:=t.st hx;rw[uG h] at h2;cases h2;refine⟨a,?_,h3⟩;rw[<- h1];exact dh hx
noncomputable def nv (left:List Nat):List V:=left.map fun(k:Nat)=>V.int (k:Int)
theorem jb (left:List Nat):(nv left).length=left.length:=by unfold nv;rw[length_map]
theorem zL {left:List Nat}{i:Nat}{x:V}(h:(nv left)[i]?=some x):∃k,left[i]?=some k/\x=.int (k:Int):=by
 unfold nv at h;rw[getElem?_map] at h;cases e:left[i]? with
 | none=>rw[e] at h;cases h
 | some k=>rw[e] at h;cases h;exact⟨k,rfl,rfl⟩
theorem Jf (a b:List Nat):nv (a++b)=nv a++nv b:=by unfold nv;rw[map_append]
theorem J9 (xs:List V)(n:Nat)(h:n<=xs.length):nW xs (some (n:Int)) none=xs.drop n:=by
 unfold nW;have e1:HT.sIx xs.length 0 (some (n:Int))=n:=by
  simp only[HT.sIx];split
  ·omega
  omega
 have e2:HT.sIx xs.length xs.length none=xs.length:=by simp [HT.sIx]
 rw[e1,e2];exact take_of_length_le (by rw[length_drop];exact le_refl _)
noncomputable def Vx:Pl->Nat
 | .pick _=>0
 | .one _ _=>0
 | .wit _ _=>1
 | .low _ _ _=>2
 | .msk _ _=>3
 | .tab=>4
noncomputable def sJ:List Str:=["is","within","below","mask","table"]
theorem wg {zs:List Int}{i:Nat}(h:i<zs.length):atI (zs.map V.int) (i:Int)=some (.int (zs.getD i 0)):=by
 refine dh ?_;rw[getElem?_map,getElem?_eq_getElem h,List.getD_eq_getElem?_getD,getElem?_eq_getElem h];rfl
theorem Nt (l:List Nat):(nv l).all fu=true:=by
 unfold nv;rw[all_map,all_eq_true];intro x _;rfl
theorem R0 {l:List Nat}(h:l≠[]):eqL (nv l) []=false:=by
 cases l with
 | nil=>exact absurd rfl h
 | cons a l=>rfl
noncomputable def sumK (ws:List Int)(left:List Nat):Int:=(left.map fun k=>ws.getD k 0).sum
noncomputable def dH (ws zs:List Int)(left:List Nat):Pl->Int
 | .pick _=>0
 | p=>zs.getD (Vx p) 0*sumK ws left
noncomputable def Few (zs:List Int):Prop:=∀z∈zs,-(2^40)<z/\z<2^40
noncomputable def GX:Sp:=fun vs H Q _=>∃(s p:V)(wa z:Addr)(ok:Addr->Prop)(ss:Sts)(ws zs:List Int)(pl:Pl),vs=[s,.ref wa,.ref z,p]/\oE ok H/\aH ok H s (.list (ss.map stD))/\aH ok H p (plD pl)/\H wa=some (.lst (ws.map V.int))/\ws.length=ss.length/\H z=some (.tup (zs.map V.int))/\zs.length=5/\Few zs/\ss.length<=60/\bG pl<=4000/\v7 ss pl (List.range ss.length) /\
 ∀H',Same H H'->Q (.int (jT ss (dH ws zs) pl (List.range ss.length))) H'
noncomputable def cY (ss:Sts)(k:Nat):Pl->List Nat
 | .pick _=>[]
 | .tab=>[4]
 | .one j r=>0::(if k=j then [] else cY ss k r)
 | .wit j r=>1::(if k=j then [] else cY ss k r)
 | .low j a b=>2::(if k<j then cY ss k a else cY ss k b)
 | .msk l r=>3::(if (cO ss k).2.2=l then [] else cY ss k r)
noncomputable def jU (zs:List Int)(w:List Nat):Int:=(w.map fun i=>zs.getD i 0).sum
theorem iJ (zs:List Int)(i:Nat)(w:List Nat):jU zs (i::w)=zs.getD i 0+jU zs w:=by
 unfold jU;rw[map_cons,sum_cons]
theorem jJ (P:Nat->Bool)(f:Nat->Int):∀left:List Nat,((left.filter P).map f).sum=(left.map fun k=>if P k=true then f k else 0).sum
 | []=>rfl
 | a::left=>by
  rw[map_cons,sum_cons,<- jJ P f left];cases h:P a with
  | true=>rw[List.filter_cons_of_pos h,map_cons,sum_cons,if_pos rfl]
  | false=>rw[List.filter_cons_of_neg (by rw[h];decide),if_neg δ,Int.zero_add]
theorem iD (f g:Nat->Int):∀left:List Nat,(left.map f).sum+(left.map g).sum=(left.map fun k=>f k+g k).sum
 | []=>rfl
 | a::left=>by
  rw[map_cons,map_cons,map_cons,sum_cons,sum_cons,sum_cons,<- iD f g left];omega
theorem gn (c:Int)(f:Nat->Int):∀left:List Nat,c*(left.map f).sum=(left.map fun k=>c*f k).sum
 | []=>mul_zero c
 | a::left=>by
  rw[map_cons,map_cons,sum_cons,sum_cons,<- gn c f left,mul_add]
noncomputable def yF (ss:Sts)(ws zs:List Int)(pl:Pl)(left:List Nat):Int:=(left.map fun k=>ws.getD k 0*jU zs (cY ss k pl)).sum
theorem gq (ss:Sts)(ws zs:List Int):∀(pl:Pl)(left:List Nat),jT ss (dH ws zs) pl left=yF ss ws zs pl left
 | .pick l,left=>by
  show(0:Int)=(left.map fun k=>ws.getD k 0*0).sum
  induction left with
  | nil=>rfl
  | cons a left ih=>rw[map_cons,sum_cons,<- ih,mul_zero,add_zero]
 | .tab,left=>by
  show zs.getD 4 0*sumK ws left=(left.map fun k=>ws.getD k 0*(zs.getD 4 0+0)).sum;unfold sumK;rw[gn];congr 1;apply map_congr_left;intro k _;rw[add_zero,mul_comm]
 | .one j r,left=>by
  show zs.getD 0 0*sumK ws left+jT ss (dH ws zs) r (left.filter (·≠j))=_;rw[gq ss ws zs r];unfold sumK yF;rw[gn,jJ,iD];congr 1;apply map_congr_left;intro k _;show _=ws.getD k 0*jU zs (0::(if k=j then [] else cY ss k r));rw[iJ,mul_add];by_cases h:k=j
  ·rw[if_pos h,if_neg (by simpa using h),show jU zs []=0 from rfl,mul_zero,mul_comm]
  rw[if_neg h,if_pos (by simpa using h),mul_comm (zs.getD 0 0)]
 | .wit j r,left=>by
  show zs.getD 1 0*sumK ws left+jT ss (dH ws zs) r (left.filter (·≠j))=_;rw[gq ss ws zs r];unfold sumK yF;rw[gn,jJ,iD];congr 1;apply map_congr_left;intro k _;show _=ws.getD k 0*jU zs (1::(if k=j then [] else cY ss k r));rw[iJ,mul_add];by_cases h:k=j
  ·rw[if_pos h,if_neg (by simpa using h),show jU zs []=0 from rfl,mul_zero,mul_comm]
  rw[if_neg h,if_pos (by simpa using h),mul_comm (zs.getD 1 0)]
 | .msk l r,left=>by
  show zs.getD 3 0*sumK ws left+jT ss (dH ws zs) r (left.filter fun k=>(cO ss k).2.2≠l)=_;rw[gq ss ws zs r];unfold sumK yF;rw[gn,jJ,iD];congr 1;apply map_congr_left;intro k _;show _=ws.getD k 0*jU zs (3::(if (cO ss k).2.2=l then [] else cY ss k r));rw[iJ,mul_add];by_cases h:(cO ss k).2.2=l
  ·rw[if_pos h,if_neg (by simpa using h),show jU zs []=0 from rfl,mul_zero,mul_comm]
  rw[if_neg h,if_pos (by simpa using h),mul_comm (zs.getD 3 0)]
 | .low j a b,left=>by
  show zs.getD 2 0*sumK ws left+jT ss (dH ws zs) a (left.filter (· < j))+jT ss (dH ws zs) b (left.filter (j<=·))=_;rw[gq ss ws zs a,gq ss ws zs b];unfold sumK yF;rw[gn,jJ,jJ,iD,iD];congr 1;apply map_congr_left;intro k _;show _=ws.getD k 0*jU zs (2::(if k<j then cY ss k a else cY ss k b));rw[iJ,mul_add];by_cases h:k<j
  ·rw[if_pos h,if_pos (by simpa using h),if_neg (by simp;omega),mul_comm (zs.getD 2 0),add_zero]
  rw[if_neg h,if_neg (by simpa using h),if_pos (by simp;omega),mul_comm (zs.getD 2 0),add_zero]
noncomputable def bV (i:Nat):Str:=sJ.getD i ""
noncomputable def O7:Sp:=fun vs H Q _=>∃(s p:V)(k:Nat)(ok:Addr->Prop)(ss:Sts)(pl:Pl)(left:List Nat),vs=[s,p,.int (k:Int)]/\oE ok H/\aH ok H s (.list (ss.map stD))/\aH ok H p (plD pl)/\v7 ss pl left/\k<ss.length/\bG pl<=4000 /\
 ∀(a:Addr) H',Same H H'->ok a->H a=none->H' a=some (.lst ((cY ss k pl).map fun i=>V.str (bV i)))->Q (.ref a) H'
noncomputable def sZ:Sp:=fun vs H Q _=>∃(p:Addr)(B:Int),vs=[.ref p,.int 5]/\bU H p B/\0<=B/\B<=900000 /\
 ∀(t:Addr)(zs:List Int) H',aV p H H'->bU H' p (B+20)->t≠p->H t=none->H' t=some (.tup (zs.map V.int))->zs.length=5->(∀z∈zs,1<=z/\z<=99)->Q (.ref t) H'
noncomputable def sW:Sp:=fun vs H Q _=>∃(p:Addr)(m:Nat)(B:Int),vs=[.ref p,.int (m:Int)]/\bU H p B/\0<=B/\B<=900000/\m<=60 /\
 ∀(l:Addr)(ws:List Int) H',aV p H H'->bU H' p (B+130)->l≠p->H l=none->H' l=some (.lst (ws.map V.int))->ws.length=m->(∀z∈ws,0<=z/\z<=1000000)->Q (.ref l) H'
noncomputable def m8 (ss:Sts):Pl->List Nat->List (List Nat×Pl)
 | .pick l,left=>[(left,.pick l)]
 | .tab,left=>[(left,.tab)]
 | .one k r,left=>(left,.one k r)::m8 ss r (left.filter (·≠k))
 | .wit k r,left=>(left,.wit k r)::m8 ss r (left.filter (·≠k))
 | .low k a b,left=>(left,.low k a b)::(m8 ss b (left.filter (k<=·))++m8 ss a (left.filter (· < k)))
 | .msk l r,left=>(left,.msk l r)::m8 ss r (left.filter fun k=>(cO ss k).2.2≠l)
noncomputable def jR:Pl->Nat->List (Nat×Nat)
 | .pick _,_=>[]
 | .tab,_=>[]
 | .one _ r,p=>jR r (p+1)
 | .wit _ r,p=>jR r (p+1)
 | .msk _ r,p=>jR r (p+1)
 | .low _ a b,p=>jR b (p+1)++(p,p+1+bG b)::jR a (p+1+bG b)
noncomputable def Tg:List Pl->List Nat->Nat->List (Nat×Nat)
 | [],_,_=>[]
 | c::rest,T,p=>jR c p++(match T with | []=>[]|t::T'=>match rest with | []=>[]|_::_=>(t,p+bG c)::Tg rest T' (p+bG c))
theorem m5 (ss:Sts)(k:Nat):∀(pl:Pl),∀i∈cY ss k pl,i<5
 | .pick _,i,h=>absurd h not_mem_nil
 | .tab,i,h=>by rw[mem_singleton.mp h];decide
 | .one j r,i,h=>by
  rcases mem_cons.mp h with h|h
  ·omega
  by_cases c:k=j
  ·rw[if_pos c] at h;exact absurd h not_mem_nil
  rw[if_neg c] at h;exact m5 ss k r i h
 | .wit j r,i,h=>by
  rcases mem_cons.mp h with h|h
  ·omega
  by_cases c:k=j
  ·rw[if_pos c] at h;exact absurd h not_mem_nil
  rw[if_neg c] at h;exact m5 ss k r i h
 | .msk l r,i,h=>by
  rcases mem_cons.mp h with h|h
  ·omega
  by_cases c:(cO ss k).2.2=l
  ·rw[if_pos c] at h;exact absurd h not_mem_nil
  rw[if_neg c] at h;exact m5 ss k r i h
 | .low j a b,i,h=>by
  rcases mem_cons.mp h with h|h
  ·omega
  by_cases c:k<j
  ·rw[if_pos c] at h;exact m5 ss k a i h
  rw[if_neg c] at h;exact m5 ss k b i h
theorem Ka {K:PySem.W.Frag}{mp:List (Option Nat)}{g:TG}{tc:TT}{te:TE}{σ:St}{H:Hp}{Q:VK}{R:It->Hp->Prop}{a:Addr}{w:List Nat}(fI:Nat->Int)(okT:St->Prop)(hR:R=yQ mp g tc te σ Q)(e:H a=some (.lst (w.map fun i=>V.str (bV i))))(hz:w.length<=1000000)(h0:okT (fY mp σ))
  (hs:∀(i:Nat)(z:Nat) τ (acc:List V) (Pn:List V->St->Hp->Prop),w[i]?=some z->okT τ->(∀τ1,okT τ1->Pn (acc++[V.int (fI z)]) τ1 H)->g (.str (bV z)) τ H fun τ1 H4=>tc τ1 H4 fun b H5=>if b=true then te τ1 H5 fun v H6=>Pn (acc++[v]) τ1 H6 else Pn acc τ1 H5)
  (hd:∀d,H d=none->Q (.ref d) (upd H d (.lst ((w.map fI).map V.int)))):R (Itl K a) H:=by
 refine jE hR (xs:=w.map fun i=>V.str (bV i)) (aK (by rw[length_map];exact hz)) (fun i acc τ H'=>H'=H/\acc=((w.take i).map fI).map V.int/\okT τ) ⟨rfl,rfl,h0⟩ ?_ ?_ ?_ ?_
 ·rintro i acc τ H' ⟨_,rfl,_⟩;rw[length_map,length_map];exact length_take_le _ _
 ·rintro i acc τ H' ⟨rfl,_,_⟩;exact SqL.of e
 ·rintro i x acc τ H' hx ⟨rfl,rfl,ht⟩;rw[getElem?_map] at hx;cases hk:w[i]? with
  | none=>rw[hk] at hx;cases hx
  | some z=>
   rw[hk] at hx;cases hx;refine hs i z τ _ (fun acc τ H1=>H1=H'/\acc=((w.take (i+1)).map fI).map V.int/\okT τ) hk ht (fun τ1 h1=>⟨rfl,?_,h1⟩);rw[take_snoc hk,map_append,map_append];rfl
 rintro acc τ H' d ⟨rfl,rfl,_⟩ hdn;rw[take_of_length_le (by rw[length_map];exact le_refl _)];exact hd d hdn
theorem jG (ss:Sts)(k:Nat):∀pl:Pl,(cY ss k pl).length<=bG pl
 | .pick _=>zero_le _
 | .tab=>le_refl _
 | .one j r=>by
  have:=jG ss k r;show(0::(if k=j then [] else cY ss k r)).length<=bG r+1;split <;> simp <;> omega
 | .wit j r=>by
  have:=jG ss k r;show(1::(if k=j then [] else cY ss k r)).length<=bG r+1;split <;> simp <;> omega
 | .msk l r=>by
  have:=jG ss k r;show(3::(if (cO ss k).2.2=l then [] else cY ss k r)).length<=bG r+1;split <;> simp <;> omega
 | .low j a b=>by
  have:=jG ss k a;have:=jG ss k b;show(2::(if k<j then cY ss k a else cY ss k b)).length<=bG a+bG b+1;split <;> simp <;> omega
theorem wj:typeLookup (Value.type "zip") (Str.ofString "keys")=pure none:=am_miss_of_fast (by rfl)
theorem pG:typeLookup (Value.type "zip") (Str.ofString "__getattr__")=pure none:=am_miss_of_fast (by rfl)
theorem nQ (a:Addr) (vs:Array Value) (u:Tok):Meets (Builtin.«object.__getattribute__» { pos:=[Value.ref a,Value.str (Str.ofString "keys") u] }) fun A R s=>
  s.heap.get? a=some { cls:=Value.type "zip",data:=Data.fields vs }/\raisesAttr (Value.ref a) (Str.ofString "keys") A R s:=by
 refine Meets.of_wp fun prog w A R s hs=>?_;obtain⟨hp,g,d,tk,os⟩:=s;obtain⟨hx,hr⟩:=hs;have hT:(⟨hp,g,d,tk,os⟩:Shared).TypeIs (Value.ref a) "zip" := ⟨_,hx,rfl⟩;unfold Builtin.«object.__getattribute__» slotArgs;refine wpAny_bind (wpAny_ite_false rfl (wpAny_ite_false rfl (wpAny_pure ?_)));refine wpAny_bind ?_;show wpAny _ _ (pure (Str.ofString "keys")) _ _ _;refine wpAny_pure ?_;refine wpAny_bind (wpAny_typeOf hT ?_);refine wpAny_bind ?_;unfold Builtin.ObjectAttr.find;refine wpAny_bind (wpAny_of_eq wj ?_);refine wpAny_bind ?_;show wpAny _ _ (pure none) _ _ _;refine wpAny_pure (wpAny_bind ?_);show wpAny _ _ (pure none) _ _ _;refine wpAny_pure ?_;show wpAny _ _ (Builtin.ObjectAttr.ownThenClass (Value.ref a) (Str.ofString "keys") none none) _ _ _;unfold Builtin.ObjectAttr.ownThenClass;refine wpAny_bind ?_;unfold Builtin.ObjectAttr.inOwnDict;refine wpAny_bind ?_;unfold Builtin.ObjectAttr.ownDict;refine wpAny_bind (wpAny_loadPart' hx ?_);show wpAny _ _ (instanceDict a false) _ _ _;unfold instanceDict;refine wpAny_bind (wpAny_loadPart' hx (wpAny_ite_true rfl (wpAny_pure ?_)));show wpAny _ _ (pure none) _ _ _;refine wpAny_pure ?_;show wpAny _ _ (Builtin.ObjectAttr.copiedAttributeGuard (Str.ofString "keys") (Value.ref a) >>= _) _ _ _;refine wpAny_bind ?_;unfold Builtin.ObjectAttr.copiedAttributeGuard;refine wpAny_ite_false δ (wpAny_pure ?_);show wpAny _ _ (rule _ >>= _) _ _ _;refine wpAny_bind (wpAny_rule (wpAny_pure ?_));refine wpAny_ite_false rfl ?_;refine wpAny_ite_false rfl ?_;show wpAny _ _ (typeNameOfCut 100 (Value.ref a) >>= _) _ _ _;refine wpAny_bind ?_;show wpAny _ _ (shownTypeOf (Value.ref a) >>= _) _ _ _;refine wpAny_bind ?_;show wpAny _ _ (typeOf (Value.ref a) >>= _) _ _ _;refine wpAny_bind (wpAny_typeOf hT ?_);refine wpAny_ite_false rfl (wpAny_pure ?_);show wpAny _ _ (pure _) _ _ _;refine wpAny_pure ?_;exact wpAny_raiseAttrError hr.1 hr.2 (attrMsg_fits δ δ)
theorem vJ:entryFor table "zip.__getattribute__" = some Builtin.«object.__getattribute__»:=entryFor_alias (id' := "object.__getattribute__") (by rfl) ψ ψ (by rfl)
theorem rA {prog:Program}{w:World}{A:Around}{E:Value->Shared->Prop}{s:Shared}{a:Addr}{vs:Array Value}{Q:Option Value->Shared->Prop}(hh:A.handled=none) (hx:s.heap.get? a=some { cls:=Value.type "zip",data:=Data.fields vs })
  (h:∀(h':Heap)(tk:Nat),(∀c o,s.heap.get? c=some o->h'.get? c=some o)->Q none { s with heap:=h',toks:=tk }):wpAny (model prog w) A (getAttr? (Value.ref a) (Str.ofString "keys")) Q E s:=by
 obtain⟨hp,g,d,tk,os⟩:=s;have hT:∀tk,(⟨hp,g,d,tk,os⟩:Shared).TypeIs (Value.ref a) "zip" := fun _=>⟨_,hx,rfl⟩;unfold getAttr? mkText;refine wpAny_bind (wpAny_bind (wpAny_fresh' (wpAny_pure ?_)));unfold getAttrBy?;refine wpAny_bind (wpAny_attempt ?_);unfold getAttrBy;refine wpAny_holding (wpAny_bind (wpAny_typeOf (hT _) ?_));refine wpAny_bind (wpAny_of_eq F.slot_zip_getattribute.lookup ?_);show wpAny _ _ (ite _ _ _) _ _ _;refine wpAny_ite_false rfl ?_;unfold getAttrByItsOwn hookBefore;refine wpAny_bind (wpAny_ite_false rfl (wpAny_pure ?_));refine wpAny_bind (wpAny_attempt (wpAny_holding ?_));unfold callGetattribute;refine wpAny_ite_false rfl ?_;unfold boundAndCalled;refine wpAny_bind (wpAny_of_eq (F.slot_zip_getattribute.bind (Value.ref a)) ?_);refine call_meets F.slot_zip_getattribute (hT _) vJ (F.args_zip_getattribute_2 _ _) (nQ a vs _) ⟨hx,hh,fun h' tk' e ne=>?_⟩;obtain⟨t,u,he⟩:=ne.there;have hTe:(⟨h',g,d,tk',os⟩:Shared).TypeIs (Value.ref e) "AttributeError" := ⟨_,he,rfl⟩;unfold getattributeRaised;refine wpAny_bind (wpAny_isInstance hTe sub_AttributeError (wpAny_ite_true rfl ?_));unfold hookBehind;refine wpAny_bind (wpAny_ite_false rfl (wpAny_of_eq pG ?_));show wpAny _ _ (throw (Value.ref e) >>= _) _ _ _;refine wpAny_bind (wpAny_throw ?_);show wpAny _ _ (isInstance (Value.ref e) (Value.type "AttributeError") >>= _) _ _ _;refine wpAny_bind (wpAny_isInstance hTe sub_AttributeError (wpAny_ite_true rfl (wpAny_pure ?_)));exact h h' tk' fun c o e=>ne.keeps c o e
noncomputable def Wlk (h:Heap)(i l:Addr)(k:Nat)(xs:Array Value):Prop:=(h.IsTupleIter i l k/\h.IsTuple l xs)\/(h.IsListIter i l k/\h.IsList l xs)
theorem Wlk.keep {h h':Heap}{i l:Addr}{k:Nat}{xs:Array Value}(I:Wlk h i l k xs)(ki:∀o,h.get? i=some o->h'.get? i=some o)(kl:∀o,h.get? l=some o->h'.get? l=some o):Wlk h' i l k xs:=by
 rcases I with⟨a,o,e,r⟩|⟨a,o,e,r⟩
 ·exact .inl ⟨a.at ki,o,kl o e,r⟩
 exact .inr ⟨a.at ki,o,kl o e,r⟩
theorem Wlk.item {prog:Program}{w:World}{A:Around}{E:Value->Shared->Prop}{s:Shared}{i l:Addr}{k:Nat}{xs:Array Value}{x:Value}{Q:Value->Shared->Prop}(I:Wlk s.heap i l k xs)(hl:l≠i)(hx:xs[k]?=some x)
  (hQ:∀h',Wlk h' i l (k+1) xs->Heap.SameBut i s.heap h'->Q x { s with heap:=h' }):wpAny (model prog w) A (Builtin.SmallTypes.nextOf (Value.ref i)) Q E s:=by
 rcases I with⟨a,b⟩|⟨a,b⟩
 ·refine cJ a b hx fun h' h1 sb=>hQ h' (.inl ⟨h1,?_⟩) sb;obtain⟨o,e,r⟩:=b;exact⟨o,(sb.2 l hl).trans e,r⟩
 refine wpAny_nextOf_list_item a b hx fun h' h1 sb=>hQ h' (.inr ⟨h1,?_⟩) sb;obtain⟨o,e,r⟩:=b;exact⟨o,(sb.2 l hl).trans e,r⟩
theorem Wlk.last {prog:Program}{w:World}{A:Around}{E:Value->Shared->Prop}{s:Shared}{i l:Addr}{k:Nat}{xs:Array Value}{Q:Value->Shared->Prop}(hh:A.handled=none)(I:Wlk s.heap i l k xs)(hx:xs[k]?=none)
  (hE:∀h' e,Heap.ExtBut i s.heap h'->(∃o,h'.get? e=some o/\o.cls=Value.type "StopIteration")->E (.ref e) { s with heap:=h' }):wpAny (model prog w) A (Builtin.SmallTypes.nextOf (Value.ref i)) Q E s:=by
 rcases I with⟨a,b⟩|⟨a,b⟩
 ·exact dM hh a b hx hE
 exact wpAny_nextOf_list_end hh a b hx hE
theorem Ge {M:Model}{A:Around}{E:Value->Shared->Prop}{s:Shared}{a:Addr}{Q:Option Obj->Shared->Prop}(h:Q (s.heap.get? a) s):wpAny M A (loadIfAlive a) Q E s:=by
 intro Γ p hΓ;show Sem.wp M Γ (Sem.loadIfAlive a Sem.pure) _ _ p s;rw[Sem.wp_loadIfAlive];exact h
@[reducible] def gP (h:Heap) (z TI TO a:Addr) (b:Bool):Prop:=h.get? z=some { cls:=Value.type "zip",data:=Data.fields #[rawInt a,Value.bool b,Value.bool false,Value.ref TI,Value.ref TO] }
theorem yq {prog:Program}{w:World}{A:Around}{E:Value->Shared->Prop}{s:Shared}{z TI TO a:Addr}{b:Bool}{o:Obj}{Q:Bool->Shared->Prop}(hz:gP s.heap z TI TO a b)(ha:s.heap.get? a=some o)
  (hQ:∀h',gP h' z TI TO a true->Heap.SameBut z s.heap h'->Q false { s with heap:=h' }):wpAny (model prog w) A (Builtin.SmallTypes.ownedTupleIsFree (Value.ref z)) Q E s:=by
 unfold Builtin.SmallTypes.ownedTupleIsFree;refine wpAny_bind (wpAny_field hz rfl rfl ?_);show wpAny _ _ (loadIfAlive ((a:Int).toNat) >>= _) _ _ _;refine wpAny_bind (Ge ?_);rw[show((a:Int).toNat)=a from toNat_natCast a,ha];refine wpAny_ite_false rfl ?_;refine wpAny_bind (wpAny_field hz rfl rfl ?_);cases b with
 | true=>
  refine wpAny_ite_false rfl (wpAny_pure ?_);exact hQ s.heap hz ⟨rfl,fun _ _=>rfl⟩
 | false=>
  refine wpAny_ite_true rfl ?_;refine wpAny_bind (wpAny_setField_rec hz (lt_of_sub_pos (zero_lt_succ 3)) fun h' hz' hs'=>wpAny_pure ?_);exact hQ h' hz' hs'
theorem Ku {prog:Program}{w:World}{A:Around}{E:Value->Shared->Prop}{s:Shared}{z TI TO i1 i2 l1 l2 a:Addr}{ob:Bool}{k1 k2:Nat}{xs ys:Array Value}{x y:Value}{o:Obj}{Q:Value->Shared->Prop}(D:ZipApart z TI TO i1 i2 l1 l2)(hz:gP s.heap z TI TO a ob)(ha:s.heap.get? a=some o)(hTI:IsPair s.heap TI (Value.ref i1) (Value.ref i2))
  (h1:Wlk s.heap i1 l1 k1 xs) (h2:Wlk s.heap i2 l2 k2 ys) (hx:xs[k1]?=some x) (hy:ys[k2]?=some y)
  (hQ:∀h':Heap,gP h' z TI TO a true->Wlk h' i1 l1 (k1+1) xs->Wlk h' i2 l2 (k2+1) ys->IsPair h' s.heap.objs.size x y->h'.objs.size=s.heap.objs.size+1->(∀c o,c≠z->c≠i1->c≠i2->s.heap.get? c=some o->h'.get? c=some o)->Q (Value.ref s.heap.objs.size) { s with heap:=h' }) :
  wpAny (model prog w) A (Builtin.«zip.__next__» { pos:=[Value.ref z] }) (fun fin s'=>∃v,fin=Fin.done (Flow.ret v)/\Q v s') E s:=by
 show wpAny _ _ (field (Value.ref z) 2 >>= _) _ _ _;refine wpAny_bind (wpAny_field hz rfl rfl ?_);show wpAny _ _ (field (Value.ref z) 3 >>= _) _ _ _;refine wpAny_bind (wpAny_field hz rfl rfl ?_);refine wpAny_bind (wpAny_seqItems hTI rfl ?_);show wpAny _ _ (Builtin.SmallTypes.ownedTupleIsFree (Value.ref z) >>= _) _ _ _;refine wpAny_bind (yq hz ha fun h₁ hz₁ hs₁=>?_);refine wpAny_ite_false rfl ?_;have old1:∀c o,c≠z->s.heap.get? c=some o->h₁.get? c=some o:=fun c o hc e=>(hs₁.2 c hc).trans e;have h1a:=h1.keep (h':=h₁) (fun o e=>old1 i1 o D.i1z e) (fun o e=>old1 l1 o D.l1z e);show wpAny _ _ (forIn #[Value.ref i1,Value.ref i2] (none,#[]) _ >>= _) _ _ _;refine wpAny_bind ?_;rw[<- Array.forIn_toList];show wpAny _ _ (forIn [Value.ref i1,Value.ref i2] (none,#[]) _) _ _ _;rw[forIn_cons];refine wpAny_bind ?_;show wpAny _ _ (holding [] (Builtin.SmallTypes.nextOf (Value.ref i1) >>= fun v=>pure (some v)) >>= _) _ _ _;refine wpAny_bind (wpAny_holding (wpAny_bind (h1a.item (s:={ s with heap:=h₁ }) D.l1i1 hx fun h₂ h1b sb₂=>wpAny_pure ?_)));have old2:∀c o,c≠z->c≠i1->s.heap.get? c=some o->h₂.get? c=some o:=fun c o hc hc1 e=>(sb₂.2 c hc1).trans (old1 c o hc e);refine wpAny_pure ?_;show wpAny _ _ (forIn [Value.ref i2] (none,#[x]) _) _ _ _;rw[forIn_cons];refine wpAny_bind ?_;have h2a:=h2.keep (h':=h₂) (fun o e=>old2 i2 o D.i2z (Ne.symm D.i12) e) (fun o e=>old2 l2 o D.l2z D.l2i1 e);show wpAny _ _ (holding [x] (Builtin.SmallTypes.nextOf (Value.ref i2) >>= fun v=>pure (some v)) >>= _) _ _ _;refine wpAny_bind (wpAny_holding (wpAny_bind (h2a.item (s:={ s with heap:=h₂ }) D.l2i2 hy fun h₃ h2b sb₃=>wpAny_pure ?_)));have old3:∀c o,c≠z->c≠i1->c≠i2->s.heap.get? c=some o->h₃.get? c=some o:=fun c o hc hc1 hc2 e=>(sb₃.2 c hc2).trans (old2 c o hc hc1 e);refine wpAny_pure ?_;show wpAny _ _ (forIn [] (none,#[x,y]) _) _ _ _;rw[forIn_nil];refine wpAny_pure ?_;show wpAny _ _ (newTuple [x,y] >>= _) _ _ _;refine wpAny_bind (wpAny_newTuple ?_ (by show 2<=sizeLine;decide));have sz:h₃.objs.size=s.heap.objs.size:=by rw[sb₃.1,sb₂.1,hs₁.1]
 have old4:∀c o,h₃.get? c=some o->(h₃.push { cls:=Value.type "tuple",data:=Data.seq #[x,y] }).get? c=some o:=fun c o e=>get?_push_of_some _ e;refine wpAny_pure ⟨_,rfl,?_⟩;rw[show(({ s with heap:=h₃ }:Shared).heap.objs.size)=s.heap.objs.size from sz];refine hQ (h₃.push { cls:=Value.type "tuple",data:=Data.seq #[x,y] }) ?_ ?_ ?_ ?_ ?_ fun c o hc1 hc2 hc3 e=>old4 c o (old3 c o hc1 hc2 hc3 e)
 ·exact old4 z _ ((sb₃.2 z (Ne.symm D.i2z)).trans ((sb₂.2 z (Ne.symm D.i1z)).trans hz₁))
 ·exact h1b.keep (fun o e=>old4 i1 o ((sb₃.2 i1 D.i12).trans e)) (fun o e=>old4 l1 o ((sb₃.2 l1 D.l1i2).trans e))
 ·exact h2b.keep (fun o e=>old4 i2 o e) (fun o e=>old4 l2 o e)
 ·show(h₃.push { cls:=Value.type "tuple",data:=Data.seq #[x,y] }).get? s.heap.objs.size=_;rw[<- sz];exact get?_push_size _ rfl
 rw[size_push,sz]
theorem PL {prog:Program}{w:World}{A:Around}{E:Value->Shared->Prop}{s:Shared}{z TI TO i1 i2 l1 l2 a:Addr}{ob:Bool}{k1:Nat}{xs:Array Value}{o:Obj}{Q:PySem.Fin->Shared->Prop}(hh:A.handled=none)(D:ZipApart z TI TO i1 i2 l1 l2)(hz:gP s.heap z TI TO a ob)(ha:s.heap.get? a=some o)(hTI:IsPair s.heap TI (Value.ref i1) (Value.ref i2))
  (h1:Wlk s.heap i1 l1 k1 xs) (hx:xs[k1]?=none)
  (hE:∀(h':Heap)(e:Addr),(∀c o,c≠z->c≠i1->s.heap.get? c=some o->h'.get? c=some o)->(∃o,h'.get? e=some o/\o.cls=Value.type "StopIteration")->E (Value.ref e) { s with heap:=h' }) :
  wpAny (model prog w) A (Builtin.«zip.__next__» { pos:=[Value.ref z] }) Q E s:=by
 show wpAny _ _ (field (Value.ref z) 2 >>= _) _ _ _;refine wpAny_bind (wpAny_field hz rfl rfl ?_);show wpAny _ _ (field (Value.ref z) 3 >>= _) _ _ _;refine wpAny_bind (wpAny_field hz rfl rfl ?_);refine wpAny_bind (wpAny_seqItems hTI rfl ?_);show wpAny _ _ (Builtin.SmallTypes.ownedTupleIsFree (Value.ref z) >>= _) _ _ _;refine wpAny_bind (yq hz ha fun h₁ hz₁ hs₁=>?_);refine wpAny_ite_false rfl ?_;have old1:∀c o,c≠z->s.heap.get? c=some o->h₁.get? c=some o:=fun c o hc e=>(hs₁.2 c hc).trans e;have h1a:=h1.keep (h':=h₁) (fun o e=>old1 i1 o D.i1z e) (fun o e=>old1 l1 o D.l1z e);show wpAny _ _ (forIn #[Value.ref i1,Value.ref i2] (none,#[]) _ >>= _) _ _ _;refine wpAny_bind ?_;rw[<- Array.forIn_toList];show wpAny _ _ (forIn [Value.ref i1,Value.ref i2] (none,#[]) _) _ _ _;rw[forIn_cons];refine wpAny_bind ?_;show wpAny _ _ (holding [] (Builtin.SmallTypes.nextOf (Value.ref i1) >>= fun v=>pure (some v)) >>= _) _ _ _;refine wpAny_bind (wpAny_holding (wpAny_bind (Wlk.last (s:={ s with heap:=h₁ }) hh h1a hx fun h₂ e ext he=>?_)));exact hE h₂ e (fun c o c1 c2 g=>ext c o c2 (old1 c o c1 g)) he
theorem Ga {prog:Program}{w:World}{A:Around}{E:Value->Shared->Prop}{s:Shared}{z TI TO i1 i2 l1 l2:Addr}{k1 k2:Nat}{xs ys:Array Value}{x y a b:Value}{Q:Value->Shared->Prop}(D:ZipApart z TI TO i1 i2 l1 l2)(hz:IsZip s.heap z TI TO Value.none)(hTI:IsPair s.heap TI (Value.ref i1) (Value.ref i2))(hTO:IsPair s.heap TO a b)
  (h1:Wlk s.heap i1 l1 k1 xs) (h2:Wlk s.heap i2 l2 k2 ys) (hx:xs[k1]?=some x) (hy:ys[k2]?=some y)
  (hQ:∀h':Heap,gP h' z TI TO s.heap.objs.size false->Wlk h' i1 l1 (k1+1) xs->Wlk h' i2 l2 (k2+1) ys->IsPair h' s.heap.objs.size x y->h'.objs.size=s.heap.objs.size+1->(∀c o,c≠z->c≠TO->c≠i1->c≠i2->s.heap.get? c=some o->h'.get? c=some o)->Q (Value.ref s.heap.objs.size) { s with heap:=h' }) :
  wpAny (model prog w) A (Builtin.«zip.__next__» { pos:=[Value.ref z] }) (fun fin s'=>∃v,fin=Fin.done (Flow.ret v)/\Q v s') E s:=by
 show wpAny _ _ (field (Value.ref z) 2 >>= _) _ _ _;refine wpAny_bind (wpAny_field hz rfl rfl ?_);show wpAny _ _ (field (Value.ref z) 3 >>= _) _ _ _;refine wpAny_bind (wpAny_field hz rfl rfl ?_);refine wpAny_bind (wpAny_seqItems hTI rfl ?_);show wpAny _ _ (Builtin.SmallTypes.ownedTupleIsFree (Value.ref z) >>= _) _ _ _;refine wpAny_bind ?_;show wpAny _ _ (field (Value.ref z) 0 >>= _) _ _ _;refine wpAny_bind (wpAny_field hz rfl rfl (wpAny_pure ?_));show wpAny _ _ (rule _ >>= _) _ _ _;refine wpAny_bind (wpAny_rule (wpAny_bind (wpAny_field hz rfl rfl ?_)));show wpAny _ _ (setField (Value.ref z) 0 Value.ellipsis >>= _) _ _ _;refine wpAny_bind (wpAny_setField_rec hz (lt_of_sub_pos (zero_lt_succ 4)) fun h₁ hz₁ hs₁=>?_);have old1:∀c o,c≠z->s.heap.get? c=some o->h₁.get? c=some o:=fun c o hc e=>(hs₁.2 c hc).trans e;have h1a:=h1.keep (h':=h₁) (fun o e=>old1 i1 o D.i1z e) (fun o e=>old1 l1 o D.l1z e);refine wpAny_bind ?_;show wpAny _ _ (forIn [(Value.ref i1,0),(Value.ref i2,1)] (none,()) _) _ _ _;rw[forIn_cons];refine wpAny_bind ?_;show wpAny _ _ ((Sem.onRaise (Builtin.SmallTypes.nextOf (Value.ref i1) >>= fun v=>pure (some v)) (fun _=>setField (Value.ref z) 0 Value.none)) >>= _) _ _ _;refine wpAny_bind (wpAny_onRaise (wpAny_bind (h1a.item (s:={ s with heap:=h₁ }) D.l1i1 hx fun h₂ h1b sb₂=>wpAny_pure ?_)));have old2:∀c o,c≠z->c≠i1->s.heap.get? c=some o->h₂.get? c=some o:=fun c o hc hc1 e=>(sb₂.2 c hc1).trans (old1 c o hc e);have hTO2:IsPair h₂ TO a b:=old2 TO _ D.TOz D.TOi1 hTO;show wpAny _ _ (seqItems? (Value.ref TO) >>= _) _ _ _;refine wpAny_bind (wpAny_seqItems (s:={ s with heap:=h₂ }) hTO2 rfl ?_);show wpAny _ _ (updateSeq TO _ >>= _) _ _ _;refine wpAny_bind (wpAny_updateSeq_pair (s:={ s with heap:=h₂ }) hTO2 fun h₃ g₃ sb₃=>?_);refine wpAny_bind (wpAny_letGo (wpAny_pure ?_));show wpAny _ _ (forIn [(Value.ref i2,1)] (none,()) _) _ _ _;rw[forIn_cons];refine wpAny_bind ?_;have old3:∀c o,c≠z->c≠i1->c≠TO->s.heap.get? c=some o->h₃.get? c=some o:=fun c o hc hc1 hc2 e=>(sb₃.2 c hc2).trans (old2 c o hc hc1 e);have h2c:=h2.keep (h':=h₃) (fun o e=>old3 i2 o D.i2z (Ne.symm D.i12) (Ne.symm D.TOi2) e) (fun o e=>old3 l2 o D.l2z D.l2i1 D.l2TO e);have g₃':IsPair h₃ TO x b:=g₃;show wpAny _ _ ((Sem.onRaise (Builtin.SmallTypes.nextOf (Value.ref i2) >>= fun v=>pure (some v)) (fun _=>setField (Value.ref z) 0 Value.none)) >>= _) _ _ _;refine wpAny_bind (wpAny_onRaise (wpAny_bind (h2c.item (s:={ s with heap:=h₃ }) D.l2i2 hy fun h₄ h2d sb₄=>wpAny_pure ?_)));have hTO4:IsPair h₄ TO x b:=(sb₄.2 TO D.TOi2).trans g₃';show wpAny _ _ (seqItems? (Value.ref TO) >>= _) _ _ _;refine wpAny_bind (wpAny_seqItems (s:={ s with heap:=h₄ }) hTO4 rfl ?_);show wpAny _ _ (updateSeq TO _ >>= _) _ _ _;refine wpAny_bind (wpAny_updateSeq_pair (s:={ s with heap:=h₄ }) hTO4 fun h₅ g₅ sb₅=>?_);refine wpAny_bind (wpAny_letGo (wpAny_pure ?_));have g₅':IsPair h₅ TO x y:=g₅;show wpAny _ _ (forIn [] (none,()) _) _ _ _;rw[forIn_nil];refine wpAny_pure ?_;show wpAny _ _ (seqItems? (Value.ref TO) >>= _) _ _ _
 refine wpAny_bind (wpAny_seqItems (s:={ s with heap:=h₅ }) g₅' rfl ?_);show wpAny _ _ (newTuple [x,y] >>= _) _ _ _;refine wpAny_bind (wpAny_newTuple ?_ (by show 2<=sizeLine;decide));have sz:h₅.objs.size=s.heap.objs.size:=by
  rw[sb₅.1,sb₄.1,sb₃.1,sb₂.1,hs₁.1]
 have z5:h₅.get? z=_:=(sb₅.2 z (Ne.symm D.TOz)).trans ((sb₄.2 z (Ne.symm D.i2z)).trans ((sb₃.2 z (Ne.symm D.TOz)).trans ((sb₂.2 z (Ne.symm D.i1z)).trans hz₁)));have z6:(h₅.push { cls:=Value.type "tuple",data:=Data.seq #[x,y] }).get? z=_:=get?_push_of_some _ z5;refine wpAny_bind ?_;show wpAny _ _ (setField (Value.ref z) 0 (rawInt h₅.objs.size) >>= fun _=>setField (Value.ref z) 1 (Value.bool false)) _ _ _;refine wpAny_bind (wpAny_setField_rec (s:={ s with heap:=h₅.push { cls:=Value.type "tuple",data:=Data.seq #[x,y] } }) z6 (lt_of_sub_pos (zero_lt_succ 4)) fun h₇ hz₇ hs₇=>?_);refine wpAny_setField_rec (s:={ s with heap:=h₇ }) hz₇ (lt_of_sub_pos (zero_lt_succ 3)) fun h₈ hz₈ hs₈=>?_;have nzs:s.heap.objs.size≠z:=fun q=>by
  have:=lt_size hz;rw[<- q] at this;exact lt_irrefl _ this
 have old6:∀c o,h₅.get? c=some o->(h₅.push { cls:=Value.type "tuple",data:=Data.seq #[x,y] }).get? c=some o:=fun c o e=>get?_push_of_some _ e;have old8:∀c o,c≠z->h₅.get? c=some o->h₈.get? c=some o:=fun c o hc e=>(hs₈.2 c hc).trans ((hs₇.2 c hc).trans (old6 c o e));have new8:h₈.get? s.heap.objs.size=some { cls:=Value.type "tuple",data:=Data.seq #[x,y] }:=by
  refine(hs₈.2 _ nzs).trans ((hs₇.2 _ nzs).trans ?_);show(h₅.push { cls:=Value.type "tuple",data:=Data.seq #[x,y] }).get? s.heap.objs.size=_;rw[<- sz];exact get?_push_size _ rfl
 refine wpAny_pure ⟨_,rfl,?_⟩;rw[show(({ s with heap:=h₅ }:Shared).heap.objs.size)=s.heap.objs.size from sz];refine hQ h₈ ?_ ?_ ?_ new8 ?_ ?_
 ·rw[sz] at hz₈;exact hz₈
 ·exact h1b.keep (fun o e=>old8 i1 o D.i1z ((sb₅.2 i1 (Ne.symm D.TOi1)).trans ((sb₄.2 i1 D.i12).trans ((sb₃.2 i1 (Ne.symm D.TOi1)).trans e)))) (fun o e=>old8 l1 o D.l1z ((sb₅.2 l1 D.l1TO).trans ((sb₄.2 l1 D.l1i2).trans ((sb₃.2 l1 D.l1TO).trans e))))
 ·exact h2d.keep (fun o e=>old8 i2 o D.i2z ((sb₅.2 i2 (Ne.symm D.TOi2)).trans e)) (fun o e=>old8 l2 o D.l2z ((sb₅.2 l2 D.l2TO).trans e))
 ·rw[hs₈.1,hs₇.1];show(h₅.push { cls:=Value.type "tuple",data:=Data.seq #[x,y] }).objs.size=_;rw[size_push,sz]
 intro c o hc1 hc2 hc3 hc4 e;exact old8 c o hc1 ((sb₅.2 c hc2).trans ((sb₄.2 c hc4).trans (old3 c o hc1 hc3 hc2 e)))
theorem Ij {prog:Program}{w:World}{A:Around}{E:Value->Shared->Prop}{s:Shared}{z TI TO i1 i2 l1 l2:Addr}{k1 k2:Nat}{xs ys:Array Value}{x y a b:Value}{Q:Option Value->Shared->Prop}(D:ZipApart z TI TO i1 i2 l1 l2)(hz:IsZip s.heap z TI TO Value.none)(hTI:IsPair s.heap TI (Value.ref i1) (Value.ref i2))(hTO:IsPair s.heap TO a b)
  (h1:Wlk s.heap i1 l1 k1 xs) (h2:Wlk s.heap i2 l2 k2 ys) (hx:xs[k1]?=some x) (hy:ys[k2]?=some y)
  (hQ:∀h':Heap,gP h' z TI TO s.heap.objs.size false->Wlk h' i1 l1 (k1+1) xs->Wlk h' i2 l2 (k2+1) ys->IsPair h' s.heap.objs.size x y->h'.objs.size=s.heap.objs.size+1->(∀c o,c≠z->c≠TO->c≠i1->c≠i2->s.heap.get? c=some o->h'.get? c=some o)->Q (some (Value.ref s.heap.objs.size)) { s with heap:=h' }) :
  wpAny (model prog w) A (pyNext (Value.ref z)) Q E s:=by
 have hT:∃o,s.heap.get? z=some o/\o.cls=Value.type "zip" := ⟨_,hz,rfl⟩;exact wpAny_bind (wpAny_attempt (wpAny_callSpecial?_slot hT F.slot_zip_next (wpAny_call_entry F.slot_zip_next hT F.entry_zip_next
  (Ga D hz hTI hTO h1 h2 hx hy fun h' a1 a2 a3 a4 a5 a6=>wpAny_pure (hQ h' a1 a2 a3 a4 a5 a6)) (F.args_zip_next_1 (Value.ref z)))))
theorem Mt {prog:Program}{w:World}{A:Around}{E:Value->Shared->Prop}{s:Shared}{z TI TO i1 i2 l1 l2 a:Addr}{ob:Bool}{k1 k2:Nat}{xs ys:Array Value}{x y:Value}{o:Obj}{Q:Option Value->Shared->Prop}(D:ZipApart z TI TO i1 i2 l1 l2)(hz:gP s.heap z TI TO a ob)(ha:s.heap.get? a=some o)(hTI:IsPair s.heap TI (Value.ref i1) (Value.ref i2))
  (h1:Wlk s.heap i1 l1 k1 xs) (h2:Wlk s.heap i2 l2 k2 ys) (hx:xs[k1]?=some x) (hy:ys[k2]?=some y)
  (hQ:∀h':Heap,gP h' z TI TO a true->Wlk h' i1 l1 (k1+1) xs->Wlk h' i2 l2 (k2+1) ys->IsPair h' s.heap.objs.size x y->h'.objs.size=s.heap.objs.size+1->(∀c o,c≠z->c≠i1->c≠i2->s.heap.get? c=some o->h'.get? c=some o)->Q (some (Value.ref s.heap.objs.size)) { s with heap:=h' }) :
  wpAny (model prog w) A (pyNext (Value.ref z)) Q E s:=by
 have hT:∃o,s.heap.get? z=some o/\o.cls=Value.type "zip" := ⟨_,hz,rfl⟩;exact wpAny_bind (wpAny_attempt (wpAny_callSpecial?_slot hT F.slot_zip_next (wpAny_call_entry F.slot_zip_next hT F.entry_zip_next
  (Ku D hz ha hTI h1 h2 hx hy fun h' a1 a2 a3 a4 a5 a6=>wpAny_pure (hQ h' a1 a2 a3 a4 a5 a6)) (F.args_zip_next_1 (Value.ref z)))))
theorem Rn {prog:Program}{w:World}{A:Around}{E:Value->Shared->Prop}{s:Shared}{z TI TO i1 i2 l1 l2 a:Addr}{ob:Bool}{k1:Nat}{xs:Array Value}{o:Obj}{Q:Option Value->Shared->Prop}(hh:A.handled=none)(D:ZipApart z TI TO i1 i2 l1 l2)(hz:gP s.heap z TI TO a ob)(ha:s.heap.get? a=some o)(hTI:IsPair s.heap TI (Value.ref i1) (Value.ref i2))
  (h1:Wlk s.heap i1 l1 k1 xs) (hx:xs[k1]?=none)
  (hQ:∀h':Heap,(∀c o,c≠z->c≠i1->s.heap.get? c=some o->h'.get? c=some o)->Q none { s with heap:=h' }):wpAny (model prog w) A (pyNext (Value.ref z)) Q E s:=by
 have hT:∃o,s.heap.get? z=some o/\o.cls=Value.type "zip" := ⟨_,hz,rfl⟩;exact wpAny_bind (wpAny_attempt (wpAny_callSpecial?_slot hT F.slot_zip_next (wpAny_call_entry F.slot_zip_next hT F.entry_zip_next
  (PL hh D hz ha hTI h1 hx fun h' e hk he=>by
   obtain⟨o,ho,hc⟩:=he;exact wpAny_bind (wpAny_isInstance ⟨o,ho,hc⟩ isSubtype_stop (wpAny_pure (hQ h' hk)))) (F.args_zip_next_1 (Value.ref z)))))
theorem gK:entryFor table "dict.update.loop" = some Builtin.«dict.update.loop»:=entryFor_of_tree (by rfl)
theorem sU {K:Type}[DecidableEq K](kvs:List (K×Value))(k:K)(v:Value):(stored kvs k v).length<=kvs.length+1:=by
 unfold stored;split
 ·rw[length_map];omega
 rw[length_append];simp
theorem Ci {prog:Program}{w:World}{A:Around}{E:Value->Shared->Prop}{s:Shared}{d p:Addr}{kvs:List (Key×Value)}{k:Key}{u v:Value}{hd:Value->Sem (List Value)}{el:List Value->Sem Unit}{Q:Unit->Shared->Prop}(hp:IsPair s.heap p u v)(hk:(bO prog w).is k u=true)(hd':s.heap.DictOf (bO prog w) d kvs)(hz:kvs.length<=sizeLine)
  (hQ:∀h',h'.DictOf (bO prog w) d (stored kvs k v)->Heap.SameBut d s.heap h'->Q () { s with heap:=h',toks:=s.toks+1 }) :
  wpAny (model prog w) A (holding [Value.ref p] (do
   let pair <- (Builtin.Dict.pairItems (Value.ref p)).tryCatch hd
   match pair with
    | [k,v]=>holding [k,v] (dictSet d k v)
    | l=>el l)) Q E s:=by
 refine wpAny_holding (wpAny_bind ?_);refine wpAny_tryCatch ?_;unfold Builtin.Dict.pairItems;refine wpAny_bind (wpAny_typeOf (T := "tuple") ⟨_,hp,rfl⟩ (wpAny_ite_true rfl ?_));refine wpAny_bind (wpAny_seqItems hp rfl (wpAny_pure ?_));show wpAny _ _ (holding [u,v] (dictSet d u v)) _ _ _;exact wpAny_holding (wpAny_dictSet_pairs hk hd' hQ hz)
structure T7 (prog:Program)(w:World)(rs:List (Key×Value))(xs ys:Array Value):Prop where
 at_:∀(j:Nat) kv,rs[j]?=some kv->∃u,xs[j]?=some u/\(bO prog w).is kv.1 u=true/\ys[j]?=some kv.2
 end_:xs[rs.length]?=none
theorem wz {prog:Program}{w:World}{A:Around}{R:Result->Shared->Prop}{z TI TO i1 i2 l1 l2 a d:Addr}{rs:List (Key×Value)}{xs ys:Array Value}(hh:A.handled=none)(D:ZipApart z TI TO i1 i2 l1 l2)(S:T7 prog w rs xs ys)(dz:d≠z)(dTI:d≠TI)(d1:d≠i1)(d2:d≠i2)(dl1:d≠l1)(dl2:d≠l2) :
  ∀(m i:Nat)(s:Shared)(ob:Bool)(kvs:List (Key×Value)),rs.length-i=m->i<=rs.length->gP s.heap z TI TO a ob->(∃o,s.heap.get? a=some o)->a≠z->a≠i1->a≠i2->a≠d->IsPair s.heap TI (Value.ref i1) (Value.ref i2)->Wlk s.heap i1 l1 i xs->Wlk s.heap i2 l2 i ys->s.heap.DictOf (bO prog w) d kvs->kvs.length+m<=sizeLine ->
   (∀(h':Heap)(t':Nat),h'.DictOf (bO prog w) d (merged kvs (rs.drop i))->(∀c o,c≠z->c≠i1->c≠i2->c≠d->s.heap.get? c=some o->h'.get? c=some o)->R (.ok (.ret .none)) { s with heap:=h',toks:=t' }) ->
   codeAny (model prog w) A (Code.builtin "dict.update.loop" { pos:=[Value.ref d,Value.ref z,rawInt i,Value.none] }) R s
 | 0,i,s,ob,kvs,hm,hi,hz,⟨oa,ha⟩,az,a1,a2,ad,hTI,h1,h2,hd,hl,hR=>by
  have hi':i=rs.length:=ω;subst hi';refine codeAny_builtin gK ?_;show wpAny _ _ (pyNext (Value.ref z) >>= _) _ _ _;refine wpAny_bind (Rn (A:=A.under _) hh D hz ha hTI h1 S.end_ fun h' hk=>?_);show wpAny _ _ (Builtin.Dict.addKeywords d [] >>= _) _ _ _;refine wpAny_bind ?_;show wpAny _ _ (pure ()) _ _ _;refine wpAny_pure (wpAny_pure ?_);refine hR h' s.toks ?_ fun c o c1 c2 c3 c4 e=>hk c o c1 c2 e;rw[drop_length];obtain⟨o,es,ep,e,r⟩:=hd;exact⟨o,es,ep,hk d o dz d1 e,r⟩
 | m+1,i,s,ob,kvs,hm,hi,hz,⟨oa,ha⟩,az,a1,a2,ad,hTI,h1,h2,hd,hl,hR=>by
  have hlt:i<rs.length:=ω;have hrs:rs[i]?=some rs[i]:=getElem?_eq_getElem hlt;obtain⟨u,hx,hk,hy⟩:=S.at_ i _ hrs;refine codeAny_builtin gK ?_;show wpAny _ _ (pyNext (Value.ref z) >>= _) _ _ _;refine wpAny_bind (Mt D hz ha hTI h1 h2 hx hy fun h' z1 w1 w2 pr sz old=>?_);have hd':h'.DictOf (bO prog w) d kvs:=by
   obtain⟨o,es,ep,e,r⟩:=hd;exact⟨o,es,ep,old d o dz d1 d2 e,r⟩
  refine wpAny_bind (Ci (s:={ s with heap:=h' }) pr hk hd' ω fun h'' hd'' sb=>?_);refine wpAny_pure ⟨Code.quiet_builtin _ ψ,?_⟩;show codeAny _ _ (Code.builtin "dict.update.loop" { pos:=[Value.ref d,Value.ref z,rawInt ((i:Int)+1),Value.none] }) _ _;rw[show((i:Int)+1)=((i+1:Nat):Int) by omega];have old2:∀c o,c≠z->c≠i1->c≠i2->c≠d->s.heap.get? c=some o->h''.get? c=some o:=fun c o c1 c2 c3 c4 e=>(sb.2 c c4).trans (old c o c1 c2 c3 e);refine wz hh D S dz dTI d1 d2 dl1 dl2 m (i+1) _ true (stored kvs rs[i].1 rs[i].2) ω ω ((sb.2 z (Ne.symm dz)).trans z1) ⟨oa,old2 a oa az a1 a2 ad ha⟩ az a1 a2 ad (old2 TI _ D.TIz D.TIi1 D.TIi2 (Ne.symm dTI) hTI) (w1.keep (fun o e=>(sb.2 i1 (Ne.symm d1)).trans e) (fun o e=>(sb.2 l1 (Ne.symm dl1)).trans e)) (w2.keep (fun o e=>(sb.2 i2 (Ne.symm d2)).trans e) (fun o e=>(sb.2 l2 (Ne.symm dl2)).trans e)) hd'' (by have:=sU kvs rs[i].1 rs[i].2;omega) fun h3 t3 hd3 old3=>?_;refine hR h3 t3 ?_ fun c o c1 c2 c3 c4 e=>old3 c o c1 c2 c3 c4 (old2 c o c1 c2 c3 c4 e);rw[drop_eq_getElem_cons hlt];exact hd3
theorem Ky {prog:Program}{w:World}{A:Around}{R:Result->Shared->Prop}{z TI TO i1 i2 l1 l2 d:Addr}{rs:List (Key×Value)}{xs ys:Array Value}{b1 b2:Value}{s:Shared}(hh:A.handled=none)(D:ZipApart z TI TO i1 i2 l1 l2)(S:T7 prog w rs xs ys)(dz:d≠z)(dTI:d≠TI)(dTO:d≠TO)(d1:d≠i1)(d2:d≠i2)(dl1:d≠l1)(dl2:d≠l2)(hn:0<rs.length)(hl:rs.length<=sizeLine)
  (hz:IsZip s.heap z TI TO Value.none) (hTI:IsPair s.heap TI (Value.ref i1) (Value.ref i2)) (hTO:IsPair s.heap TO b1 b2) (h1:Wlk s.heap i1 l1 0 xs) (h2:Wlk s.heap i2 l2 0 ys) (hd:s.heap.DictOf (bO prog w) d [])
  (hR:∀(h':Heap)(t':Nat),h'.DictOf (bO prog w) d (merged [] rs)->(∀c o,c≠z->c≠TO->c≠i1->c≠i2->c≠d->s.heap.get? c=some o->h'.get? c=some o)->R (.ok (.ret .none)) { s with heap:=h',toks:=t' }) :
  codeAny (model prog w) A (Code.builtin "dict.update.loop" { pos:=[Value.ref d,Value.ref z,rawInt 0,Value.none] }) R s:=by
 have hrs:rs[0]?=some rs[0]:=getElem?_eq_getElem hn;obtain⟨u,hx,hk,hy⟩:=S.at_ 0 _ hrs;have fr:∀{c:Addr}{o:Obj},s.heap.get? c=some o->s.heap.objs.size≠c:=fun {c o} e q=>by
  have:=lt_size e;rw[<- q] at this;exact lt_irrefl _ this
 have g1:∃o,s.heap.get? i1=some o:=by rcases h1 with⟨⟨o,e,_⟩,_⟩|⟨⟨o,e,_⟩,_⟩ <;> exact⟨o,e⟩
 have g2:∃o,s.heap.get? i2=some o:=by rcases h2 with⟨⟨o,e,_⟩,_⟩|⟨⟨o,e,_⟩,_⟩ <;> exact⟨o,e⟩
 obtain⟨o1,e1⟩:=g1;obtain⟨o2,e2⟩:=g2;have gd:∃o,s.heap.get? d=some o:=by obtain⟨o,_,_,e,_⟩:=hd;exact⟨o,e⟩
 obtain⟨od,ed⟩:=gd;refine codeAny_builtin gK ?_;show wpAny _ _ (pyNext (Value.ref z) >>= _) _ _ _;refine wpAny_bind (Ij D hz hTI hTO h1 h2 hx hy fun h' z1 w1 w2 pr sz old=>?_);have hd':h'.DictOf (bO prog w) d []:=by
  obtain⟨o,es,ep,e,r⟩:=hd;exact⟨o,es,ep,old d o dz dTO d1 d2 e,r⟩
 refine wpAny_bind (Ci (s:={ s with heap:=h' }) pr hk hd' (zero_le _) fun h'' hd'' sb=>?_);refine wpAny_pure ⟨Code.quiet_builtin _ ψ,?_⟩;show codeAny _ _ (Code.builtin "dict.update.loop" { pos:=[Value.ref d,Value.ref z,rawInt ((1:Nat):Int),Value.none] }) _ _;have old2:∀c o,c≠z->c≠TO->c≠i1->c≠i2->c≠d->s.heap.get? c=some o->h''.get? c=some o:=fun c o c1 c5 c2 c3 c4 e=>(sb.2 c c4).trans (old c o c1 c5 c2 c3 e);refine wz (a:=s.heap.objs.size) hh D S dz dTI d1 d2 dl1 dl2 (rs.length-1) 1 _ false (stored [] rs[0].1 rs[0].2) rfl hn ((sb.2 z (Ne.symm dz)).trans z1) ⟨_,(sb.2 _ (fr ed)).trans pr⟩ (fr hz) (fr e1) (fr e2) (fr ed) (old2 TI _ D.TIz D.TITO D.TIi1 D.TIi2 (Ne.symm dTI) hTI) (w1.keep (fun o e=>(sb.2 i1 (Ne.symm d1)).trans e) (fun o e=>(sb.2 l1 (Ne.symm dl1)).trans e)) (w2.keep (fun o e=>(sb.2 i2 (Ne.symm d2)).trans e) (fun o e=>(sb.2 l2 (Ne.symm dl2)).trans e)) hd'' (by have:=sU [] rs[0].1 rs[0].2;simp only[length_nil] at this;omega) fun h3 t3 hd3 old3=>?_;refine hR h3 t3 ?_ fun c o c1 c5 c2 c3 c4 e=>old3 c o c1 c2 c3 c4 (old2 c o c1 c5 c2 c3 c4 e);have hm:merged [] rs=merged (stored [] rs[0].1 rs[0].2) (rs.drop 1):=by
  have:=drop_eq_getElem_cons hn;rw[drop_zero] at this
  conv=>lhs;rw[this]
  rfl
 rw[hm];exact hd3
theorem sy {prog:Program}{w:World}{A:Around}{E:Value->Shared->Prop}{s:Shared}{z TI TO i1 i2 l1 l2:Addr}{rs:List (Key×Value)}{xs ys:Array Value}{b1 b2:Value}{Q:Value->Shared->Prop}(hh:A.handled=none)(D:ZipApart z TI TO i1 i2 l1 l2)(S:T7 prog w rs xs ys)(hn:0<rs.length)(hl:rs.length<=sizeLine)(hb:sysModules<s.heap.objs.size)
  (hz:IsZip s.heap z TI TO Value.none) (hTI:IsPair s.heap TI (Value.ref i1) (Value.ref i2)) (hTO:IsPair s.heap TO b1 b2) (h1:Wlk s.heap i1 l1 0 xs) (h2:Wlk s.heap i2 l2 0 ys)
  (hQ:∀(h':Heap)(t':Nat),h'.DictOf (bO prog w) s.heap.objs.size (merged [] rs)->(∀c o,c≠z->c≠TO->c≠i1->c≠i2->s.heap.get? c=some o->h'.get? c=some o)->Q (.ref s.heap.objs.size) { s with heap:=h',toks:=t' }) :
  wpAny (model prog w) A (call (Value.type "dict") [Value.ref z]) Q E s:=by
 have fr:∀{c:Addr}{o:Obj},s.heap.get? c=some o->s.heap.objs.size≠c:=fun {c o} e q=>by
  have:=lt_size e;rw[<- q] at this;exact lt_irrefl _ this
 have g1:∃o,s.heap.get? i1=some o:=by rcases h1 with⟨⟨o,e,_⟩,_⟩|⟨⟨o,e,_⟩,_⟩ <;> exact⟨o,e⟩
 have g2:∃o,s.heap.get? i2=some o:=by rcases h2 with⟨⟨o,e,_⟩,_⟩|⟨⟨o,e,_⟩,_⟩ <;> exact⟨o,e⟩
 have k1:∃o,s.heap.get? l1=some o:=by rcases h1 with⟨_,⟨o,e,_⟩⟩|⟨_,⟨o,e,_⟩⟩ <;> exact⟨o,e⟩
 have k2:∃o,s.heap.get? l2=some o:=by rcases h2 with⟨_,⟨o,e,_⟩⟩|⟨_,⟨o,e,_⟩⟩ <;> exact⟨o,e⟩
 obtain⟨o1,e1⟩:=g1;obtain⟨o2,e2⟩:=g2;obtain⟨q1,f1⟩:=k1;obtain⟨q2,f2⟩:=k2;refine callType_codes F.kt_called_dict (F.kt_typeCall_dict_1 _) F.entry_dict_init (kt_code_dict_new _ (Q₁:=fun obj s₁=>obj=Value.ref s.heap.objs.size/\s₁={ s with heap:=s.heap.push { cls:=Value.type "dict",data:=Data.dict #[] } }) ⟨rfl,rfl⟩) fun obj s₁ q=>?_;obtain⟨rfl,rfl⟩:=q;have gd:(s.heap.push { cls:=Value.type "dict",data:=Data.dict #[] }).get? s.heap.objs.size=some { cls:=Value.type "dict",data:=Data.dict #[] }:=get?_push_size _ rfl;have up:∀c o,s.heap.get? c=some o->(s.heap.push { cls:=Value.type "dict",data:=Data.dict #[] }).get? c=some o:=fun c o e=>get?_push_of_some _ e;refine⟨⟨_,gd,rfl⟩,F.args_dict_init_2 _ _,?_⟩;unfold Builtin.«dict.__init__» Builtin.Dict.selfAndRest Builtin.Dict.notOrdered;refine wpAny_bind (wpAny_bind (wpAny_ite_true ψ ?_));refine wpAny_bind (wpAny_typeOf (T := "dict") ⟨_,gd,rfl⟩ (wpAny_ite_false rfl (wpAny_pure ?_)));show wpAny _ _ (Builtin.Dict.addrOf (Value.ref s.heap.objs.size) >>= _) _ _ _;refine wpAny_bind ?_;show wpAny _ _ (pure s.heap.objs.size) _ _ _;refine wpAny_pure (wpAny_pure ?_);show wpAny _ _ (Builtin.Dict.updateFrom "dict.__init__" s.heap.objs.size (Value.ref z) [] Value.none) _ _ _;unfold Builtin.Dict.updateFrom;refine wpAny_bind (wpAny_typeOf (T := "zip") ⟨_,up z _ hz,rfl⟩ (wpAny_ite_true rfl ?_));refine wpAny_bind (rA (A:=A.in1.in1) hh (up z _ hz) fun h' tk kp=>?_);refine wpAny_ite_true rfl ?_;refine wpAny_bind (wpAny_rule ?_);have up2:∀c o,s.heap.get? c=some o->h'.get? c=some o:=fun c o e=>kp c o (up c o e);refine wpAny_bind (wpAny_pyIter_zip (up2 z _ hz) (wpAny_pure ⟨Code.quiet_builtin _ ψ,?_⟩));have hd0:h'.DictOf (bO prog w) s.heap.objs.size []:=by
  obtain⟨_,_,vs,kv,o,es,ep,e,r⟩:=J7 (P:=prog) (w:=w) (H:=fun _=>none) s.heap hb;cases kv;exact⟨o,es,ep,kp _ o e,r⟩
 refine Ky (A:=A.in1) hh D S (fr hz) (fr hTI) (fr hTO) (fr e1) (fr e2) (fr f1) (fr f2) hn hl (up2 z _ hz) (up2 TI _ hTI) (up2 TO _ hTO) (h1.keep (fun o e=>up2 i1 o e) (fun o e=>up2 l1 o e)) (h2.keep (fun o e=>up2 i2 o e) (fun o e=>up2 l2 o e)) hd0 fun h3 t3 d3 old3=>?_;exact⟨rfl,hQ h3 t3 d3 fun c o c1 c2 c3 c4 e=>old3 c o c1 c2 c3 c4 (Ne.symm (fr e)) (up2 c o e)⟩
noncomputable def mz1 (h:Heap) (l1:Addr):Heap:=h.push { cls:=Value.type "list_iterator",data:=Data.fields #[Value.ref l1,Value.int 0 0] }
noncomputable def mz2 (h:Heap) (l1 l2:Addr):Heap:=(mz1 h l1).push { cls:=Value.type "tuple_iterator",data:=Data.fields #[Value.ref l2,Value.int 0 0] }
noncomputable def mz3 (h:Heap) (l1 l2:Addr):Heap:=(mz2 h l1 l2).push { cls:=Value.type "tuple",data:=Data.seq #[Value.ref h.objs.size,Value.ref (mz1 h l1).objs.size] }
noncomputable def mz4 (h:Heap) (l1 l2:Addr):Heap:=(mz3 h l1 l2).push { cls:=Value.type "tuple",data:=Data.seq #[Value.none,Value.none] }
noncomputable def mz5 (h:Heap) (l1 l2:Addr):Heap:=(mz4 h l1 l2).push { cls:=Value.type "zip",data:=Data.fields #[Value.none,Value.bool false,Value.bool false,Value.ref (mz2 h l1 l2).objs.size,Value.ref (mz3 h l1 l2).objs.size] }
theorem Gd (l1 l2:Addr) (xs ys:Array Value):Meets (Builtin.«zip.__new__» { pos:=[Value.type "zip",Value.ref l1,Value.ref l2] }) fun _ R s=>
  s.heap.IsList l1 xs/\s.heap.IsTuple l2 ys/\R (.ok (.ret (.ref (mz4 s.heap l1 l2).objs.size))) { s with heap:=mz5 s.heap l1 l2 }:=by
 refine Meets.of_wp fun prog w A R s h=>?_;obtain⟨ht1,ht2,hR⟩:=h;unfold Builtin.«zip.__new__» Builtin.SmallTypes.newClass;refine wpAny_bind (wpAny_bind (wpAny_pure (wpAny_ite_false rfl (wpAny_bind (wpAny_of_eq sub_zip (wpAny_ite_false rfl (wpAny_pure ?_)))))));show wpAny _ _ (Builtin.SmallTypes.iterAll [Value.ref l1,Value.ref l2] >>= _) _ _ _;refine wpAny_bind ?_;unfold Builtin.SmallTypes.iterAll;refine wpAny_bind ?_;rw[forIn_cons];refine wpAny_bind (wpAny_bind (wpAny_holding (wpAny_pyIter_list ht1 (wpAny_pure ?_))));show wpAny _ _ (forIn [Value.ref l2] #[Value.ref s.heap.objs.size] _) _ _ _;rw[forIn_cons];have ht2':(mz1 s.heap l1).IsTuple l2 ys:=by
  obtain⟨o,e,r⟩:=ht2;exact⟨o,get?_push_of_some _ e,r⟩
 refine wpAny_bind (wpAny_bind (wpAny_holding (wpAny_pyIter_tuple (s:={ s with heap:=mz1 s.heap l1 }) ht2' (wpAny_pure ?_))));show wpAny _ _ (forIn [] #[Value.ref s.heap.objs.size,Value.ref (mz1 s.heap l1).objs.size] _) _ _ _;rw[forIn_nil];refine wpAny_pure (wpAny_pure ?_);show wpAny _ _ (newTuple [Value.ref s.heap.objs.size,Value.ref (mz1 s.heap l1).objs.size] >>= _) _ _ { s with heap:=mz2 s.heap l1 l2 };refine wpAny_bind (wpAny_newTuple ?_ (by show 2<=sizeLine;decide));show wpAny _ _ (newTuple [Value.none,Value.none] >>= _) _ _ { s with heap:=mz3 s.heap l1 l2 };refine wpAny_bind (wpAny_newTuple ?_ (by show 2<=sizeLine;decide));show wpAny _ _ (newObj (.type "zip") (.fields #[.none,.bool false,.bool false,.ref (mz2 s.heap l1 l2).objs.size,.ref (mz3 s.heap l1 l2).objs.size]) >>= fun r=>ret r) _ _ { s with heap:=mz4 s.heap l1 l2 };refine wpAny_bind (wpAny_newObj_type ?_);exact wpAny_pure ⟨_,rfl,hR⟩
theorem yJ {prog:Program}{w:World}{A:Around}{E:Value->Shared->Prop}{s:Shared}{l1 l2:Addr}{xs ys:Array Value}{Q:Value->Shared->Prop}(hl1:s.heap.IsList l1 xs)(hl2:s.heap.IsTuple l2 ys)
  (h:∀h':Heap,IsZip h' (s.heap.objs.size+4) (s.heap.objs.size+2) (s.heap.objs.size+3) Value.none->IsPair h' (s.heap.objs.size+2) (Value.ref s.heap.objs.size) (Value.ref (s.heap.objs.size+1))->IsPair h' (s.heap.objs.size+3) Value.none Value.none->h'.IsListIter s.heap.objs.size l1 0->h'.IsTupleIter (s.heap.objs.size+1) l2 0 ->
   h'.objs.size=s.heap.objs.size+5->(∀c o,s.heap.get? c=some o->h'.get? c=some o)->Q (Value.ref (s.heap.objs.size+4)) { s with heap:=h' }):wpAny (model prog w) A (call (Value.type "zip") [Value.ref l1,Value.ref l2]) Q E s:=by
 refine callType_new F.called_zip δ (F.typeCall_zip_2 _ _) (F.newCall_zip_2 _ _) (fun obj=>F.args_object_init_3 obj _ _) F.entry_zip_new (Gd l1 l2 xs ys) ⟨hl1,hl2,?_⟩;have z1:(mz1 s.heap l1).objs.size=s.heap.objs.size+1:=size_push ..;have z2:(mz2 s.heap l1 l2).objs.size=s.heap.objs.size+2:=(size_push ..).trans (by rw[z1]);have z3:(mz3 s.heap l1 l2).objs.size=s.heap.objs.size+3:=(size_push ..).trans (by rw[z2]);have z4:(mz4 s.heap l1 l2).objs.size=s.heap.objs.size+4:=(size_push ..).trans (by rw[z3]);have z5:(mz5 s.heap l1 l2).objs.size=s.heap.objs.size+5:=(size_push ..).trans (by rw[z4]);have g5:(mz5 s.heap l1 l2).get? (mz4 s.heap l1 l2).objs.size=_:=get?_push_size _ rfl;have g4:(mz5 s.heap l1 l2).get? (mz3 s.heap l1 l2).objs.size=_:=get?_push_of_some _ (get?_push_size _ rfl);have g3:(mz5 s.heap l1 l2).get? (mz2 s.heap l1 l2).objs.size=_:=get?_push_of_some _ (get?_push_of_some _ (get?_push_size _ rfl));have g2:(mz5 s.heap l1 l2).get? (mz1 s.heap l1).objs.size=_:=get?_push_of_some _ (get?_push_of_some _ (get?_push_of_some _ (get?_push_size _ rfl)));have g1:(mz5 s.heap l1 l2).get? s.heap.objs.size=_:=get?_push_of_some _ (get?_push_of_some _ (get?_push_of_some _ (get?_push_of_some _ (get?_push_size _ rfl))));have hk:∀c o,s.heap.get? c=some o->(mz5 s.heap l1 l2).get? c=some o:=fun c o e=>get?_push_of_some _ (get?_push_of_some _ (get?_push_of_some _ (get?_push_of_some _ (get?_push_of_some _ e))));rw[z4,z2,z3] at g5;rw[z3] at g4;rw[z2,z1] at g3;rw[z1] at g2;rw[z4];generalize mz5 s.heap l1 l2=h' at z5 g5 g4 g3 g2 g1 hk;exact⟨⟨_,g5,rfl⟩,h h' g5 g3 g4 ⟨_,g1,rfl,rfl⟩ ⟨_,g2,rfl,rfl⟩ z5 hk⟩
theorem Cz {P:Program}{w:World}:∀{kvs:List (Key×V)}{its1 its2:List Value}{ys:List V},Vals (kvs.map fun kv=>kV kv.1) its1->Vals ys its2->ys.take kvs.length=kvs.map (·.2) ->
  ∃rs,KV kvs rs/\rs.length=kvs.length/\its1.length=kvs.length/\∀(j:Nat) kv,rs[j]?=some kv->∃u,its1[j]?=some u/\(bO P w).is kv.1 u=true/\its2[j]?=some kv.2
 | [],its1,its2,ys,h1,h2,h3=>by
  cases h1;exact⟨[],.nil,rfl,rfl,fun j kv e=>by simp at e⟩
 | kv::kvs,its1,its2,ys,h1,h2,h3=>by
  cases h1 with
  | cons r1 t1=>
   rename_i u us;cases h2 with
   | nil=>simp at h3
   | cons r2 t2=>
    rename_i y v ys' vs;simp only[length_cons,List.take_succ_cons,map_cons,List.cons.injEq] at h3;obtain⟨rs,k1,k2,k4,k3⟩:=Cz (P:=P) (w:=w) t1 t2 h3.2;refine⟨(kv.1,v)::rs,.cons ⟨rfl,by rw[<- h3.1];exact r2⟩ k1,by simp [k2],by simp [k4],fun j q e=>?_⟩;cases j with
    | zero=>
     simp only[List.getElem?_cons_zero,Option.some.injEq] at e;subst e;exact⟨u,by simp,JM r1,by simp⟩
    | succ j=>
     rw[List.getElem?_cons_succ] at e;obtain⟨u',e1,e2,e3⟩:=k3 j q e;exact⟨u',by simpa using e1,e2,by simpa using e3⟩
noncomputable def Ud (K:PySem.W.Frag)(ta:TA):TE:=fun σ H Q=>ta σ H fun vs H1=>∃(a b:Addr)(kvs:List (Key×V)) (ys:List V),vs=[.ref a,.ref b]/\(SqT K H1 a (kvs.map fun kv=>kV kv.1)\/SqL K H1 a (kvs.map fun kv=>kV kv.1))/\SqT K H1 b ys/\ys.take kvs.length=kvs.map (·.2)/\0<kvs.length/\kvs.length<=15/\∀p,H1 p=none->Q (.ref p) (upd H1 p (.dK (fX [] kvs)))
section
variable {X:Cx}
theorem M5 {a b:Expr}{ta:TA}{p p2 pos pos2:Pos}(hc:X.calm=true) (hgl:Gl X "dict") (hml:X.mg "dict" = none) (hg:Gl X "zip") (hm:X.mg "zip" = none) (ha:PA X [a,b] ta)
  (hs:starEach [a,b] X.env=[(false,eval a X.env),(false,eval b X.env)]:=by rfl) (hs2:starEach [b] X.env=[(false,eval b X.env)]:=by rfl)
  (he:starEach [.Call (.Name "zip" p2) [a,b] [] pos2] X.env=[(false,eval (.Call (.Name "zip" p2) [a,b] [] pos2) X.env)]:=by rfl) :
  PE X (.Call (.Name "dict" p) [.Call (.Name "zip" p2) [a,b] [] pos2] [] pos) (Ud X.K ta):=by
 intro pins s σ H Q I h;refine wpAny_Call_Name_kw (eU I hgl hml boot_dict ?_ δ δ);refine PyProof.Rows.callWith_type1 ?_ he rfl;rw[he];show wpAny _ _ (spliced ((false,eval (.Call (.Name "zip" p2) [a,b] [] pos2) X.env)::[])) _ _ s;refine Calls.spliced_cons ?_;refine Call_ (eU I hg hm boot_zip (PyProof.Rows.callWith_type1 (thA (ha pos2 pins s σ H _ I h) fun us s1 vs H1 I1 r1 q1=>?_) (by rw[hs,hs2]) (by rw[hs2];rfl)));obtain⟨l1,l2,kvs,ys,rfl,sq1,sq2,htk,hn,hl,q⟩:=q1;cases r1 with
 | cons r rr=>
  cases rr with
  | cons r' rr=>
   cases rr;cases r;cases r';have apart:l1<s1.heap.objs.size->l2<s1.heap.objs.size->ZipApart (s1.heap.objs.size+4) (s1.heap.objs.size+2) (s1.heap.objs.size+3) s1.heap.objs.size (s1.heap.objs.size+1) l1 l2:=by
    generalize s1.heap.objs.size=n;intro lt1 lt2;have lt1':@LT.lt Nat _ l1 n:=lt1;have lt2':@LT.lt Nat _ l2 n:=lt2;constructor <;> (intro(z:@Eq Nat _ _);omega)
   obtain⟨its2,rv2,p2',hz2⟩:=I1.tuple sq2;have lt2:l2<s1.heap.objs.size:=by obtain⟨_,e,_⟩:=p2';exact lt_size e
   have fin:∀(its1:List Value)(h':Heap),Vals (kvs.map fun kv=>kV kv.1) its1->l1<s1.heap.objs.size->IsZip h' (s1.heap.objs.size+4) (s1.heap.objs.size+2) (s1.heap.objs.size+3) Value.none->IsPair h' (s1.heap.objs.size+2) (Value.ref s1.heap.objs.size) (Value.ref (s1.heap.objs.size+1))->IsPair h' (s1.heap.objs.size+3) Value.none Value.none->Wlk h' s1.heap.objs.size l1 0 its1.toArray->Wlk h' (s1.heap.objs.size+1) l2 0 its2.toArray->h'.objs.size=s1.heap.objs.size+5->(∀c o,s1.heap.get? c=some o->h'.get? c=some o) ->
     wpAny (model X.prog X.w) X.A (call (Value.type "dict") [Value.ref (s1.heap.objs.size+4)]) (EP X pins σ Q) X.xe { s1 with heap:=h' }:=fun its1 h' rv1 lt1 b1 b2 b3 b4 b5 b6 hk=>by
    obtain⟨rs,k1,k2,k4,k3⟩:=Cz (P:=X.prog) (w:=X.w) rv1 rv2 htk;have I2:Inv X pins σ H1 { s1 with heap:=h' }:=I1.kept (t':=s1.toks) hk;refine sy (s:={ s1 with heap:=h' }) (rs:=rs) (xs:=its1.toArray) (ys:=its2.toArray) (I1.ok.hd hc) (apart lt1 lt2) ⟨fun j kv e=>?_,?_⟩ ω (le_trans (by omega:rs.length<=15) δ) I2.big b1 b2 b3 b4 b5 fun h3 t3 d3 old3=>?_
    ·obtain⟨u,e1,e2,e3⟩:=k3 j kv e;exact⟨u,by simpa using e1,e2,by simpa using e3⟩
    ·simp [k2,k4]
    have hp:H1 h'.objs.size=none:=I2.hok.fresh (le_refl _);have le5:s1.heap.objs.size<=h'.objs.size:=by rw[b6];exact Nat.le_add_right _ _
    have kp3:∀c o,s1.heap.get? c=some o->h3.get? c=some o:=fun c o e=>by
     have lt:=lt_size e;refine old3 c o ?_ ?_ ?_ ?_ (hk c o e) <;> (intro(z:@Eq Nat _ _);have lt':@LT.lt Nat _ c s1.heap.objs.size:=lt;omega)
    refine⟨.ref h'.objs.size,_,I1.laid (t':=t3) kp3 le5 (Tt ?_ ?_ (KV.merge k1 .nil) d3),rfl,q _ hp⟩
    ·have:=kI kvs [];simp only[length_nil] at this;exact le_trans (by omega:(fX [] kvs).length<=15) δ
    have:=I1.big;have ne:h'.objs.size≠sysModules:=by
     intro(z:@Eq Nat _ _);have t1:@LT.lt Nat _ sysModules s1.heap.objs.size:=this;have t2:@LE.le Nat _ s1.heap.objs.size h'.objs.size:=le5;omega
    exact beq_false_of_ne ne
   rcases sq1 with sq1|sq1
   ·obtain⟨its1,rv1,p1',hz1⟩:=I1.tuple sq1;have lt1:l1<s1.heap.objs.size:=by obtain⟨_,e,_⟩:=p1';exact lt_size e
    refine oA p1' p2' fun h' b1 b2 b3 b4 b5 b6 hk=>Calls.spliced_nil ?_;refine fin its1 h' rv1 lt1 b1 b2 b3 (.inl ⟨b4,?_⟩) (.inl ⟨b5,?_⟩) b6 hk
    ·obtain⟨o,e,r⟩:=p1';exact⟨o,hk _ o e,r⟩
    obtain⟨o,e,r⟩:=p2';exact⟨o,hk _ o e,r⟩
   obtain⟨its1,rv1,p1',hz1⟩:=I1.list sq1;have p1'':=p1'.isList;have lt1:l1<s1.heap.objs.size:=by obtain⟨_,e,_⟩:=p1'';exact lt_size e
   refine yJ p1'' p2' fun h' b1 b2 b3 b4 b5 b6 hk=>Calls.spliced_nil ?_;refine fin its1 h' rv1 lt1 b1 b2 b3 (.inr ⟨b4,?_⟩) (.inl ⟨b5,?_⟩) b6 hk
   ·obtain⟨o,e,r⟩:=p1'';exact⟨o,hk _ o e,r⟩
   obtain⟨o,e,r⟩:=p2';exact⟨o,hk _ o e,r⟩
end
noncomputable def dzQ (K:PySem.W.Frag)(vs:List V)(H1:Hp)(Q:VK):Prop:=∃(a b:Addr)(kvs:List (Key×V)) (ys:List V),vs=[.ref a,.ref b]/\(SqT K H1 a (kvs.map fun kv=>kV kv.1)\/SqL K H1 a (kvs.map fun kv=>kV kv.1))/\SqT K H1 b ys/\ys.take kvs.length=kvs.map (·.2)/\0<kvs.length/\kvs.length<=15/\∀p,H1 p=none->Q (.ref p) (upd H1 p (.dK (fX [] kvs)))
noncomputable def tDZ (K:PySem.W.Frag)(ta:TA):TE:=fun σ H Q=>ta σ H fun vs H1=>dzQ K vs H1 Q
theorem Ql (K:PySem.W.Frag)(ta:TA)(σ:St)(H:Hp)(Q:VK):tDZ K ta σ H Q=ta σ H fun vs H1=>dzQ K vs H1 Q:=rfl
noncomputable def dgQ (x y:V)(H:Hp)(Q:VK):Prop:=∃a v,x=.ref a/\Bo H a y (some v)/\Q v H
noncomputable def tDG (td ty:TE):TE:=fun σ H Q=>td σ H fun x H1=>ty σ H1 fun y H2=>dgQ x y H2 Q
theorem Qm (td ty:TE)(σ:St)(H:Hp)(Q:VK):tDG td ty σ H Q=td σ H fun x H1=>ty σ H1 fun y H2=>dgQ x y H2 Q:=rfl
section
variable {X:Cx}{o i e value:Expr}{pos pos' tpos:Pos}{td ty tv:TE}
theorem Ur {a b:Expr}{ta:TA}{p p2 pos pos2:Pos}(hc:X.calm=true) (hgl:Gl X "dict") (hml:X.mg "dict" = none) (hg:Gl X "zip") (hm:X.mg "zip" = none) (ha:QA X [a,b] ta)
  (hs:starEach [a,b] X.env=[(false,eval a X.env),(false,eval b X.env)]:=by rfl) (hs2:starEach [b] X.env=[(false,eval b X.env)]:=by rfl)
  (he:starEach [.Call (.Name "zip" p2) [a,b] [] pos2] X.env=[(false,eval (.Call (.Name "zip" p2) [a,b] [] pos2) X.env)]:=by rfl) :
  QE X (.Call (.Name "dict" p) [.Call (.Name "zip" p2) [a,b] [] pos2] [] pos) (tDZ X.K ta):=⟨M5 hc hgl hml hg hm ha.h hs hs2 he⟩
theorem Us (hu:X.A.units+1<cLine)(ho:QE X o td)(hi:QE X i ty)(hs:T9 i):QE X (.Subscript o i pos) (tDG td ty):=⟨M6 hu ho.h hi.h hs⟩
end
noncomputable def rdA:=And.intro @Ql @Qm
noncomputable def jC (zs:List Int):List (Key×V):=[(Sum.inr "is",V.int (zs.getD 0 0)),(Sum.inr "within",V.int (zs.getD 1 0)),(Sum.inr "below",V.int (zs.getD 2 0)),(Sum.inr "mask",V.int (zs.getD 3 0)),(Sum.inr "table",V.int (zs.getD 4 0))]
theorem Fb {zs:List Int}(h:5<=zs.length):(zs.map V.int).take (jC zs).length=(jC zs).map (·.2):=by
 match zs,h with
 | a::b::c::d::e::_,_=>rfl
theorem kne {a b:Str}(h:a≠b):¬(Sum.inr a:Key)=Sum.inr b:=fun e=>h (Sum.inr.inj e)
theorem J3 {zs:List Int}{i:Nat}(h:i<5):gQ (fX [] (jC zs)) (Sum.inr (bV i))=some (V.int (zs.getD i 0)):=by
 unfold fX jC;simp only[List.foldl_cons,List.foldl_nil,Gg,Gh]
 match i,h with
 | 0,_=>
  rw[show bV 0=("is" : Str) from rfl];rw[if_neg (kne (a := "is") (b := "table") ψ),if_neg (kne (a := "is") (b := "mask") ψ),if_neg (kne (a := "is") (b := "below") ψ),if_neg (kne (a := "is") (b := "within") ψ),if_pos rfl]
 | 1,_=>
  rw[show bV 1=("within" : Str) from rfl];rw[if_neg (kne (a := "within") (b := "table") ψ),if_neg (kne (a := "within") (b := "mask") ψ),if_neg (kne (a := "within") (b := "below") ψ),if_pos rfl]
 | 2,_=>
  rw[show bV 2=("below" : Str) from rfl];rw[if_neg (kne (a := "below") (b := "table") ψ),if_neg (kne (a := "below") (b := "mask") ψ),if_pos rfl]
 | 3,_=>
  rw[show bV 3=("mask" : Str) from rfl];rw[if_neg (kne (a := "mask") (b := "table") ψ),if_pos rfl]
 | 4,_=>
  rw[show bV 4=("table" : Str) from rfl];rw[if_pos rfl]
theorem Tq {zs:List Int}(few:Few zs)(i:Nat):-(2^40)<=zs.getD i 0/\zs.getD i 0<=2^40:=by
 rw[List.getD_eq_getElem?_getD];cases e:zs[i]? with
 | none=>exact⟨δ,δ⟩
 | some z=>
  have:=few z (mem_of_getElem? e);exact⟨by show -(2^40)<=z;omega,by show z<=2^40;omega⟩
theorem Cg {zs:List Int}(few:Few zs):∀w:List Nat,-(2^40*(w.length:Int))<=jU zs w/\jU zs w<=2^40*(w.length:Int)
 | []=>by
  show -(2^40*(0:Int))<=0/\(0:Int)<=2^40*0;omega
 | i::w=>by
  have ih:=Cg few w;have h:=Tq few i;rw[iJ,length_cons];have e:((w.length+1:Nat):Int)=(w.length:Int)+1:=ω;rw[e];omega
noncomputable def pk (c:Int×Int):List Int:=[c.1,c.2]
noncomputable def slc (ws:List Int)(i j:Nat):List Int:=(ws.drop i).take (j-i)
inductive Tr:List Int->Int->Prop
 | leaf (w:Int):Tr [w] 0
 | node {a b:List Int} {x y:Int}:Tr a x->Tr b y->Tr (a++b) ((a++b).sum+(x+y))
inductive PTr (ss:Sts)(ws:List Int):Nat->Nat->Pl->Int->Prop
 | leaf {i:Nat}:i<ss.length->PTr ss ws i (i+1) (.pick (cO ss i).2.2) 0
 | node {i k j:Nat} {a b:Pl} {x y:Int}:i<k->k<j->PTr ss ws i k a x->PTr ss ws k j b y->PTr ss ws i j (.low k a b) ((slc ws i j).sum+(x+y))
noncomputable def key2 (a b:Int):List Key:=[Sum.inl a,Sum.inl b]
theorem Ui {n:Nat}(h:n<=1000000):n<sizeLine:=lt_of_le_of_lt h δ
open PySem.W (Frag clsIn findIn takerIn InstAt looks_clsIn looks_findIn looks_takesIn Looks check_slot looks_mroIn mroIn set_plain osa_eq)
open Builtin Builtin.ObjectAttr
noncomputable def vbm:List Value:=[.type "ValueError",.type "Exception",.type "BaseException",.type "object"]
open PySem.W (Frag clsIn findIn takerIn InstAt looks_clsIn looks_findIn looks_takesIn Looks check_slot looks_mroIn mroIn handedIn handedOut_of)
structure XCls (K:PySem.W.Frag)(C D N fI:Addr):Prop where
 obj:∃nm q bs sn sub ab col dd k0 k1 k2 k3 k5,K.lookup C=some (excClassObj nm q C N bs (.ref D::vbm) true sn sub ab col dd k0 k1 k2 k3 k5 "ValueError.__new__")
 tail:PySem.W.tailIn K vbm (.ref D::vbm)=true
 nsok:PySem.W.nsOkIn K N=true
 init:nsIn K N "__init__" = some (some (.ref fI))
 set:PySem.W.findIn K (.ref C) "__setattr__" = some (some (.builtin "object.__setattr__"))
 ga:PySem.W.findIn K (.ref C) "__getattribute__" = some (some (.builtin "BaseException.__getattribute__"))
 gk:PySem.W.findIn K (.ref C) "__getattr__" = some none
noncomputable abbrev TJ:=St->Hp->(Hp->Prop)->Prop
open PySem.W (Frag clsIn findIn takerIn InstAt looks_clsIn looks_findIn looks_takesIn looks_specialIn specialIn takesIn Looks check_slot looks_mroIn mroIn handedIn handedOut_of class_get KitX)
open Builtin
mutual
noncomputable def noL:PyData->Bool
 | .list _=>false
 | .tuple ds=>jc ds
 | _=>true
noncomputable def jc:List PyData->Bool
 | []=>true
 | d::ds=>noL d&&jc ds
end
mutual
theorem aH.jh {ok ok':Addr->Prop}{H H':Hp}(k:∀a xs,ok a->H a=some (.tup xs)->ok' a/\H' a=some (.tup xs)):∀{v:V}{d:PyData},aH ok H v d->noL d=true->aH ok' H' v d
 | _,_,.non,_=>.non
 | _,_,.bl b,_=>.bl b
 | _,_,.int i,_=>.int i
 | _,_,.str x,_=>.str x
 | _,_,.lst o e z t,h=>by rw[noL] at h;cases h
 | _,_,.tup o e z t,h=>by
  rw[noL] at h;exact .tup (k _ _ o e).1 (k _ _ o e).2 z (aJ.jh k t h)
theorem aJ.jh {ok ok':Addr->Prop}{H H':Hp}(k:∀a xs,ok a->H a=some (.tup xs)->ok' a/\H' a=some (.tup xs)):∀{vs:List V}{ds:List PyData},aJ ok H vs ds->jc ds=true->aJ ok' H' vs ds
 | _,_,.nil,_=>.nil
 | _,_,.cons t r,h=>by
  rw[jc,and_eq_true] at h;exact .cons (aH.jh k t h.1) (aJ.jh k r h.2)
end
theorem mD (i:Int):noL (.int i)=true:=by simp [noL]
theorem Cm (i:Str):noL (.str i)=true:=by simp [noL]
theorem vh (ds:List PyData):noL (.tuple ds)=jc ds:=by rw[noL]
theorem m7 {ok:Addr->Prop}{H:Hp}:∀gs:List Int,aJ ok H (gs.map V.int) (gs.map PyData.int)
 | []=>.nil
 | g::gs=>.cons (.int g) (m7 gs)
theorem aH.put {ok:Addr->Prop}{H:Hp}{l:Addr}{xs ys:List V}{v:V}{d:PyData}(t:aH ok H v d)(h:noL d=true)(e:H l=some (.lst xs)):aH ok (upd H l (.lst ys)) v d:=
 t.jh (fun a zs o ea=>⟨o,by rw[aG (fun z=>by rw[z,e] at ea;cases ea),ea]⟩) h
noncomputable def S5:Pl->Bool
 | .pick _=>true
 | .tab=>true
 | _=>false
noncomputable def Vg (ss:Sts)(C:List (List Nat×Pl)):List (List Nat×Pl):=(C.map fun x=>m8 ss x.2 x.1).flatten
noncomputable def JD (S:List (List Nat×Pl)):Nat->Bool
 | 0=>false
 | i+1=>match S[i]? with
  | some x=>S5 x.2
  | none=>false
structure AhSt (ss:Sts)(S:List (List Nat×Pl))(tot:List (Nat×Nat))(i:Nat)(C:List (List Nat×Pl))(T:List Nat)(done:List (Nat×Nat)):Prop where
 fl:S.drop i=Vg ss C
 no:JD S i=false->T.length+1=C.length/\tot=done++Tg (C.map (·.2)) T i
 yes:JD S i=true->T.length=C.length/\((C=[]/\tot=done)\/∃t T',T=t::T'/\tot=done++(t,i)::Tg (C.map (·.2)) T' i)
theorem ln1 {α:Type}{us:List α}(h:us.length=1):∃a,us=[a]:=by
 cases us with
 | nil=>cases h
 | cons a r=>
  cases r with
  | nil=>exact⟨a,rfl⟩
  | cons b r=>cases h
theorem ln2 {α:Type}{us:List α}(h:us.length=2):∃a0 a1,us=[a0,a1]:=by
 cases us with
 | nil=>cases h
 | cons a0 r=>
  obtain⟨a1,rfl⟩:=ln1 (Nat.succ.inj h);exact⟨a0,a1,rfl⟩
theorem ln3 {α:Type}{us:List α}(h:us.length=3):∃a0 a1 a2,us=[a0,a1,a2]:=by
 cases us with
 | nil=>cases h
 | cons a0 r=>
  obtain⟨a1,a2,rfl⟩:=ln2 (Nat.succ.inj h);exact⟨a0,a1,a2,rfl⟩
theorem ln4 {α:Type}{us:List α}(h:us.length=4):∃a0 a1 a2 a3,us=[a0,a1,a2,a3]:=by
 cases us with
 | nil=>cases h
 | cons a0 r=>
  obtain⟨a1,a2,a3,rfl⟩:=ln3 (Nat.succ.inj h);exact⟨a0,a1,a2,a3,rfl⟩
theorem ln5 {α:Type}{us:List α}(h:us.length=5):∃a0 a1 a2 a3 a4,us=[a0,a1,a2,a3,a4]:=by
 cases us with
 | nil=>cases h
 | cons a0 r=>
  obtain⟨a1,a2,a3,a4,rfl⟩:=ln4 (Nat.succ.inj h);exact⟨a0,a1,a2,a3,a4,rfl⟩
end L2
set_option maxHeartbeats 4100000
namespace SRT
open PySem PyProof.Rows
noncomputable def Ris (xs:Array Nat):Prop:=xs.toList.Pairwise (· < ·)
theorem Ris.lt {xs:Array Nat}(h:Ris xs){i k x y:Nat}(hx:xs[i]?=some x)(hy:xs[k]?=some y)(hik:i<k):x<y:=by
 rw[<- getElem?_toList] at hx hy;obtain⟨h1,rfl⟩:=List.getElem?_eq_some_iff.mp hx;obtain⟨h2,rfl⟩:=List.getElem?_eq_some_iff.mp hy;exact pairwise_iff_getElem.mp h i k h1 h2 hik
theorem Oj {xs:Array Nat}(hr:Ris xs)(j:Nat):∀fuel lo hi,hi-lo<=fuel->lo<=hi->hi<=xs.size->(∀i x,xs[i]?=some x->i<lo->x<j)->(∀i x,xs[i]?=some x->hi<=i->j<=x) ->
  (∀i x,xs[i]?=some x->(i<SetTable.below.go xs j fuel lo hi↔x<j))/\SetTable.below.go xs j fuel lo hi<=xs.size:=by
 intro fuel
 induction fuel with
 | zero=>
  intro lo hi h1 h2 h3 h4 h5;have e:hi=lo:=ω;subst e;refine⟨fun i x hx=>⟨fun hl=>h4 i x hx hl,fun hl=>?_⟩,h3⟩;show i<hi;refine Nat.lt_of_not_le fun hle=>?_;have:=h5 i x hx hle;omega
 | succ fuel ih=>
  intro lo hi h1 h2 h3 h4 h5;show(∀i x,xs[i]?=some x->(i<(if lo<hi then if xs.getD ((lo+hi)/2) j<j then SetTable.below.go xs j fuel ((lo+hi)/2+1) hi else SetTable.below.go xs j fuel lo ((lo+hi)/2) else lo)↔x<j))/\(if lo<hi then if xs.getD ((lo+hi)/2) j<j then SetTable.below.go xs j fuel ((lo+hi)/2+1) hi else SetTable.below.go xs j fuel lo ((lo+hi)/2) else lo)<=xs.size;by_cases hl:lo<hi
  ·rw[if_pos hl];have hm:(lo+hi)/2<xs.size:=ω;have hg:xs[(lo+hi)/2]?=some xs[(lo+hi)/2]:=by simp [hm]
   have hd:xs.getD ((lo+hi)/2) j=xs[(lo+hi)/2]:=by simp [Array.getD,hm]
   rw[hd];by_cases hc:xs[(lo+hi)/2]<j
   ·rw[if_pos hc];refine ih _ _ ω ω h3 (fun i x hx hi'=>?_) h5;by_cases e:i=(lo+hi)/2
    ·subst e;rw[hg] at hx;cases hx;exact hc
    exact lt_trans (hr.lt hx hg ω) hc
   rw[if_neg hc];refine ih _ _ ω ω ω h4 (fun i x hx hi'=>?_);by_cases e:i=(lo+hi)/2
   ·subst e;rw[hg] at hx;cases hx;omega
   have:=hr.lt hg hx ω;omega
  rw[if_neg hl];have e:hi=lo:=ω;subst e;refine⟨fun i x hx=>⟨fun hl=>h4 i x hx hl,fun hl=>?_⟩,h3⟩;refine Nat.lt_of_not_le fun hle=>?_;have:=h5 i x hx hle;omega
theorem lN {xs:Array Nat}(hr:Ris xs)(j:Nat):(∀i x,xs[i]?=some x->(i<SetTable.below xs j↔x<j))/\SetTable.below xs j<=xs.size:=by
 unfold SetTable.below;refine Oj hr j _ _ _ ω ω (le_refl _) (fun _ _ _ h=>absurd h ω) fun i x hx hi=>?_;have:=(Array.getElem?_eq_some_iff.mp hx).1;omega
theorem yL {xs:Array Nat}(hr:Ris xs){j:Nat}(hn:xs[SetTable.below xs j]?≠some j):∀x∈xs.toList,x≠j:=by
 intro x hx e;subst e;obtain⟨i,hi,e⟩:=mem_iff_getElem.mp hx;have hg:xs[i]?=some x:=by rw[<- getElem?_toList,getElem?_eq_getElem hi,e]
 have hs:=lN hr x;have h1:=(hs.1 i x hg);have h2:SetTable.below xs x<=i:=by
  refine Nat.le_of_not_lt fun h=>?_;exact lt_irrefl _ (h1.mp h)
 rcases lt_or_ge (SetTable.below xs x) i with h|h
 ·have hi':i<xs.size:=by simpa using hi
  have hb:SetTable.below xs x<xs.size:=ω;have hgb:xs[SetTable.below xs x]?=some xs[SetTable.below xs x]:=by simp [hb]
  have l1:=hr.lt hgb hg h;have:=(hs.1 _ _ hgb).mpr l1;omega
 have e:SetTable.below xs x=i:=ω;rw[e] at hn;exact hn hg
theorem rP {α:Type}(xs:Array α)(p:Nat)(x:α):(SetTable.insertAt xs p x).toList=xs.toList.take p++x::xs.toList.drop p:=by
 unfold SetTable.insertAt;simp [Array.toList_extract,List.extract,take_of_length_le]
theorem zj {xs:Array Nat}(hr:Ris xs){j:Nat}(hn:xs[SetTable.below xs j]?≠some j):Ris (SetTable.insertAt xs (SetTable.below xs j) j):=by
 have hs:=lN hr j;have hne:=yL hr hn;show(SetTable.insertAt xs (SetTable.below xs j) j).toList.Pairwise (· < ·);rw[rP];have hx:xs.toList.Pairwise (· < ·):=hr;rw[List.pairwise_append,pairwise_cons];refine⟨hx.sublist (List.take_sublist _ _),⟨fun y hy=>?_,hx.sublist (List.drop_sublist _ _)⟩,fun a ha b hb=>?_⟩
 ·obtain⟨i,hi,e⟩:=mem_iff_getElem.mp hy;rw[List.getElem_drop] at e;have hl:SetTable.below xs j+i<xs.toList.length:=by rw[length_drop] at hi;omega
  have hg:xs[SetTable.below xs j+i]?=some y:=by rw[<- getElem?_toList,getElem?_eq_getElem hl,e]
  have h1:=hs.1 _ _ hg;have h2:=hne y (List.mem_of_mem_drop hy);have:¬(y<j):=fun h=>by have:=h1.mpr h;omega
  omega
 have l1:a<j:=by
  obtain⟨i,hi,e⟩:=mem_iff_getElem.mp ha;rw[List.getElem_take] at e;have hl:i<SetTable.below xs j/\i<xs.toList.length:=by rw[length_take] at hi;omega
  have hg:xs[i]?=some a:=by rw[<- getElem?_toList,getElem?_eq_getElem hl.2,e]
  exact(hs.1 _ _ hg).mp hl.1
 rcases mem_cons.mp hb with rfl|hb
 ·exact l1
 obtain⟨i,hi,e⟩:=mem_iff_getElem.mp hb;rw[List.getElem_drop] at e;have hl:SetTable.below xs j+i<xs.toList.length:=by rw[length_drop] at hi;omega
 have hg:xs[SetTable.below xs j+i]?=some b:=by rw[<- getElem?_toList,getElem?_eq_getElem hl,e]
 have h1:=hs.1 _ _ hg;have:¬(b<j):=fun h=>by have:=h1.mpr h;omega
 omega
noncomputable def TOk (b:Bool)(t:SetTable):Prop:=Ris t.place/\t.dummies=#[]/\t.led=b
theorem Dy {b:Bool}{t:SetTable}(h:TOk b t)(p:Bool):TOk b { t with plain:=p }:=h
theorem DQ (n:Nat):Ris (Array.range n):=by
 show(Array.range n).toList.Pairwise (· < ·);rw[Array.toList_range];exact pairwise_lt_range
theorem gU {b:Bool}{t:SetTable}(h:TOk b t)(n:Nat):TOk b (t.standIn n):=⟨DQ n,rfl,h.2.2⟩
theorem rB {b:Bool}{t:SetTable}(h:TOk b t)(n:Nat):TOk b (t.orStandIn n):=by
 unfold SetTable.orStandIn;split
 ·exact h
 exact gU h n
theorem sI (f m:Nat)(b:Bool):TOk b (SetTable.fresh f m b):=⟨List.Pairwise.nil,rfl,rfl⟩
theorem zu {t:SetTable}(hd:t.dummies=#[]){f:Nat->Int}{h:Int}(hf:∀i,(f i == h)=false):∀(fuel:Nat)(p:SetTable.Probe),p.dummy=none ->
  ∀m,SetTable.probe.go t f h fuel p=some m->∃j,m=.empty j none/\t.place[SetTable.below t.place j]?≠some j:=by
 intro fuel
 induction fuel with
 | zero=>intro p _ m e;exact absurd e (by simp [SetTable.probe.go])
 | succ fuel ih=>
  intro p hp m e;unfold SetTable.probe.go at e;have hnd:∀j,SetTable.has t.dummies j=false:=fun j=>by rw[hd];simp [SetTable.has]
  have hadv:∀q:SetTable.Probe,q.dummy=none->(t.advance q).dummy=none:=fun q hq=>by
   unfold SetTable.advance;split
   ·exact hq
   exact hq
  split at e
  ·rename_i hs;cases e;refine⟨p.j,by rw[hp],fun hc=>?_⟩;unfold SetTable.slot at hs;simp [hc] at hs
  ·rename_i hs;unfold SetTable.slot at hs;dsimp only at hs;split at hs
   ·cases hs
   rw[hnd] at hs;simp at hs
  rw[hf,if_neg (by simp)] at e;exact ih _ (hadv _ hp) m e
theorem yr {t:SetTable}(hd:t.dummies=#[]){h:Int}{j:Nat}{b:Bool}(e:t.freeSlot h=some (j,b)):t.place[SetTable.below t.place j]?≠some j:=by
 unfold SetTable.freeSlot SetTable.probe at e;split at e
 ·rename_i j' d hp;obtain⟨j2,e2,hn⟩:=zu hd (f:=fun _=>h+1) (h:=h) (fun i=>by simp;omega) _ _ rfl _ hp;cases e2;simp at e;rw[<- e.1];exact hn
 cases e
theorem Ae {b:Bool}{t:SetTable}(ht:TOk b t)(es:Array (Int×Value))(h:Int)(x:Value):TOk b (layNew t es h x).2.1:=by
 unfold layNew;split
 ·rename_i slot wd hs;have hn:=yr ht.2.1 hs;refine rB ?_ _;unfold SetTable.put;refine⟨zj ht.1 hn,?_,ht.2.2⟩;show(if SetTable.has t.dummies slot=true then SetTable.eraseAt t.dummies (SetTable.below t.dummies slot) else t.dummies)=#[];rw[ht.2.1];rfl
 exact gU ht _
theorem uU {b:Bool}{t:SetTable}(ht:TOk b t)(es:Array (Int×Value))(n:Nat):TOk b (relayAll t es n).2.1:=by
 unfold relayAll;split
 ·rename_i t' order hr;dsimp only;split
  ·unfold SetTable.relaid SetTable.laid at hr;cases ho:SetTable.layClean (SetTable.sizeAbove n-1) (es.map (·.1)) with
   | none=>rw[ho] at hr;cases hr
   | some owner=>
    rw[ho] at hr;simp only[Option.bind_eq_bind,Option.bind_some,Option.pure_def,Option.some.injEq,Prod.mk.injEq] at hr;obtain⟨rfl,-⟩:=hr;refine⟨?_,rfl,ht.2.2⟩;show(List.map _ _).toArray.toList.Pairwise (· < ·);rw[List.toList_toArray,pairwise_map,List.pairwise_filterMap];refine pairwise_lt_range.imp fun {a c} hac p hp q hq=>?_;simp only[map_eq_some_iff] at hp hq;obtain⟨_,_,rfl⟩:=hp;obtain⟨_,_,rfl⟩:=hq;exact hac
  exact gU ht _
 exact gU ht _
end SRT
namespace SRT
open PySem PyProof.Rows
section
variable {prog:Program}{w:World}{K:Type}[DecidableEq K]
noncomputable def SetT (knd:KeyKind prog w K)(b:Bool)(h:Heap)(a:Addr)(S:K->Bool)(n:Nat):Prop:=
 ∃o es ep t,h.get? a=some o/\o.ExactSet/\o.data=.set es ep t/\(ElemsOf knd es.toList/\(∀k,S k=true ↔ ∃e∈es.toList,knd.is k e.2=true)/\es.size<scanBound)/\t.fits es.size=true/\es.size=n/\TOk b t
variable {knd:KeyKind prog w K}{A:Around}{E:Value->Shared->Prop}{s:Shared}{b:Bool}
theorem SetT.get {h h':Heap}{a:Addr}{S:K->Bool}{n:Nat}(hS:SetT knd b h a S n)(hk:∀o,h.get? a=some o->h'.get? a=some o):SetT knd b h' a S n:=
 let ⟨o,es,ep,t,ho,r⟩:=hS;⟨o,es,ep,t,hk o ho,r⟩
theorem SetT.congr {h:Heap}{a:Addr}{S S':K->Bool}{n n':Nat}(hS:SetT knd b h a S n)(e:∀k,S k=S' k)(en:n=n'):SetT knd b h a S' n':=by
 have:S=S':=funext e;subst this;subst en;exact hS
theorem tG {h:Heap}{a:Addr}{o:Obj}{es:Array (Int×Value)}{ep:Nat}{t:SetTable}(ho:h.get? a=some o)(hex:o.ExactSet)(hd:o.data=.set es ep t)
  {es':Array (Int×Value)} {t':SetTable} {S':K->Bool} (hel:ElemsOf knd es'.toList/\(∀k,S' k=true ↔ ∃e∈es'.toList,knd.is k e.2=true)/\es'.size<scanBound) (hf:t'.fits es'.size=true) (ht:TOk b t') :
  (h.update a (Obj.putSet es' t')).get? a=some { o with data:=.set es' (ep+1) t' }/\SetT knd b (h.update a (Obj.putSet es' t')) a S' es'.size:=by
 have hg:(h.update a (Obj.putSet es' t')).get? a=some { o with data:=.set es' (ep+1) t' }:=by
  have q:=get?_update_self (Obj.putSet es' t') ho (by rw[putSet_of es' t' hd];rfl);rw[putSet_of es' t' hd] at q;exact q
 exact⟨hg,_,es',ep+1,t',hg,hex,rfl,hel,hf,rfl,ht⟩
theorem yO {g:Bool->Sem Unit}(hg:∀(c:Bool)(s₁:Shared)(Q':Unit->Shared->Prop),Q' () s₁->wpAny (model prog w) A (g c) Q' E s₁)
  {a:Addr} {o:Obj} {es:Array (Int×Value)} {ep:Nat} {t:SetTable} (ho:s.heap.get? a=some o) (hex:o.ExactSet) (hd:o.data=.set es ep t)
  {es1:Array (Int×Value)} {t2:SetTable} {S':K->Bool} (hel:ElemsOf knd es1.toList/\(∀k,S' k=true ↔ ∃e∈es1.toList,knd.is k e.2=true)/\es1.size<scanBound)
  (hf:t2.fits es1.size=true) (ht:TOk b t2) {wd:Bool} {R:Option Bool->Shared->Prop}
  (h:∀h',Heap.SameBut a s.heap h'->SetT knd b h' a S' es1.size->R (some true) { s with heap:=h' }) :
  wpAny (model prog w) A (storeSet a es1 t2 >>= fun _=>if (!wd&&t2.tooFull)=true then (g (relayAll t2 es1 (SetTable.grown es1.size)).2.2 >>= fun _=>storeSet a (relayAll t2 es1 (SetTable.grown es1.size)).1 (relayAll t2 es1 (SetTable.grown es1.size)).2.1 >>= fun _=>pure (some true)) else pure (some true)) R E s:=by
 refine wpAny_bind (wpAny_storeSet_of ho hd ?_ (fits_of_scanBound hel.2.2));obtain⟨ho1,hS1⟩:=tG (knd:=knd) ho hex hd hel hf ht;have hsb1:=Heap.SameBut.update s.heap a (Obj.putSet es1 t2);by_cases hc:(!wd&&t2.tooFull)=true
 ·rw[if_pos hc];have hp:=relayAll_perm t2 es1 (SetTable.grown es1.size);have hfr:=relayAll_fits t2 es1 (SetTable.grown es1.size);have htr:=uU ht es1 (SetTable.grown es1.size);generalize relayAll t2 es1 (SetTable.grown es1.size)=Rl at hp hfr htr |-;obtain⟨es2,t3,gv⟩:=Rl;dsimp only at hp hfr htr |-;have hsz:es2.size=es1.size:=by rw[<- length_toList,hp.length_eq,length_toList]
  have hel2:ElemsOf knd es2.toList/\(∀k,S' k=true ↔ ∃e∈es2.toList,knd.is k e.2=true)/\es2.size<scanBound:=
   ⟨hel.1.perm hp,fun k=>(hel.2.1 k).trans ⟨fun⟨e,he,q⟩=>⟨e,hp.mem_iff.mpr he,q⟩,fun⟨e,he,q⟩=>⟨e,hp.mem_iff.mp he,q⟩⟩,by rw[hsz];exact hel.2.2⟩
  refine wpAny_bind (hg _ _ _ (wpAny_bind (wpAny_storeSet_of ho1 rfl ?_ (fits_of_scanBound hel2.2.2))));obtain⟨_,hS2⟩:=tG (knd:=knd) ho1 hex rfl hel2 hfr htr;rw[hsz] at hS2;exact wpAny_pure (h _ (hsb1.trans (Heap.SameBut.update _ a _)) hS2)
 rw[if_neg hc];exact wpAny_pure (h _ hsb1 hS1)
theorem wH {a:Addr}{S:K->Bool}{n:Nat}{k:K}{x:Value}{Q:Bool->Shared->Prop}(hkey:knd.is k x=true)(hsc:x.scannable=true)(hS:SetT knd b s.heap a S n)(hroom:n+1<scanBound)
  (h:∀h',Heap.SameBut a s.heap h'->SetT knd b h' a (fun k'=>S k'||decide (k'=k)) (if S k then n else n+1)->Q (!S k) { s with heap:=h' }) :
  wpAny (model prog w) A (setAddHashed a x (knd.hash k)) Q E s:=by
 obtain⟨o,es,ep,t,ho,hex,hd,hel,hf,hn,ht⟩:=hS;unfold setAddHashed setAddHashedIn;refine wpAny_holding (wpAny_bind (wpAny_setState_of ho hd hf ?_));dsimp only;rw[byScan_of hsc hel.2.2 hel.1,if_pos rfl];unfold setAddByScan;refine wpAny_bind (wpAny_bind (wpAny_rule (wpAny_bind (wpAny_setScan_of hkey ho hd hf hel.1 ?_))));cases hr:List.findIdx? (fun e=>knd.is k e.2) es.toList with
 | some j=>
  dsimp only;obtain⟨hj,hpj,_⟩:=List.findIdx?_eq_some_iff_getElem.mp hr;have hSk:S k=true:=(hel.2.1 k).mpr ⟨es.toList[j],getElem_mem hj,hpj⟩;refine wpAny_pure (wpAny_pure ?_);have q:=h s.heap (Heap.SameBut.refl a s.heap) ⟨o,es,ep,t,ho,hex,hd,⟨hel.1,fun k'=>by
   rw[Bool.or_eq_true,decide_eq_true_eq,<- hel.2.1 k'];exact⟨fun hk=>hk.elim id (fun e=>e ▸ hSk),.inl⟩,hel.2.2⟩,hf,by rw[hSk];exact hn,ht⟩
  rw[hSk] at q;exact q
 | none=>
  dsimp only;have hSk:S k=false:=by
   cases hk:S k with
   | false=>rfl
   | true=>
    obtain⟨e,he,hp⟩:=(hel.2.1 k).mp hk;have q:=List.findIdx?_eq_none_iff.mp hr e he;rw[hp] at q;exact Bool.noConfusion q
  have hgw:∀(c:Bool){s₁:Shared}{Q':Unit->Shared->Prop},Q' () s₁->wpAny (model prog w) A (match c with|true=>rule "set.scan.the-table-gave-way" | false=>pure ()) Q' E s₁:=
   fun c s₁ Q' hq=>by cases c <;> first|exact wpAny_pure hq|exact wpAny_rule hq
  have hperm:=layNew_perm t es (knd.hash k) x;have hfits:=layNew_fits t es (knd.hash k) x;have htok:=Ae ht es (knd.hash k) x;generalize layNew t es (knd.hash k) x=L at hperm hfits htok |-;obtain⟨es1,t1,wd,gv⟩:=L;dsimp only at hperm hfits htok |-;rw[toList_push] at hperm;have hsz1:es1.size=n+1:=by rw[<- length_toList,hperm.length_eq,length_append,length_toList,hn];rfl
  have hel1:ElemsOf knd es1.toList/\(∀k',(S k'||decide (k'=k))=true ↔ ∃e∈es1.toList,knd.is k' e.2=true)/\es1.size<scanBound:=
   ⟨(hel.1.push hkey hsc).perm hperm,mem_push_iff hkey hel.2.1 hperm,by rw[hsz1];exact hroom⟩
  have hend:∀h',Heap.SameBut a s.heap h'->SetT knd b h' a (fun k'=>S k'||decide (k'=k)) es1.size->Q true { s with heap:=h' }:=by
   intro h' hsb hS';have q:=h h' hsb;rw[hSk] at q;rw[hsz1] at hS';exact q hS'
  refine wpAny_bind (hgw _ ?_);by_cases hpl:t1.plain=true
  ·rw[if_pos hpl,hashByValue_scannable 8 hsc];refine wpAny_bind (wpAny_pure ?_);refine yO (b:=b) ?_ ho hex hd hel1 (t2:=if plainKind x=true then t1 else { t1 with plain:=false }) ?_ ?_ ?_
   ·intro c s₁ Q' hq;cases c <;> first|exact wpAny_pure hq|exact wpAny_rule hq
   ·split
    ·exact hfits
    exact SetTable.fits_plain_off hfits
   ·split
    ·exact htok
    exact Dy htok false
   intro h' hsb hS';dsimp only;exact wpAny_pure (hend h' hsb hS')
  rw[if_neg hpl];refine wpAny_bind (wpAny_pure ?_);refine yO (b:=b) ?_ ho hex hd hel1 hfits htok ?_
  ·intro c s₁ Q' hq;cases c <;> first|exact wpAny_pure hq|exact wpAny_rule hq
  intro h' hsb hS';dsimp only;exact wpAny_pure (hend h' hsb hS')
end
end SRT
namespace SRT
open PySem PyProof.Rows
noncomputable abbrev bt (w:World):Bool:=w.params.followText "set-order"
section
variable {prog:Program}{w:World}{A:Around}{R:Result->Shared->Prop}{I:Addr}{fp wr:List Addr}{G:Array GenState->Array GenState->Prop}{n:Nat}{P:Nat->Value->Prop}{St:Nat->Shared->Prop}{b:Bool}
theorem Gi (W:WalksS prog w A.in1 I fp wr G n P St)(S:Addr)(hSf:S∉fp)(val:Nat->Int)(hval:∀i v,P i v->∃t,v=.int (val i) t)(hb:n+1<scanBound) :
  ∀(k i:Nat)(s:Shared),n-i=k->i<=n->St i s->SetT (intKind prog w) b s.heap S (fun k'=>(firstMet val i).any (· == k')) (firstMet val i).length ->
   (∀s',Moved (S::wr) G s s'->SetT (intKind prog w) b s'.heap S (fun k'=>(firstMet val n).any (· == k')) (firstMet val n).length->R (.ok (.ret .none)) s') ->
   codeAny (model prog w) A (.builtin "set.update.loop" ⟨[.ref S,.ref I],[]⟩) R s:=by
 have hSw:S∉wr:=fun h=>hSf (W.sub _ h);have hsub:∀c∈wr,c∈S::wr:=fun c hc=>mem_cons_of_mem _ hc;intro k
 induction k with
 | zero=>
  intro i s hk hi hst hS hR;have hin:i=n:=ω;subst hin;refine codeAny_builtin F.entry_set_update_loop ?_;rw[Around.under_plainId F.plain_set_update_loop _];show wpAny _ A.in1 (pyNext (.ref I) >>= _) _ _ s;refine wpAny_bind (W.done s _ _ hst fun s' hm=>?_);show wpAny _ A.in1 (ret Value.none) _ _ s';exact wpAny_pure (hR s' (hm.mono hsub) (hS.get fun o e=>hm.heap S _ hSw e))
 | succ k ih=>
  intro i s hk hi hst hS hR;have hlt:i<n:=ω;refine codeAny_builtin F.entry_set_update_loop ?_;rw[Around.under_plainId F.plain_set_update_loop _];show wpAny _ A.in1 (pyNext (.ref I) >>= _) _ _ s;refine wpAny_bind (W.item i s _ _ hlt hst fun v s' hP hst' hm=>?_);obtain⟨t,rfl⟩:=hval i v hP;have hS':=hS.get fun o e=>hm.heap S _ hSw e;show wpAny _ A.in1 (holding [Value.int (val i) t] (setAdd S (.int (val i) t)) >>= _) _ _ s';refine wpAny_bind (wpAny_holding ?_);unfold setAdd;refine wpAny_holding (wpAny_bind ((intKind prog w).pyHash (k:=val i) (intKind_is _ _ _ _) ?_));have hroom:(firstMet val i).length+1<scanBound:=by have:=firstMet_length_le val i;omega
  refine wH (knd:=intKind prog w) (s:={ s' with toks:=s'.toks+1 }) (intKind_is _ _ _ _) rfl hS' hroom fun h' hsb hS2=>?_;have hSi:SetT (intKind prog w) b h' S (fun k'=>(firstMet val (i+1)).any (· == k')) (firstMet val (i+1)).length:=
   hS2.congr (fun k'=>by rw[firstMet_succ,step_any]) (by rw[firstMet_succ,step_length])
  refine wpAny_pure ⟨plainId_quiet F.plain_set_update_loop _,ih (i+1) _ ω hlt (W.frame _ s' _ _ hst' (le_succ _) fun c hc o e=>?_) hSi fun s'' hm'' hS''=>?_⟩
  ·rw[hsb.2 c (fun h:c=S=>hSf (by rw[<- h];exact hc))];exact e
  refine hR s'' (Moved.trans W.gtrans ((hm.mono hsub).then_heap (le_succ _) fun c o hc e=>?_) hm'') hS'';rw[hsb.2 c (fun h:c=S=>hc (by rw[h];exact mem_cons_self))];exact e
end
noncomputable abbrev lX (w:World):Obj:={ cls:=.type "set",dict:=none,data:=.set #[] 0 (.fresh 0 0 (!bt w)) }
section
variable {prog:Program}{w:World}{A:Around}{E:Value->Shared->Prop}{s:Shared}
theorem Fi (a:Value){Q₁:Value->Shared->Prop}(h:Q₁ (.ref s.heap.objs.size) { s with heap:=s.heap.push (lX w) }) :
  codeAny (model prog w) A (.call (.builtin "set.__new__") ⟨[.type "set",a],[]⟩) (wants Q₁ E) s:=by
 refine codeAny_of_tree (show wpAny _ A.in1 (checkBuiltinCall "set.__new__" ⟨[.type "set",a],[]⟩ >>= fun _=>again (.builtin "set.__new__" ⟨[.type "set",a],[]⟩)) _ _ s from ?_);refine wpAny_bind (wpAny_of_eq (F.newCall_set_1 a) (wpAny_pure ⟨plainId_quiet F.plain_set_new _,codeAny_builtin F.entry_set_new ?_⟩));rw[Around.under_plainId F.plain_set_new _];unfold Builtin.«set.__new__» Builtin.Frozenset.newClass;have hsub:=sub_set_self;obtain⟨hp,g,d,tk,os⟩:=s;dsimp only
 wp_walk
 refine wpAny_askSetting (wpAny_pure ?_);dsimp only;simp only[newObj];exact wpAny_bind (wpAny_alloc (wpAny_pure (wpAny_pure h)))
set_option maxHeartbeats 3200000 in
theorem Fj {l:Addr}{items:Array Value}{ns:List Int}{Q:Value->Shared->Prop}(hh:A.handled=none)(hl:s.heap.IsList l items)(hi:IntsAre items.toList ns)(hb:items.size+1<scanBound)
  (h:∀(h':Heap)(tk:Nat),SetT (intKind prog w) (!bt w) h' s.heap.objs.size (fun k'=>(firstMet (fun i=>ns.getD i 0) items.size).any (· == k')) (firstMet (fun i=>ns.getD i 0) items.size).length ->
   (∀c o,c<s.heap.objs.size->s.heap.get? c=some o->h'.get? c=some o)->Q (.ref s.heap.objs.size) { s with heap:=h',toks:=tk }) :
  wpAny (model prog w) A (call (.type "set") [.ref l]) Q E s:=by
 obtain⟨c,tl,hmro⟩:=F.called_set.mro;have hmade:=F.called_set.made;have hsub:=F.called_set.sub;refine wpAny_call (codeAny_of_tree (show wpAny _ _ (callAny (.type "set") _) _ _ _ from wpAny_pure ⟨Code.quiet_builtin _ ψ,codeAny_builtin F.entry_type_call ?_⟩));rw[Around.under_plain (weight_type_call_type "set" [.ref l] []) rfl];have h1:=F.called_set.notType;have h2:=F.called_set.canCreate;have hct:=F.typeCall_set_1 (.ref l)
 repeat (any_goals (first|assumption|wp_step))
 refine codeAny_mono (Fi (.ref l) (E:=E) (Q₁:=fun obj s₁=>obj=.ref s.heap.objs.size/\s₁={ s with heap:=s.heap.push (lX w) }) ⟨rfl,rfl⟩) fun r s₁ hr=>?_;cases r with
 | error e=>exact hr
 | ok fl=>
  cases fl with
  | ret obj=>
   obtain⟨rfl,rfl⟩:=hr;have hS:(s.heap.push (lX w)).get? s.heap.objs.size=some (lX w):=get?_push_size _ rfl;have hT:Shared.TypeIs { s with heap:=s.heap.push (lX w) } (.ref s.heap.objs.size) "set" := ⟨_,hS,rfl⟩;have hli:=F.called_set.init.lookup;have hbi:=F.called_set.init.bind (.ref s.heap.objs.size)
   repeat (any_goals (first|assumption|wp_step))
   refine codeAny_mono (codeAny_call_builtin (R:=wants (fun r s₂=>r=.none/\∃h' tk,s₂={ s with heap:=h',toks:=tk } /\
     SetT (intKind prog w) (!bt w) h' s.heap.objs.size (fun k'=>(firstMet (fun i=>ns.getD i 0) items.size).any (· == k')) (firstMet (fun i=>ns.getD i 0) items.size).length /\
     (∀c o,c<s.heap.objs.size->s.heap.get? c=some o->h'.get? c=some o)) E) F.called_set.init.plain F.entry_set_init (check_set_init_1 hT ?_)) fun r₂ s₂ hr₂=>?_
   ·obtain⟨ol,hol,hcl,nl,hdl⟩:=hl;obtain⟨ocls,odict,odata,oslots⟩:=ol;simp only at hcl hdl;subst hcl;subst hdl;have hol':(s.heap.push (lX w)).get? l=some { cls:=.type "list",dict:=odict,data:=.seq items nl,slots:=oslots }:=get?_push_of_some _ hol;have hsls:=F.sub_list_set;have hslf:=F.sub_list_frozenset;have hne:(Value.type "list" == Value.type "dict")=false:=by decide
    have hl1:(s.heap.push (lX w)).IsList l items:=⟨_,hol',rfl,nl,rfl⟩;unfold Builtin.«set.__init__» noKeywords Builtin.Frozenset.updateFrom;generalize hPI:pyIter=PI
    wp_walk
    subst hPI;refine wpAny_pyIter_list hl1 (wpAny_bind (wpAny_runValue ?_));have hlS:l<s.heap.objs.size:=lt_size hol;have hh3:A.in1.in1.in1.handled=none:=by simp [hh]
    have hneI:l≠(s.heap.push (lX w)).objs.size:=by
     rw[size_push];exact ne_of_lt (lt_succ_of_lt hlS)
    have hSf:s.heap.objs.size∉[(s.heap.push (lX w)).objs.size,l]:=by
     rw[size_push];simp only[mem_cons,mem_singleton,not_mem_nil,or_false,not_or];exact⟨ne_of_lt (lt_succ_self _),ne_of_gt hlS⟩
    have hval:∀(i:Nat)(v:Value),items[i]?=some v->∃t,v=.int ((fun i=>ns.getD i 0) i) t:=fun i v hv=>IntsAre.int_at hi i v (by rw[getElem?_toList];exact hv);refine Gi (b:=!bt w) ((Walks.list hh3 _ l hneI items).toS) s.heap.objs.size hSf (fun i=>ns.getD i 0) hval hb (items.size-0) 0 _ ω (zero_le _)
     ⟨⟨_,get?_push_size _ rfl,rfl,rfl⟩,(hl1.push _)⟩ ?hS0 ?hR
    case hS0=>exact⟨_,#[],0,_,get?_push_of_some _ hS,⟨rfl,rfl,rfl⟩,rfl,⟨fun e he=>by simp at he,fun k=>by simp [firstMet_zero],δ⟩,by rfl,rfl,sI _ _ _⟩
    case hR=>
     intro s' hm hS';obtain⟨h',g',d',tk',os'⟩:=s';have eg:g'=s.gens:=hm.gens;have ed:d'=s.drawn:=hm.drawn;have eo:os'=s.os:=hm.os;subst eg;subst ed;subst eo;show wpAny _ _ _ _ _ _;refine wpAny_pure (show wpAny _ _ (ret Value.none) _ _ _ from wpAny_pure ⟨rfl,h',tk',rfl,hS',fun c o hc e=>?_⟩);have hc1:c≠s.heap.objs.size:=ne_of_lt hc;have hc2:c≠(s.heap.push (lX w)).objs.size:=by
      rw[size_push];exact ne_of_lt (lt_succ_of_lt hc)
     exact hm.heap c o (by simp only[mem_cons,mem_singleton,not_mem_nil,or_false,not_or];exact⟨hc1,hc2⟩) (get?_push_of_some _ (get?_push_of_some _ e))
   cases r₂ with
   | error e=>exact hr₂
   | ok fl₂=>
    cases fl₂ with
    | ret r=>
     obtain⟨rfl,h',tk,rfl,hS',hk'⟩:=hr₂
     repeat (any_goals (first|assumption|wp_step))
     exact h _ _ hS' hk'
    | _=>exact hr₂.elim
  | _=>exact hr.elim
end
end SRT
namespace SRT
open PySem PyProof.Rows
theorem lz {α:Type}:∀{l:List α}{i:Nat}(h:i<l.length),(l[i]::l.eraseIdx i).Perm l
 | x::l,0,_=>List.Perm.refl _
 | x::l,i+1,h=>by
  have h':i<l.length:=by simpa using h
  show(l[i]::x::l.eraseIdx i).Perm (x::l);exact(List.Perm.swap _ _ _).trans (List.Perm.cons _ (lz h'))
section
variable {prog:Program}{w:World}{A:Around}{E:Value->Shared->Prop}
theorem wp_choose {s:Shared}{src:Source}{n:Nat}{Q:Nat->Shared->Prop}(hn:n≠0)(h:∀k d,k<n->Q k { s with drawn:=d }):wpAny (model prog w) A (choose src n) Q E s:=
 fun _ _ _=>⟨hn,h _ _ (mod_lt _ (Nat.pos_of_ne_zero hn))⟩
theorem Oq {α:Type}:∀(n:Nat)(xs:List α)(s:Shared){Q:List α->Shared->Prop},xs.length=n->(∀ys d,ys.Perm xs->Q ys { s with drawn:=d })->wpAny (model prog w) A (drawOrder n xs) Q E s:=by
 intro n
 induction n with
 | zero=>
  intro xs s Q hl h;have e:xs=[]:=List.length_eq_zero_iff.mp hl;subst e;exact wpAny_pure (h [] s.drawn (List.Perm.refl _))
 | succ n ih=>
  intro xs s Q hl h;cases xs with
  | nil=>cases hl
  | cons x xs=>
   unfold drawOrder;refine wpAny_bind (wp_choose (by simp) fun i d hi=>?_);have hg:(x::xs)[i]?=some (x::xs)[i]:=getElem?_eq_getElem hi;rw[hg];dsimp only;refine wpAny_bind (ih _ _ (by rw[List.length_eraseIdx,if_pos hi];simpa using hl) fun ys d' hp=>wpAny_pure (h _ d' ?_));exact(List.Perm.cons _ hp).trans (lz hi)
end
theorem Mu {α:Type}(next:Nat->Nat):∀(fuel k:Nat)(left:List α)(out:Array α),left.length=fuel->(pickOrder.go next fuel k left out).toList.Perm (out.toList++left):=by
 intro fuel
 induction fuel with
 | zero=>
  intro k left out hl;have e:left=[]:=List.length_eq_zero_iff.mp hl;subst e;show out.toList.Perm _;rw[append_nil]
 | succ fuel ih=>
  intro k left out hl;unfold pickOrder.go;have hi:next k%left.length<left.length:=mod_lt _ ω;rw[getElem?_eq_getElem hi];dsimp only;refine(ih (k+1) _ _ (by rw[List.length_eraseIdx,if_pos hi];omega)).trans ?_;rw[toList_push,append_assoc];exact List.Perm.append_left _ (lz hi)
theorem Ec {α:Type}(next:Nat->Nat)(xs:Array α):(pickOrder next xs).toList.Perm xs.toList:=by
 have:=Mu next xs.size 0 xs.toList #[] (by simp);simpa [pickOrder] using this
noncomputable def fB (h:Heap)(S:Addr)(es:Array (Int×Value))(ep:Nat)(t:SetTable):Prop:=∃o,h.get? S=some o/\o.ExactSet/\o.data=.set es ep t
noncomputable def dU (h:Heap)(I:Addr)(first:Value)(i:Nat)(S:Addr)(n ep:Nat):Prop:=
 h.get? I=some { cls:=.type "set_iterator",dict:=none,data:=.fields #[first,.int i 0,.ref S,.int n 0,.int ep 0],slots:=#[] }
theorem fB.get {h h':Heap}{S:Addr}{es:Array (Int×Value)}{ep:Nat}{t:SetTable}(hS:fB h S es ep t)(hk:∀o,h.get? S=some o->h'.get? S=some o):fB h' S es ep t:=
 let ⟨o,ho,r⟩:=hS;⟨o,hk o ho,r⟩
section
variable {prog:Program}{w:World}{A:Around}{E:Value->Shared->Prop}{s:Shared}{S:Addr}{es:Array (Int×Value)}{ep:Nat}{t:SetTable}
theorem jn {Q:(Array (Int×Value)×Nat×SetTable)->Shared->Prop}(hS:fB s.heap S es ep t)(hf:t.fits es.size=true)(h:Q (es,ep,t) s):wpAny (model prog w) A (setState S) Q E s:=
 let ⟨_,ho,_,hd⟩:=hS;wpAny_setState_of ho hd hf h
theorem below_at {xs:Array Nat}(hr:Ris xs){i:Nat}(hi:i<=xs.size):SetTable.below xs (if i=0 then 0 else xs.getD (i-1) 0+1)=i:=by
 have hs:=lN hr (if i=0 then 0 else xs.getD (i-1) 0+1);generalize hb:SetTable.below xs (if i=0 then 0 else xs.getD (i-1) 0+1)=b at hs;by_cases h0:i=0
 ·subst h0;simp only[↓reduceIte] at hs;rcases Nat.eq_zero_or_pos b with h|h
  ·exact h
  have hl:0<xs.size:=ω;have hg:xs[0]?=some xs[0]:=by simp [hl]
  have:=(hs.1 0 _ hg).mp h;omega
 rw[if_neg h0] at hs;have hl:i-1<xs.size:=ω;have hg:xs[i-1]?=some xs[i-1]:=by simp [hl]
 have hd:xs.getD (i-1) 0=xs[i-1]:=by simp [Array.getD,hl]
 rw[hd] at hs;have h1:i-1<b:=(hs.1 _ _ hg).mpr ω;rcases lt_or_ge i b with h|h
 ·have hl2:i<xs.size:=ω;have hg2:xs[i]?=some xs[i]:=by simp [hl2]
  have h2:=(hs.1 _ _ hg2).mp h;have h3:=hr.lt hg hg2 ω;omega
 omega
theorem Nx (hf:t.fits es.size=true)(ht:TOk (!bt w) t)(hd:bt w=true\/(!t.plain&&decide (es.size>1))=false) :
  ∃(vs:List Value)(sl:Nat->Nat),sl 0=0/\vs.Perm (es.toList.map (·.2))/\∀(i:Nat)(s:Shared)(A:Around)(E:Value->Shared->Prop)(Q:Option (Value×Nat)->Shared->Prop),i<=vs.length->fB s.heap S es ep t ->
   Q (vs[i]?.map fun x=>(x,sl (i+1))) s->wpAny (model prog w) A (setNext S (sl i) i ep) Q E s:=by
 by_cases hb:bt w=true
 ·refine⟨(pickOrder (w.params.setOrder S ep) es).toList.map (·.2),fun _=>0,rfl,(Ec _ es).map _,fun i s A E Q hi hS h=>?_⟩;unfold setNext;refine wpAny_bind (jn hS hf ?_);dsimp only;unfold setsByText;refine wpAny_bind (wpAny_bind (wpAny_askSetting (wpAny_pure ?_)));show wpAny _ _ (if bt w=true then _ else _) _ _ _;rw[if_pos hb,if_neg (by simp)];unfold setWalk;refine wpAny_bind (wpAny_bind (jn hS hf ?_));dsimp only;unfold setsByText;refine wpAny_bind (wpAny_bind (wpAny_askSetting (wpAny_pure ?_)));show wpAny _ _ (if bt w=true then _ else _) _ _ _;rw[if_pos hb];refine wpAny_bind (wpAny_askSetting (wpAny_pure (wpAny_pure ?_)));have e:((pickOrder (w.params.setOrder S ep) es)[i]?).map (fun e=>(e.2,0))=(((pickOrder (w.params.setOrder S ep) es).toList.map (·.2))[i]?).map fun x=>(x,0):=by
   rw[getElem?_map,Option.map_map,getElem?_toList];rfl
  show Q (((pickOrder (w.params.setOrder S ep) es)[i]?).map (fun e=>(e.2,0))) s;rw[e];exact h
 have hb':bt w=false:=by simpa using hb
 have hdr:=hd.resolve_left hb;have hps:t.place.size=es.size:=by
  have:=hf;unfold SetTable.fits at this;simp only[and_eq_true,beq_iff_eq] at this;exact this.1
 refine⟨es.toList.map (·.2),fun i=>if i=0 then 0 else t.place.getD (i-1) 0+1,rfl,List.Perm.refl _,fun i s A E Q hi hS h=>?_⟩;unfold setNext;refine wpAny_bind (jn hS hf ?_);dsimp only;unfold setsByText;refine wpAny_bind (wpAny_bind (wpAny_askSetting (wpAny_pure ?_)));show wpAny _ _ (if bt w=true then _ else _) _ _ _;rw[if_neg hb];show wpAny _ _ (if (!t.plain&&decide (es.size>1))=true then _ else _) _ _ _;rw[if_neg (by rw[hdr];simp)];refine wpAny_bind ?_;show wpAny _ _ (if (!t.led && !es.isEmpty)=true then _ else _) _ _ _;have hled:t.led=true:=by rw[ht.2.2,hb'];rfl
 rw[if_neg (by rw[hled];simp)];refine wpAny_pure (wpAny_pure ?_);have hi':i<=es.size:=by simpa using hi
 rw[below_at ht.1 (by rw[hps];exact hi')];rcases lt_or_ge i es.size with hlt|hge
 ·have g1:es[i]?=some es[i]:=by simp [hlt]
  have g2:t.place[i]?=some t.place[i]:=by simp [hps,hlt]
  have g3:(es.toList.map (·.2))[i]?=some es[i].2:=by rw[getElem?_map,getElem?_toList,g1];rfl
  rw[g1,g2];rw[g3] at h;have g4:t.place.getD i 0=t.place[i]'(by rw[hps];exact hlt):=by simp [Array.getD,hps,hlt]
  simp only[map_some,Nat.add_one_ne_zero,if_false,add_sub_cancel,g4] at h;exact h
 have g1:es[i]?=none:=by simp [hge]
 have g3:(es.toList.map (·.2))[i]?=none:=by rw[getElem?_map,getElem?_toList,g1];rfl
 rw[g1];rw[g3] at h;exact h
end
end SRT
namespace SRT
open PySem PyProof.Rows
theorem yC:entryFor table "set.__iter__" = some Builtin.«frozenset.__iter__»:=entryFor_alias (id' := "frozenset.__iter__") (by kernel_rfl) rfl ψ (by kernel_rfl)
theorem cA:Slot "set_iterator" "__next__" "set_iterator.__next__" :=
 .of (owner := "set_iterator") (n := "__next__") (by rw[typeLookup_type,builtinLookup_eq_fast];kernel_rfl) ψ ψ ψ (by first|exact .inl ψ|exact .inr ψ) (by rw[isSubtype_type];kernel_rfl)
theorem pJ:Slot "set_iterator" "__iter__" "set_iterator.__iter__" :=
 .of (owner := "set_iterator") (n := "__iter__") (by rw[typeLookup_type,builtinLookup_eq_fast];kernel_rfl) ψ ψ ψ (by first|exact .inl ψ|exact .inr ψ) (by rw[isSubtype_type];kernel_rfl)
theorem g8:entryFor table "set_iterator.__next__" = some Builtin.«set_iterator.__next__»:=entryFor_of_tree (by kernel_rfl)
theorem yx:entryFor table "set_iterator.__iter__" = some Builtin.«dict_keyiterator.__iter__»:=entryFor_alias (id' := "dict_keyiterator.__iter__") (by kernel_rfl) rfl ψ (by kernel_rfl)
theorem jf (a:Value):argsOk "set_iterator.__next__" ⟨[a],[]⟩:=by unfold argsOk;kernel_rfl
theorem Bg (a:Value):argsOk "set_iterator.__iter__" ⟨[a],[]⟩:=by unfold argsOk;kernel_rfl
section
variable {prog:Program}{w:World}{A:Around}{E:Value->Shared->Prop}{s:Shared}{S I:Addr}{es:Array (Int×Value)}{ep:Nat}{t:SetTable}
theorem dU.ty {h:Shared}{first:Value}{i n:Nat}(hI:dU h.heap I first i S n ep):h.TypeIs (.ref I) "set_iterator" := ⟨_,hI,rfl⟩
theorem dU.get {h h':Heap}{first:Value}{i n:Nat}(hI:dU h I first i S n ep)(hk:∀o,h.get? I=some o->h'.get? I=some o):dU h' I first i S n ep:=hk _ hI
theorem gM {Q:Array (Int×Value)->Shared->Prop}(hS:fB s.heap S es ep t)(hf:t.fits es.size=true)(h:Q es s):wpAny (model prog w) A (setEntries S) Q E s:=
 let ⟨_,ho,_,hd⟩:=hS;wpAny_setEntries_of ho hd hf h
theorem yw {Q:Nat->Shared->Prop}(hS:fB s.heap S es ep t)(hf:t.fits es.size=true)(h:Q ep s):wpAny (model prog w) A (setEpoch S) Q E s:=
 let ⟨_,ho,_,hd⟩:=hS;wpAny_setEpoch_of ho hd hf h
theorem Bu (hh:A.handled=none) {s:Shared}{P:Fin->Shared->Prop}{E':Value->Shared->Prop}(h:∀(h':Heap)(e:Value),(∀c o,s.heap.get? c=some o->h'.get? c=some o)->Shared.TypeIs { s with heap:=h' } e "StopIteration" -> E' e { s with heap:=h' }) :
  wpAny (model prog w) A (newExc (.type "StopIteration") [] >>= fun e=>(raiseNew e:Sem Fin)) P E' s:=by
 refine wpAny_bind ?_;simp only[newExc,newTuple];refine wpAny_bind (wpAny_newObj_type (wpAny_bind (m:=firstArgMember _ _) (wpAny_of_eq (a:=Value.none) (by first|rfl|(simp only[firstArgMember];rfl)) ?_)) (by size_fits))
 refine wpAny_newObj_type ?_ (by size_fits);simp only[raiseNew];refine wpAny_bind (wpAny_handled ?_);rw[hh];refine wpAny_bind (wpAny_pure (wpAny_throw (h _ (.ref _) (fun c o e=>get?_push_of_some _ (get?_push_of_some _ e)) ⟨_,get?_push_size _ rfl,rfl⟩)))
theorem next_item {n i:Nat}{first:Nat}{v:Value}{sl:Nat}{Q:Option Value->Shared->Prop}(hI:dU s.heap I (.int first 0) i S es.size ep)(hS:fB s.heap S es ep t)(hf:t.fits es.size=true)
  (hn:∀(s:Shared)(A:Around)(E:Value->Shared->Prop)(Q:Option (Value×Nat)->Shared->Prop),fB s.heap S es ep t->Q (some (v,sl)) s->wpAny (model prog w) A (setNext S first i ep) Q E s)
  (hne:S≠I) (hQ:∀h',dU h' I (.int sl 0) (i+1) S es.size ep->Heap.SameBut I s.heap h'->Q (some v) { s with heap:=h' }):wpAny (model prog w) A (pyNext (.ref I)) Q E s:=by
 unfold pyNext;refine wpAny_bind (wpAny_attempt (wpAny_callSpecial?_slot (name:=Str.ofString "__next__") hI.ty cA (wpAny_call_entry cA hI.ty g8 ?_ (jf _))));show wpAny _ _ (fieldsOf (.ref I) >>= _) _ _ s;refine wpAny_bind (wpAny_fieldsOf hI rfl ?_);refine wpAny_bind (gM hS hf ?_);rw[if_neg (by simp)];dsimp only;refine wpAny_bind (hn s _ _ _ hS ?_);dsimp only;refine wpAny_bind (wpAny_setField_rec hI (by simp) fun h1 g1 b1=>?_);refine wpAny_bind (wpAny_setField_rec (s:={ s with heap:=h1 }) g1 (by simp) fun h2 g2 b2=>?_);exact wpAny_pure ⟨_,rfl,wpAny_pure (hQ h2 g2 (b1.trans b2))⟩
end
end SRT
namespace SRT
open PySem PyProof.Rows
section
variable {prog:Program}{w:World}{A:Around}{E:Value->Shared->Prop}{s:Shared}{S I T:Addr}{es:Array (Int×Value)}{ep:Nat}{t:SetTable}
theorem wR {a:Addr}{h h' h'':Heap}(b:Heap.SameBut a h h')(k:∀c o,h'.get? c=some o->h''.get? c=some o)(c:Addr)(o:Obj)(hc:c≠a)(e:h.get? c=some o):h''.get? c=some o:=k c o (b.extBut c o hc e)
theorem next_end {i first:Nat}{Q:Option Value->Shared->Prop}(hh:A.handled=none)(hI:dU s.heap I (.int first 0) i S es.size ep)(hS:fB s.heap S es ep t)(hf:t.fits es.size=true)
  (hn:∀(s:Shared)(A:Around)(E:Value->Shared->Prop)(Q:Option (Value×Nat)->Shared->Prop),fB s.heap S es ep t->Q none s->wpAny (model prog w) A (setNext S first i ep) Q E s)
  (hQ:∀h',(∀c o,c≠I->s.heap.get? c=some o->h'.get? c=some o)->Q none { s with heap:=h' }):wpAny (model prog w) A (pyNext (.ref I)) Q E s:=by
 unfold pyNext;refine wpAny_bind (wpAny_attempt (wpAny_callSpecial?_slot (name:=Str.ofString "__next__") hI.ty cA (wpAny_call_entry cA hI.ty g8 ?_ (jf _))));show wpAny _ _ (fieldsOf (.ref I) >>= _) _ _ s;refine wpAny_bind (wpAny_fieldsOf hI rfl (wpAny_bind (gM hS hf ?_)));rw[if_neg (by simp)];dsimp only;refine wpAny_bind (hn s _ _ _ hS ?_);dsimp only;refine wpAny_bind (wpAny_setField_rec hI (by simp) fun h1 g1 b1=>?_);refine Bu (s:={ s with heap:=h1 }) (by simpa using hh) fun h2 e k2 ty=>wpAny_bind (wpAny_isInstance ty isSubtype_stop (wpAny_pure (hQ h2 fun c o hc x=>wR b1 k2 c o hc x)))
noncomputable def TupAt (h:Heap) (T:Addr) (ds:List Nat):Prop:=h.get? T=some { cls:=.type "tuple",data:=.seq (ds.map fun(i:Nat)=>rawInt i).toArray }
theorem Av {i d:Nat}{ds:List Nat}{v:Value}{Q:Option Value->Shared->Prop}(hI:dU s.heap I (.ref T) i S es.size ep)(hS:fB s.heap S es ep t)(hT:TupAt s.heap T ds)(hf:t.fits es.size=true)
  (hd:ds[i]?=some d) (hv:(es[d]?).map (·.2)=some v) (hne:S≠I)
  (hQ:∀h',dU h' I (.ref T) (i+1) S es.size ep->Heap.SameBut I s.heap h'->Q (some v) { s with heap:=h' }):wpAny (model prog w) A (pyNext (.ref I)) Q E s:=by
 unfold pyNext;refine wpAny_bind (wpAny_attempt (wpAny_callSpecial?_slot (name:=Str.ofString "__next__") hI.ty cA (wpAny_call_entry cA hI.ty g8 ?_ (jf _))));show wpAny _ _ (fieldsOf (.ref I) >>= _) _ _ s;refine wpAny_bind (wpAny_fieldsOf hI rfl (wpAny_bind (gM hS hf ?_)));rw[if_neg (by simp)];dsimp only;refine wpAny_bind (wpAny_seqItems hT rfl ?_);dsimp only;have hg:(ds.map fun(i:Nat)=>rawInt i).toArray[(i:Int).toNat]?=some (.int (d:Int) 0):=by
  rw[toNat_natCast,getElem?_toArray,getElem?_map,hd];rfl
 rw[hg];dsimp only;unfold setNextDrawn;refine wpAny_bind (wpAny_bind (jn hS hf ?_));dsimp only;rw[if_neg (by simp)];obtain⟨⟨hh,x⟩,he,rfl⟩:=map_eq_some_iff.mp hv;rw[toNat_natCast,he];dsimp only;refine wpAny_pure ?_;refine wpAny_bind (wpAny_setField_rec hI (by simp) fun h1 g1 b1=>?_);exact wpAny_pure ⟨_,rfl,wpAny_pure (hQ h1 g1 b1)⟩
theorem Fe {i:Nat}{ds:List Nat}{Q:Option Value->Shared->Prop}(hh:A.handled=none)(hI:dU s.heap I (.ref T) i S es.size ep)(hS:fB s.heap S es ep t)(hT:TupAt s.heap T ds)(hf:t.fits es.size=true)
  (hd:ds[i]?=none) (hQ:∀h',(∀c o,c≠I->s.heap.get? c=some o->h'.get? c=some o)->Q none { s with heap:=h' }):wpAny (model prog w) A (pyNext (.ref I)) Q E s:=by
 unfold pyNext;refine wpAny_bind (wpAny_attempt (wpAny_callSpecial?_slot (name:=Str.ofString "__next__") hI.ty cA (wpAny_call_entry cA hI.ty g8 ?_ (jf _))));show wpAny _ _ (fieldsOf (.ref I) >>= _) _ _ s;refine wpAny_bind (wpAny_fieldsOf hI rfl (wpAny_bind (gM hS hf ?_)));rw[if_neg (by simp)];dsimp only;refine wpAny_bind (wpAny_seqItems hT rfl ?_);dsimp only;have hg:(ds.map fun(i:Nat)=>rawInt i).toArray[(i:Int).toNat]?=none:=by
  rw[toNat_natCast,getElem?_toArray,getElem?_map,hd];rfl
 rw[hg];dsimp only;refine wpAny_bind (wpAny_setField_rec hI (by simp) fun h1 g1 b1=>?_);refine wpAny_bind (wpAny_setField_rec (s:={ s with heap:=h1 }) g1 (by simp) fun h2 g2 b2=>?_);refine Bu (s:={ s with heap:=h2 }) (by simpa using hh) fun h3 e k3 ty=>wpAny_bind (wpAny_isInstance ty isSubtype_stop (wpAny_pure (hQ h3 fun c o hc x=>wR (b1.trans b2) k3 c o hc x)))
theorem BP {first:Value}{i n:Nat}{Q:Value->Shared->Prop}(hI:dU s.heap I first i S n ep)(h:Q (.ref I) s):wpAny (model prog w) A (pyIter (.ref I)) Q E s:=by
 refine wpAny_pyIter_slot hI.ty pJ (wpAny_call_entry pJ hI.ty yx ?_ (Bg _));show wpAny _ _ (ret (.ref I)) _ _ s;exact wpAny_pure ⟨_,rfl, "set_iterator",_,hI.ty,cA.lookup,h⟩
theorem G3 {Q:Value->Shared->Prop}(hh:A.handled=none)(hS:fB s.heap S es ep t)(hf:t.fits es.size=true)(ht:TOk (!bt w) t)(hz:es.size<=sizeLine)
  (h:∀(s':Shared)(I:Addr)(fp:List Addr)(vs:List Value)(St:Nat->Shared->Prop),(∀c o,s.heap.get? c=some o->s'.heap.get? c=some o)->s'.gens=s.gens->s'.os=s.os->s'.toks=s.toks->vs.Perm (es.toList.map (·.2))->I=s'.heap.objs.size-1->s.heap.objs.size<=I->I<s'.heap.objs.size ->
   (∀A':Around,A'.handled=none->WalksS prog w A' I fp [I] (fun a b=>b=a) vs.length (fun i v=>vs[i]?=some v) St)->St 0 s'->(∀b∈fp,b<s'.heap.objs.size/\(b=S\/s.heap.objs.size<=b))->Q (.ref I) s') :
  wpAny (model prog w) A (pyIter (.ref S)) Q E s:=by
 obtain⟨o,ho,hx,hd⟩:=id hS;have hty:s.TypeIs (.ref S) "set" := ⟨o,ho,hx.1⟩;have lt:S<s.heap.objs.size:=lt_size ho;refine wpAny_pyIter_slot hty F.slot_set_iter (wpAny_call_entry F.slot_set_iter hty yC ?_ (F.args_set_iter_1 _));unfold Builtin.«frozenset.__iter__»;show wpAny _ _ (Builtin.Frozenset.sizeOf S >>= _) _ _ s;unfold Builtin.Frozenset.sizeOf;refine wpAny_bind (wpAny_bind (gM hS hf (wpAny_pure ?_)));unfold setDrawn setsByText;refine wpAny_bind (wpAny_bind (jn hS hf ?_));dsimp only;refine wpAny_bind (wpAny_bind (wpAny_askSetting (wpAny_pure (wpAny_pure ?_))));show wpAny _ _ (if (!bt w&&(!t.plain&&decide (es.size>1)))=true then _ else _) _ _ _;have arith:∀{n m:Nat},m=n+1->n=m-1:=by intros;omega
 by_cases hc:(!bt w&&(!t.plain&&decide (es.size>1)))=true
 ·rw[if_pos hc];refine wpAny_bind (Oq es.size (List.range es.size) _ (length_range) fun ds d hp=>?_);have hdl:ds.length=es.size:=by rw[hp.length_eq,length_range]
  refine wpAny_bind (wpAny_newTuple ?_ (by rw[length_map,hdl];exact hz));have hS1:fB (s.heap.push { cls:=.type "tuple",data:=.seq (ds.map fun(i:Nat)=>rawInt i).toArray }) S es ep t:=hS.get fun o e=>get?_push_of_some _ e;have hT1:TupAt (s.heap.push { cls:=.type "tuple",data:=.seq (ds.map fun(i:Nat)=>rawInt i).toArray }) s.heap.objs.size ds:=get?_push_size _ rfl;have hz1:(s.heap.push { cls:=.type "tuple",data:=.seq (ds.map fun(i:Nat)=>rawInt i).toArray }).objs.size=s.heap.objs.size+1:=size_push ..;have hk1:∀c o,s.heap.get? c=some o->(s.heap.push { cls:=.type "tuple",data:=.seq (ds.map fun(i:Nat)=>rawInt i).toArray }).get? c=some o:=fun c o e=>get?_push_of_some _ e;generalize s.heap.push { cls:=.type "tuple",data:=.seq (ds.map fun(i:Nat)=>rawInt i).toArray }=h1 at hS1 hT1 hz1 hk1 |-;refine wpAny_bind (yw (s:={ s with drawn:=d,heap:=h1 }) hS1 hf (wpAny_bind (wpAny_newObj_type ?_)));have hI:dU (h1.push { cls:=.type "set_iterator",data:=.fields #[.ref s.heap.objs.size,.int (0:Nat) 0,.ref S,.int (es.size:Nat) 0,.int (ep:Nat) 0] }) h1.objs.size (.ref s.heap.objs.size) 0 S es.size ep:=get?_push_size _ rfl;refine wpAny_pure ⟨_,rfl, "set_iterator",_,⟨_,hI,rfl⟩,cA.lookup,?_⟩;have hz2:(h1.push { cls:=.type "set_iterator",data:=.fields #[.ref s.heap.objs.size,.int (0:Nat) 0,.ref S,.int (es.size:Nat) 0,.int (ep:Nat) 0] }).objs.size=h1.objs.size+1:=size_push ..;have hk2:∀c o,h1.get? c=some o->(h1.push { cls:=.type "set_iterator",data:=.fields #[.ref s.heap.objs.size,.int (0:Nat) 0,.ref S,.int (es.size:Nat) 0,.int (ep:Nat) 0] }).get? c=some o:=fun c o e=>get?_push_of_some _ e;show Q (.ref h1.objs.size) { s with drawn:=d,heap:=h1.push { cls:=.type "set_iterator",data:=.fields #[.ref s.heap.objs.size,.int (0:Nat) 0,.ref S,.int (es.size:Nat) 0,.int (ep:Nat) 0] } };generalize h1.push { cls:=.type "set_iterator",data:=.fields #[.ref s.heap.objs.size,.int (0:Nat) 0,.ref S,.int (es.size:Nat) 0,.int (ep:Nat) 0] }=h2 at hI hz2 hk2 |-;have n1:S≠h1.objs.size:=by rw[hz1];exact ne_of_lt (lt_succ_of_lt lt)
  have n2:s.heap.objs.size≠h1.objs.size:=by rw[hz1];exact ne_of_lt (lt_succ_self _)
  have hmem:∀i d:Nat,ds[i]?=some d->∃x:Value,(es[d]?).map (fun(e:Int×Value)=>e.2)=some x/\(ds.map fun d=>(es.toList.map (·.2)).getD d .none)[i]?=some x:=by
   intro i d hi;have:d<es.size:=by have:=hp.mem_iff.mp (mem_of_getElem? hi);simpa using this
   refine⟨es[d].2,by simp [this],?_⟩;rw[getElem?_map,hi];simp [this]
  refine h { s with drawn:=d,heap:=h2 } h1.objs.size [h1.objs.size,S,s.heap.objs.size] (ds.map fun d=>(es.toList.map (·.2)).getD d .none)
   (fun i s'=>dU s'.heap h1.objs.size (.ref s.heap.objs.size) i S es.size ep/\fB s'.heap S es ep t/\TupAt s'.heap s.heap.objs.size ds)
   (fun c o e=>hk2 c o (hk1 c o e)) rfl rfl rfl ?_ (arith hz2) (by rw[hz1];exact le_succ _) (by show h1.objs.size<h2.objs.size;rw[hz2];exact lt_succ_self _) (fun A' hh'=>?_) ⟨hI,hS1.get (hk2 S),hk2 _ _ hT1⟩ ?_
  ·have e:(List.range es.size).map (fun d=>(es.toList.map (·.2)).getD d .none)=es.toList.map (·.2):=by
    refine ext_getElem (by simp) fun i h1 h2=>?_;simp at h1 h2;simp [h2]
   exact(hp.map fun d=>(es.toList.map fun(x:Int×Value)=>x.2).getD d Value.none).trans (List.Perm.of_eq e)
  ·have hlen:(ds.map fun d=>(es.toList.map (·.2)).getD d .none).length=ds.length:=length_map _;exact {
    sub:=fun b hb=>by simp at hb;simp [hb]
    grefl:=fun _=>rfl
    gtrans:=fun a b c e f=>f.trans e
    frame:=fun i s1 h' tk st _ hk=>⟨st.1.get fun o e=>hk _ (by simp) o e,st.2.1.get fun o e=>hk _ (by simp) o e,hk _ (by simp) _ st.2.2⟩
    item:=fun i s1 Q1 E1 hi st hQ1=>by
     rw[hlen] at hi;obtain⟨x,e1,e2⟩:=hmem i ds[i] (getElem?_eq_getElem hi);refine Av st.1 st.2.1 st.2.2 hf (getElem?_eq_getElem hi) e1 n1 fun h' i' b'=>?_;exact hQ1 x { s1 with heap:=h' } e2 ⟨i',st.2.1.get fun o e=>b'.extBut _ o n1 e,b'.extBut _ _ n2 st.2.2⟩ ⟨fun b o hb e=>b'.extBut b o (fun z=>hb (by simp [z])) e,rfl,rfl,rfl,le_refl _⟩
    done:=fun s1 Q1 E1 st hQ1=>by
     refine Fe hh' st.1 st.2.1 st.2.2 hf (by rw[hlen];simp) fun h' k'=>?_;exact hQ1 { s1 with heap:=h' } ⟨fun b o hb e=>k' b o (fun z=>hb (by simp [z])) e,rfl,rfl,rfl,le_refl _⟩
    self:=fun i s1 Q1 E1 st hQ1=>BP st.1 hQ1 }
  intro b hb;show b<h2.objs.size/\_;have l0:=lt_succ_of_lt lt;simp only[mem_cons,not_mem_nil,or_false] at hb;rw[hz2,hz1];rcases hb with rfl|rfl|rfl
  ·rw[hz1];exact⟨lt_succ_self _,.inr (le_succ _)⟩
  ·exact⟨lt_succ_of_lt l0,.inl rfl⟩
  exact⟨lt_succ_of_lt (lt_succ_self _),.inr (le_refl _)⟩
 rw[if_neg hc];obtain⟨vs,sl,sl0,hp,hn⟩:=Nx (prog:=prog) (w:=w) (S:=S) (ep:=ep) hf ht (by
  cases hb:bt w with
  | true=>exact .inl rfl
  | false=>rw[hb] at hc;exact .inr (by simpa using hc))
 refine wpAny_bind (wpAny_pure (wpAny_bind (yw hS hf (wpAny_bind (wpAny_newObj_type ?_)))));have hI:dU (s.heap.push { cls:=.type "set_iterator",data:=.fields #[.int (0:Nat) 0,.int (0:Nat) 0,.ref S,.int (es.size:Nat) 0,.int (ep:Nat) 0] }) s.heap.objs.size (.int (sl 0) 0) 0 S es.size ep:=by rw[sl0];exact get?_push_size _ rfl
 refine wpAny_pure ⟨_,rfl, "set_iterator",_,⟨_,hI,rfl⟩,cA.lookup,?_⟩;have hz2:(s.heap.push { cls:=.type "set_iterator",data:=.fields #[.int (0:Nat) 0,.int (0:Nat) 0,.ref S,.int (es.size:Nat) 0,.int (ep:Nat) 0] }).objs.size=s.heap.objs.size+1:=size_push ..;have hk2:∀c o,s.heap.get? c=some o->(s.heap.push { cls:=.type "set_iterator",data:=.fields #[.int (0:Nat) 0,.int (0:Nat) 0,.ref S,.int (es.size:Nat) 0,.int (ep:Nat) 0] }).get? c=some o:=fun c o e=>get?_push_of_some _ e;show Q (.ref s.heap.objs.size) { s with heap:=s.heap.push { cls:=.type "set_iterator",data:=.fields #[.int (0:Nat) 0,.int (0:Nat) 0,.ref S,.int (es.size:Nat) 0,.int (ep:Nat) 0] } };generalize s.heap.push { cls:=.type "set_iterator",data:=.fields #[.int (0:Nat) 0,.int (0:Nat) 0,.ref S,.int (es.size:Nat) 0,.int (ep:Nat) 0] }=h2 at hI hz2 hk2 |-;have n1:S≠s.heap.objs.size:=ne_of_lt lt;refine h { s with heap:=h2 } s.heap.objs.size [s.heap.objs.size,S] vs (fun i s'=>dU s'.heap s.heap.objs.size (.int (sl i) 0) i S es.size ep/\fB s'.heap S es ep t)
  (fun c o e=>hk2 c o e) rfl rfl rfl hp (arith hz2) (le_refl _) (by show s.heap.objs.size<h2.objs.size;rw[hz2];exact lt_succ_self _) (fun A' hh'=>?_) ⟨hI,hS.get (hk2 S)⟩ ?_
 ·exact {
   sub:=fun b hb=>by simp at hb;simp [hb]
   grefl:=fun _=>rfl
   gtrans:=fun a b c e f=>f.trans e
   frame:=fun i s1 h' tk st _ hk=>⟨st.1.get fun o e=>hk _ (by simp) o e,st.2.get fun o e=>hk _ (by simp) o e⟩
   item:=fun i s1 Q1 E1 hi st hQ1=>by
    have hv:vs[i]?=some vs[i]:=getElem?_eq_getElem hi;refine next_item (n:=0) st.1 st.2 hf (v:=vs[i]) (sl:=sl (i+1)) (fun s2 A2 E2 Q2 st2 hQ2=>hn i s2 A2 E2 Q2 (le_of_lt hi) st2 (by rw[hv];exact hQ2)) n1 fun h' i' b'=>?_;exact hQ1 vs[i] { s1 with heap:=h' } hv ⟨i',st.2.get fun o e=>b'.extBut _ o n1 e⟩ ⟨fun b o hb e=>b'.extBut b o (fun z=>hb (by simp [z])) e,rfl,rfl,rfl,le_refl _⟩
   done:=fun s1 Q1 E1 st hQ1=>by
    have hv:vs[vs.length]?=none:=by simp
    refine next_end hh' st.1 st.2 hf (fun s2 A2 E2 Q2 st2 hQ2=>hn vs.length s2 A2 E2 Q2 (le_refl _) st2 (by rw[hv];exact hQ2)) fun h' k'=>?_;exact hQ1 { s1 with heap:=h' } ⟨fun b o hb e=>k' b o (fun z=>hb (by simp [z])) e,rfl,rfl,rfl,le_refl _⟩
   self:=fun i s1 Q1 E1 st hQ1=>BP st.1 hQ1 }
 intro b hb;show b<h2.objs.size/\_;rw[hz2];simp only[mem_cons,not_mem_nil,or_false] at hb;rcases hb with rfl|rfl
 ·exact⟨lt_succ_self _,.inr (le_refl _)⟩
 exact⟨lt_succ_of_lt lt,.inl rfl⟩
end
end SRT
namespace SRT
open PySem PyProof.Rows
noncomputable def gallopF:Bool->Keyed->Array Keyed->Nat->Nat->Nat->StateT SortSt Sem (Option Nat):=sortPriv% PySem.Builtin.gallop
noncomputable def mergeLoF:Array Keyed->Array Keyed->StateT SortSt Sem (Array Keyed):=sortPriv% PySem.Builtin.mergeLo
noncomputable def mergeHiF:Array Keyed->Array Keyed->StateT SortSt Sem (Array Keyed):=sortPriv% PySem.Builtin.mergeHi
noncomputable def IK (p:Keyed):Prop:=∃n t,p.1=.int n t
noncomputable def uy (xs:Array Keyed):Prop:=∀(i:Nat) p,xs[i]?=some p->IK p
section
variable {prog:Program}{w:World}{s:Shared}{A:Around}{E:Value->Shared->Prop}
theorem Dg {st:SortSt}{xs:Array Keyed}{i:Nat}{Q:Keyed->SortSt->Prop}(hi:i<xs.size)(h:∀p,xs[i]?=some p->Q p st):wpS (model prog w) A E s (elem' xs i) Q st:=by
 rw[elem'_eq];have e:xs[i]?=some xs[i]:=getElem?_pos xs i hi;rw[e];exact wpS_pure (h _ e)
end
end SRT
namespace SRT
open PySem PyProof.Rows
noncomputable abbrev withG (st:SortSt)(g:Nat):SortSt:=SortSt.mk' (kindOf st) (arrOf st) (pendingOf st) g (failedOf st)
section
variable {prog:Program}{w:World}{s:Shared}{A:Around}{E:Value->Shared->Prop}
noncomputable def Qv (a b out:Array Keyed)(i j:Nat):List Keyed:=out.toList++(a.toList.drop i++b.toList.drop j)
noncomputable def LoI (a b out:Array Keyed)(i j:Nat):Prop:=(Qv a b out i j).Perm (a.toList++b.toList)/\i+1<a.size/\j<b.size
noncomputable def RetI (a b:Array Keyed)(c:Option (Array Keyed)):Prop:=∃r,c=some r/\r.toList.Perm (a.toList++b.toList)
end
end SRT
namespace SRT
open PySem PyProof.Rows
section
variable {prog:Program}{w:World}{s:Shared}{A:Around}{E:Value->Shared->Prop}
noncomputable def Qw (a b out:Array Keyed)(i j:Nat):List Keyed:=(a.toList.take i++b.toList.take j)++out.toList
noncomputable def HiI (a b out:Array Keyed)(i j:Nat):Prop:=(Qw a b out i j).Perm (a.toList++b.toList)/\0<i/\1<j/\i<=a.size/\j<=b.size
end
end SRT
namespace SRT
open PySem PyProof.Rows
noncomputable def Chain:List (Nat×Nat×Nat)->Nat->Nat->Prop
 | [],a,b=>a=b
 | (p,n,_)::t,a,b=>p=a/\1<=n/\Chain t (a+n) b
theorem Chain.le:∀{l:List (Nat×Nat×Nat)}{a b:Nat},Chain l a b->a<=b
 | [],_,_,h=>Nat.le_of_eq h
 | (_,n,_)::_,a,_,⟨_,_,h⟩=>le_trans (Nat.le_add_right a n) h.le
theorem Chain.two:∀{pre post:List (Nat×Nat×Nat)}{sa na w sb nb v a b:Nat},Chain (pre++(sa,na,w)::(sb,nb,v)::post) a b ->
  sb=sa+na/\1<=na/\1<=nb/\sb+nb<=b/\Chain (pre++(sa,na+nb,w)::post) a b
 | [],post,sa,na,w,sb,nb,v,a,b,⟨h1,h2,h3,h4,h5⟩=>by
  have:=h5.le;refine⟨ω,h2,h4,ω,h1,ω,?_⟩;rw[<- Nat.add_assoc];exact h5
 | (_,_,_)::pre,post,sa,na,w,sb,nb,v,a,b,⟨h1,h2,h3⟩=>by
  obtain⟨k1,k2,k3,k4,k5⟩:=Chain.two h3;exact⟨k1,k2,k3,k4,h1,h2,k5⟩
theorem Chain.snoc:∀{l:List (Nat×Nat×Nat)}{a b n w:Nat},Chain l a b->1<=n->Chain (l++[(b,n,w)]) a (b+n)
 | [],a,b,n,w,h,h1=>by cases h;exact⟨rfl,h1,rfl⟩
 | (_,_,_)::t,a,b,n,w,⟨k1,k2,k3⟩,h1=>⟨k1,k2,k3.snoc h1⟩
theorem Chain.Hg:∀{l:List (Nat×Nat×Nat)}{a b p n w v:Nat},Chain (l++[(p,n,w)]) a b->Chain (l++[(p,n,v)]) a b
 | [],a,b,p,n,w,v,h=>h
 | (_,_,_)::t,a,b,p,n,w,v,⟨k1,k2,k3⟩=>⟨k1,k2,k3.Hg⟩
theorem uy.perm {a b:Array Keyed}(h:uy a)(hp:b.toList.Perm a.toList):uy b:=by
 intro i p hi;have h1:p∈b.toList:=by rw[<- getElem?_toList] at hi;exact mem_of_getElem? hi
 obtain⟨j,hj⟩:=List.getElem?_of_mem (hp.mem_iff.mp h1);exact h j p (by rw[<- getElem?_toList];exact hj)
theorem uy.ext {a:Array Keyed}(h:uy a)(x y:Nat):uy (a.extract x y):=by
 intro i p hi;rw[Array.getElem?_extract] at hi;split at hi
 ·exact h _ p hi
 cases hi
section
variable {prog:Program}{w:World}{s:Shared}{A:Around}{E:Value->Shared->Prop}{a₀:Array Keyed}
structure MB (a₀:Array Keyed)(st:SortSt):Prop where
 kind:kindOf st=oneType'
 perm:(arrOf st).toList.Perm a₀.toList
 fail:failedOf st=none
theorem MB.size {st:SortSt}(h:MB a₀ st):(arrOf st).size=a₀.size:=by simpa using h.perm.length_eq
end
end SRT
namespace SRT
open PySem PyProof.Rows
section
variable {prog:Program}{w:World}{s:Shared}{A:Around}{E:Value->Shared->Prop}{a₀:Array Keyed}{pd:Array (Nat×Nat×Nat)}
noncomputable def MP (a₀:Array Keyed)(pd:Array (Nat×Nat×Nat))(st:SortSt):Prop:=MB a₀ st/\pendingOf st=pd
theorem MP.set {st:SortSt}{xs:Array Keyed}(h:MP a₀ pd st)(hp:xs.Perm (arrOf st)):MP a₀ pd (setArr st xs):=
 ⟨⟨h.1.kind,(Array.perm_iff_toList_perm.mp hp).trans h.1.perm,h.1.fail⟩,h.2⟩
end
end SRT
namespace SRT
open PySem PyProof.Rows
section
variable {prog:Program}{w:World}{s:Shared}{A:Around}{E:Value->Shared->Prop}{a₀:Array Keyed}{pd:Array (Nat×Nat×Nat)}
noncomputable def MC (a₀:Array Keyed)(hi:Nat)(st:SortSt):Prop:=MB a₀ st/\Chain (pendingOf st).toList 0 hi
theorem K1:∀(l:List (Nat×Nat×Nat)),l≠[]->∃t p n v,l=t++[(p,n,v)]
 | l,h=>⟨l.dropLast,(l.getLast h).1,(l.getLast h).2.1,(l.getLast h).2.2,(List.dropLast_concat_getLast h).symm⟩
theorem nY {α:Type}(f:α->α)(x:α):∀t:List α,(t++[x]).modify t.length f=t++[f x]
 | []=>rfl
 | y::t=>congrArg (y :: ·) (nY f x t)
theorem MC.Hg {st:SortSt}{hi pw:Nat}(h:MC a₀ hi st):MC a₀ hi (setPending st ((pendingOf st).modify ((pendingOf st).size-1) fun(x,len,_)=>(x,len,pw))):=by
 refine⟨⟨h.1.kind,h.1.perm,h.1.fail⟩,?_⟩;show Chain ((pendingOf st).modify ((pendingOf st).size-1) fun(x,len,_)=>(x,len,pw)).toList 0 hi;have hc:=h.2;by_cases he:(pendingOf st).toList=[]
 ·have:pendingOf st=#[]:=by simpa using he
  rw[this] at hc |-;simpa using hc
 obtain⟨t,p,n,v,e⟩:=K1 _ he;have e2:pendingOf st=(t++[(p,n,v)]).toArray:=by rw[<- e]
 rw[e] at hc;rw[e2];have:((t++[(p,n,v)]).toArray.modify ((t++[(p,n,v)]).toArray.size-1) fun(x,len,_)=>(x,len,pw)).toList=t++[(p,n,pw)]:=by
  simp [nY]
 rw[this];exact hc.Hg
theorem MC.push {st:SortSt}{lo n:Nat}(h:MC a₀ lo st)(h1:1<=n):MC a₀ (lo+n) (setPending st ((pendingOf st).push (lo,n,0))):=by
 refine⟨⟨h.1.kind,h.1.perm,h.1.fail⟩,?_⟩;show Chain ((pendingOf st).push (lo,n,0)).toList 0 (lo+n);rw[toList_push];exact h.2.snoc h1
theorem MC.of {st st':SortSt}{lo:Nat}(h:MC a₀ lo st)(h':MP a₀ (pendingOf st) st'):MC a₀ lo st':=⟨h'.1,by rw[h'.2];exact h.2⟩
theorem Kv {σ α:Type}{c:Prop}[Decidable c]{m n:StateT σ Sem α}{st:σ}{Q:α->σ->Prop}(h1:c->wpS (model prog w) A E s m Q st)(h2:¬c->wpS (model prog w) A E s n Q st):wpS (model prog w) A E s (if c then m else n) Q st:=by
 by_cases h:c
 ·rw[if_pos h];exact h1 h
 rw[if_neg h];exact h2 h
end
end SRT
namespace SRT
open PySem PyProof.Rows
section
variable {prog:Program}{w:World}{s:Shared}{A:Around}{E:Value->Shared->Prop}
theorem jN (vs:List Value):((pairsOf vs).map (·.2)).toList=vs:=by
 unfold pairsOf;simp [List.map_snd_zip]
end
end SRT
namespace SRT
open PySem PyProof.Rows
theorem Et {vs xs:List Value}(hp:xs.Perm vs):∀{ns:List Int},IntsAre vs ns->∃ns',IntsAre xs ns'/\ns'.Perm ns:=by
 induction hp with
 | nil=>intro ns h;exact⟨ns,h,List.Perm.refl _⟩
 | cons x _ ih=>
  intro ns h;cases h with
  | cons n t h=>
   obtain⟨ns',h1,h2⟩:=ih h;exact⟨n::ns',.cons n t h1,h2.cons n⟩
 | swap x y l=>
  intro ns h;cases h with
  | cons n t h=>
   cases h with
   | cons m u h=>exact⟨m::n::_,.cons m u (.cons n t h),List.Perm.swap _ _ _⟩
 | trans _ _ ih1 ih2=>
  intro ns h;obtain⟨n1,a1,b1⟩:=ih2 h;obtain⟨n2,a2,b2⟩:=ih1 a1;exact⟨n2,a2,b2.trans b1⟩
theorem jY {α:Type}[DecidableEq α]:∀{l ks:List α},l.Nodup->(∀x∈l,x∈ks)->ks.length=l.length->ks.Perm l
 | [],ks,_,_,h=>by rw[List.length_eq_zero_iff.mp h]
 | x::l,ks,hn,hs,hl=>by
  obtain⟨h1,h2⟩:=nodup_cons.mp hn;have hx:x∈ks:=hs x (mem_cons_self ..);refine(List.perm_cons_erase hx).trans (List.Perm.cons _ (jY h2 (fun y hy=>?_) ?_))
  ·have:y≠x:=fun e=>h1 (e ▸ hy);exact(List.mem_erase_of_ne this).mpr (hs y (mem_cons_of_mem _ hy))
  rw[List.length_erase_of_mem hx,hl];rfl
theorem jD (val:Nat->Int):∀i,(firstMet val i).Nodup
 | 0=>List.nodup_nil
 | i+1=>by
  rw[firstMet_succ];unfold step_dedup;have ih:=jD val i;split
  ·exact ih
  rename_i h;rw[List.nodup_append];refine⟨ih,by simp,fun a ha b hb e=>?_⟩;simp only[mem_singleton] at hb;exact h (List.any_eq_true.mpr ⟨a,ha,by simp [e,hb]⟩)
noncomputable def ded (ns:List Int):List Int:=firstMet (fun i=>ns.getD i 0) ns.length
theorem t8 (ns:List Int):(ded ns).Nodup:=jD _ _
theorem vK (ns:List Int):(ded ns).length<=ns.length:=firstMet_length_le _ _
theorem Ot {ns:List Int}{k:Int}:k∈ded ns↔k∈ns:=by
 have e:=firstMet_any (fun i=>ns.getD i 0) ns.length k;have hr:(List.range ns.length).map (fun i=>ns.getD i 0)=ns:=by
  refine ext_getElem (by simp) fun i h1 h2=>?_;simp at h1 h2;simp [h2]
 rw[hr] at e;have a1:∀l:List Int,l.any (· == k)=true↔k∈l:=fun l=>by simp
 rw[<- a1,<- a1];unfold ded;rw[e]
section
variable {prog:Program}{w:World}{A:Around}{E:Value->Shared->Prop}{s:Shared}{S:Addr}{es:Array (Int×Value)}{ep:Nat}{t:SetTable}
theorem qP:∀{l:List (Int×Value)},ElemsOf (intKind prog w) l->∃ks:List Int,IntsAre (l.map (·.2)) ks/\∀k,k∈ks ↔ ∃e∈l,(intKind prog w).is k e.2=true
 | [],_=>⟨[],.nil,fun k=>by simp⟩
 | (h,v)::l,he=>by
  obtain⟨⟨k,hk,_⟩,_⟩:=he.head;obtain⟨tk,e⟩:=Value.isInt_shape hk;dsimp only at e hk;subst e;obtain⟨ks,h1,h2⟩:=qP he.tail;refine⟨k::ks,.cons k tk h1,fun j=>?_⟩;rw[mem_cons,h2];constructor
  ·rintro(rfl|⟨e,a,b⟩)
   ·exact⟨_,mem_cons_self ..,hk⟩
   exact⟨e,mem_cons_of_mem _ a,b⟩
  rintro⟨e,a,b⟩;rcases mem_cons.mp a with rfl|a
  ·exact .inl ((intKind prog w).inj _ _ _ b hk)
  exact .inr ⟨e,a,b⟩
theorem JQ {vs:List Value}{acc:Array Value}(h:ItemsOf (fun i v=>vs[i]?=some v) acc vs.length):acc.toList=vs:=by
 refine ext_getElem (by simpa using h.1) fun i h1 h2=>?_;have:vs[i]?=some acc[i]:=h.2 i acc[i] (by simp);rw[getElem?_eq_getElem h2] at this;simpa using this.symm
theorem yG {Q:List Value->Shared->Prop}(hh:A.handled=none)(hS:fB s.heap S es ep t)(hf:t.fits es.size=true)(ht:TOk (!bt w) t)(hz:es.size<=sizeLine)
  (hQ:∀(s':Shared)(vs:List Value),vs.Perm (es.toList.map (·.2))->(∀c o,s.heap.get? c=some o->s'.heap.get? c=some o)->s'.gens=s.gens->s'.os=s.os->s.heap.objs.size<=s'.heap.objs.size->Q vs s') :
  wpAny (model prog w) A (collect (.ref S)) Q E s:=by
 obtain⟨o,ho,hx,hd⟩:=id hS;have hty:s.TypeIs (.ref S) "set" := ⟨o,ho,hx.1⟩;have lt:S<s.heap.objs.size:=lt_size ho;unfold collect;refine wpAny_bind (wpAny_runValue (codeAny_builtin F.entry_proto_collect ?_));rw[Around.under_plainId F.plain_proto_collect _];show wpAny _ A.in1 (newList [] >>= fun l=>again (.builtin "list.__iadd__" ⟨[l,.ref S],[]⟩)) _ _ s;refine wpAny_bind (wpAny_newObj_type ?_);refine wpAny_pure ⟨plainId_quiet F.plain_list_iadd _,codeAny_builtin F.entry_list_iadd ?_⟩;rw[Around.under_plainId F.plain_list_iadd _];have hS1:fB (s.heap.push { cls:=.type "list",data:=.seq ([]:List Value).toArray }) S es ep t:=hS.get fun o e=>get?_push_of_some _ e;have hL1:(s.heap.push { cls:=.type "list",data:=.seq ([]:List Value).toArray }).get? s.heap.objs.size=some { cls:=.type "list",data:=.seq ([]:List Value).toArray }:=get?_push_size _ rfl;have hk1:∀c o,s.heap.get? c=some o->(s.heap.push { cls:=.type "list",data:=.seq ([]:List Value).toArray }).get? c=some o:=fun c o e=>get?_push_of_some _ e;have hty1:Shared.TypeIs { s with heap:=s.heap.push { cls:=.type "list",data:=.seq ([]:List Value).toArray } } (.ref S) "set" := ⟨o,hk1 _ _ ho,hx.1⟩;generalize s.heap.push { cls:=.type "list",data:=.seq ([]:List Value).toArray }=h1 at hS1 hL1 hk1 hty1 |-;have ne1:s.heap.objs.size≠S:=ne_of_gt lt;show wpAny _ A.in1 (Builtin.List.listExtendWith (.ref s.heap.objs.size) (.ref S) (.ref s.heap.objs.size)) _ _ _;unfold Builtin.List.listExtendWith;refine wpAny_bind (wpAny_typeOf hty1 ?_);have q1:Builtin.List.listSameRef (.ref s.heap.objs.size) (.ref S)=false:=by simp [Builtin.List.listSameRef,ne1]
 rw[if_neg (by rw[q1];decide)];refine wpAny_bind (G3 (s:={ s with heap:=h1 }) hh hS1 hf ht hz fun s2 I fp vs St hk2 hg2 ho2 ht2 hp hI hle hlt W st0 hfp=>?_);have hty2:s2.TypeIs (.ref S) "set" := ⟨o,hk2 _ _ (hk1 _ _ ho),hx.1⟩;refine wpAny_bind (wpAny_holding ?_);unfold Builtin.List.listLengthHint;refine wpAny_bind (wpAny_specialOf hty2 F.slot_set_len.lookup ?_)
 (generalize hid:("set.__len__" : String)=id0;(fail_if_success (clear hid id0));wp_delta;rw[show splitId id0=some ("set","__len__") from by subst hid;decide +kernel];subst hid)
 refine wpAny_bind (wpAny_isInstance (b:=true) hty2 sub_set_self ?_);refine wpAny_ite_false rfl (wpAny_ite_true ψ (wpAny_bind (wpAny_typeOf hty2 (wpAny_pure ?_))));rw[if_pos δ];have hSf:s.heap.objs.size∉fp:=fun z=>by
  have l1:s.heap.objs.size<h1.objs.size:=lt_size hL1;rcases(hfp _ z).2 with e|e
  ·exact ne1 e
  exact lt_irrefl _ (lt_of_lt_of_le l1 e)
 have hL2:=hk2 _ _ hL1;refine wpAny_bind (wpAny_rule (wpAny_bind ?_));show wpAny _ A.in1 (updateSeq s.heap.objs.size (·.push .none) >>= fun _=>updateSeq s.heap.objs.size (·.pop)) _ _ _;refine wpAny_bind (wpAny_updateSeq hL2 rfl ?_);have hL3:=get?_update_self (Obj.mapSeq (·.push Value.none)) hL2 rfl;refine wpAny_updateSeq hL3 rfl ?_;have hL4:=get?_update_self (Obj.mapSeq (·.pop)) hL3 rfl;have oth:∀b o,b≠s.heap.objs.size->s2.heap.get? b=some o->((s2.heap.update s.heap.objs.size (Obj.mapSeq (·.push Value.none))).update s.heap.objs.size (Obj.mapSeq (·.pop))).get? b=some o:=
  fun b o hb e=>(get?_update_other _ _ (Ne.symm hb)).trans ((get?_update_other _ _ (Ne.symm hb)).trans e)
 have W1:=W A.in1 (by simpa using hh);refine wpAny_pure ⟨plainId_quiet F.plain_extend_loop _,codeAny_extend_loopS W1 (by rw[hp.length_eq,length_map,length_toList];exact hz) _ hSf _ vs.length 0 _ _ _ rfl (zero_le _)
  (W1.frame 0 s2 _ s2.toks st0 (le_refl _) fun b hb o e=>oth b o (fun z=>hSf (z ▸ hb)) e) hL4 (ItemsOf.nil _) fun s' acc' c' hm hS' hacc=>?_⟩
 show wpAny _ A (load s.heap.objs.size >>= _) _ _ s';refine wpAny_bind (wpAny_load hS' (wpAny_pure ?_));rw[JQ hacc];have l2:s.heap.objs.size<s'.heap.objs.size:=lt_size hS';refine hQ s' vs hp (fun c o e=>?_) (hm.gens.trans hg2) (hm.os.trans ho2) (le_of_lt l2);have lc:c<s.heap.objs.size:=lt_size e;have nI:c≠I:=fun z=>by
  have l3:s.heap.objs.size<h1.objs.size:=lt_size hL1;have l4:h1.objs.size<=I:=hle;rw[z] at lc;exact lt_irrefl _ (lt_of_lt_of_le (lt_trans lc l3) l4)
 exact hm.heap c o (by simp only[mem_cons,not_mem_nil,or_false,not_or];exact⟨ne_of_lt lc,nI⟩) (oth c o (ne_of_lt lc) (hk2 _ _ (hk1 _ _ e)))
theorem wG {l:List Int}{Q:Value->Shared->Prop}(hh:A.handled=none)(hS:SetT (intKind prog w) (!bt w) s.heap S (fun k'=>l.any (· == k')) l.length)(hnd:l.Nodup)(h64:l.length<64)
  (h:∀(s':Shared)(L:Addr)(xs:List Value)(ns':List Int)(k:Nat),s'.heap.get? L=some (seqObj "list" xs.toArray k)->IntsAre xs ns'->ns'.Perm l->(l.length<64->ns'.Pairwise (·<=·)) ->
   (∀c o,s.heap.get? c=some o->s'.heap.get? c=some o)->s'.gens=s.gens->s'.os=s.os->s.heap.objs.size<=L->Q (.ref L) s'):wpAny (model prog w) A (call (.builtin "sorted") [.ref S]) Q E s:=by
 obtain⟨o,es,ep,t,ho,hex,hd,⟨hel,hmem,hb⟩,hf,hn,ht⟩:=hS;have hz:es.size<=sizeLine:=fits_of_scanBound hb;obtain⟨ks,hks,hkm⟩:=qP hel;have hkp:ks.Perm l:=jY hnd (fun x hx=>(hkm x).mpr ((hmem x).mp (by simpa using hx))) (by rw[<- hn,<- length_toList,<- IntsAre.length hks,length_map]);refine Calls.call_function_entry kind_sorted plain_sorted entry_sorted (args_sorted1 (.ref S)) ?_;unfold Builtin.«sorted»;refine wpAny_bind (m:=checkCount "sorted" 1 1 _) (wpAny_pure (wpAny_bind (yG (by simpa using hh) ⟨o,ho,hex,hd⟩ hf ht hz fun s1 vs hp hk1 hg1 ho1 hl1=>wpAny_bind (wpAny_newList ?_ ?_))))
 ·obtain⟨ms,hms,hmp⟩:=Et hp hks;have hvl:vs.length=l.length:=by rw[IntsAre.length hms,hmp.length_eq,hkp.length_eq]
  have hL:(s1.heap.push (seqObj "list" vs.toArray 0)).get? s1.heap.objs.size=some (seqObj "list" vs.toArray 0):=get?_push_size _ rfl;show wpAny (model prog w) A.in1 _ _ E { s1 with heap:=s1.heap.push (seqObj "list" vs.toArray 0) };refine wpAny_bind (wpAny_holding (wpAny_call_entry slot_list_sort ⟨_,hL,rfl⟩ entry_list_sort (list_sort_tree hL hms ?_ fun xs ns' a1 a2 a3=>⟨_,rfl,wpAny_pure ⟨_,rfl,?_⟩⟩) (args_list_sort _)))
  ·rw[hvl];exact h64
  obtain⟨e,he⟩:=sortedHeap_at (out:=xs) hL;refine h _ _ xs.toList ns' e (by simpa using he) a1 (a2.trans (hmp.trans hkp)) (fun _=>a3) (fun c o x=>?_) hg1 ho1 hl1;have lc:c<s1.heap.objs.size:=lt_size (hk1 c o x);show(sortedHeap _ _ _ _).get? c=some o;rw[sortedHeap_old (ne_of_lt lc) (by rw[size_push'];exact lt_succ_of_lt lc)];exact get?_push_of_some _ (hk1 c o x)
 rw[hp.length_eq,length_map,length_toList];exact hz
end
end SRT
set_option maxHeartbeats 4000000
namespace L2
open PySem PySem.Spec PyProof.Rows
theorem kZ:∀{xs:List Int}{us:List Value},Vals (xs.map V.int) us->IntsAre us xs
 | [],_,h=>by cases h;exact .nil
 | x::xs,_,h=>by
  cases h with
  | cons r h=>
   obtain⟨t,rfl⟩:=r;exact .cons x t (kZ h)
theorem nO:∀{us:List Value}{xs:List Int},IntsAre us xs->Vals (xs.map V.int) us
 | _,_,.nil=>.nil
 | _,_,.cons n t h=>.cons ⟨t,rfl⟩ (nO h)
noncomputable def tSS (K:PySem.W.Frag)(ta:TA):TE:=fun σ H Q=>ta σ H fun vs H1=>∃(l:Addr)(xs:List Int),vs=[.ref l]/\SqL K H1 l (xs.map V.int)/\xs.length<64 /\
 ∀(p:Addr)(ys:List Int),H1 p=none->ys.Perm (SRT.ded xs)->((SRT.ded xs).length<64->ys.Pairwise (·<=·))->Q (.ref p) (upd H1 p (.lst (ys.map V.int)))
section
variable {X:Cx}{pins:List (Addr×Obj)}{s:Shared}{σ:St}{H:Hp}
theorem Inv.drawn (I:Inv X pins σ H s)(d:Drawn):Inv X pins σ H { s with drawn:=d }:=
 I.step (g':=s.gens) (d':=d) (t':=s.toks) (h':=s.heap) (ch:=[]) (fun _ z=>nomatch z) (fun b o _ _ _ e _=>e) (fun b o _ _ _ e _=>⟨o.slots,e⟩) (fun _ _ _ _ n=>n) (fun b o _ e=>⟨o,e⟩) (fun _ _ e=>e) (fun _ _ _ e=>e) (fun b ps e=>⟨#[],by rw[e];simp⟩) (fun _ h=>h) I.hok I.bare
theorem MF {a:Expr}{ta:TA}{p p2 pos pos2:Pos}(hc:X.calm=true) (hgl:Gl X "sorted") (hml:X.mg "sorted" = none) (hg:Gl X "set") (hm:X.mg "set" = none) (ha:PA X [a] ta)
  (hs:starEach [a] X.env=[(false,eval a X.env)]:=by rfl)
  (he:starEach [.Call (.Name "set" p2) [a] [] pos2] X.env=[(false,eval (.Call (.Name "set" p2) [a] [] pos2) X.env)]:=by rfl) :
  PE X (.Call (.Name "sorted" p) [.Call (.Name "set" p2) [a] [] pos2] [] pos) (tSS X.K ta):=by
 intro pins s σ H Q I h;refine wpAny_Call_Name_kw (eU I hgl hml PyProof.Rows.boot_sorted ?_ δ δ);refine PyProof.Rows.callWith_builtin1 ?_ he rfl;rw[he];show wpAny _ _ (spliced ((false,eval (.Call (.Name "set" p2) [a] [] pos2) X.env)::[])) _ _ s;refine Calls.spliced_cons ?_;refine Call_ (eU I hg hm PyProof.Rows.boot_set (PyProof.Rows.callWith_type1 (thA (ha pos2 pins s σ H _ I h) fun us s1 vs H1 I1 r1 q1=>?_) hs rfl));obtain⟨l,xs,rfl,sq,hn,q⟩:=q1;cases r1 with
 | cons r rr=>
  cases rr;cases r;obtain⟨its,rv,pl,hz⟩:=I1.list sq;have hI:=kZ rv;have hlen:its.length=xs.length:=IntsAre.length hI;refine SRT.Fj (I1.ok.hd hc) pl.isList (by simpa using hI) (by simp [hlen,scanBound];omega) fun h2 t2 hS hk=>Calls.spliced_nil ?_;have eq:firstMet (fun i=>xs.getD i 0) its.toArray.size=SRT.ded xs:=by unfold SRT.ded;rw[size_toArray,hlen]
  rw[eq] at hS;have hk2:∀c o,s1.heap.get? c=some o->h2.get? c=some o:=fun c o e=>hk c o (lt_size e) e;refine SRT.wG (s:={ s1 with heap:=h2,toks:=t2 }) (I1.ok.hd hc) hS (SRT.t8 xs) (lt_of_le_of_lt (SRT.vK xs) hn) fun s3 L ys ns k gL iL pL oL k3 g3 o3 l3=>?_;have le:s1.heap.objs.size<=L:=by
   obtain⟨o,_,_,_,e,_⟩:=hS;exact le_trans (le_of_lt (lt_size e)) l3
  have hf:H1 L=none:=I1.hok.fresh le;obtain⟨h3,g3',d3,t3,o3'⟩:=s3;cases g3;cases o3;have hl:ns.length<=sizeLine:=by
   rw[pL.length_eq];exact le_trans (SRT.vK xs) (le_trans (le_of_lt hn) δ)
  refine⟨.ref L,_,((I1.drawn d3).laid (t':=t3) (h':=h3) (fun c o e=>k3 c o (hk2 c o e)) le (show bI X.prog X.w _ h3 _ (.lst (ns.map V.int)) from⟨by simpa using hl,ys,k,nO iL,gL⟩)),rfl,q L ns hf pL oL⟩
theorem LC {a:Expr}{ta:TA}{p p2 pos pos2:Pos}(hc:X.calm=true) (hgl:Gl X "sorted") (hml:X.mg "sorted" = none) (hg:Gl X "set") (hm:X.mg "set" = none) (ha:QA X [a] ta)
  (hs:starEach [a] X.env=[(false,eval a X.env)]:=by rfl)
  (he:starEach [.Call (.Name "set" p2) [a] [] pos2] X.env=[(false,eval (.Call (.Name "set" p2) [a] [] pos2) X.env)]:=by rfl) :
  QE X (.Call (.Name "sorted" p) [.Call (.Name "set" p2) [a] [] pos2] [] pos) (tSS X.K ta):=⟨MF hc hgl hml hg hm ha.h hs he⟩
end
end L2
set_option maxHeartbeats 8000000
namespace L2
open PySem PySem.Spec PyProof.Rows
end L2
set_option maxHeartbeats 4000000
namespace L2
open PySem PySem.Spec PyProof.Rows
theorem CV {H H':Hp}{d:Addr}(s:Same H H')(h:H' d=none):H d=none:=by
 cases e:H d with
 | none=>rfl
 | some o=>rw[s _ _ e] at h;cases h
end L2
namespace SRT
open PySem PySem.Builtin PySem.Builtin.List PyProof.Rows
noncomputable def iT:SortKind:=(sortPriv% PySem.Builtin.KeyKind.tuples) true
noncomputable def TK (s:Shared) (x:Value) (a k:Int):Prop:=∃q o n t u z,x=.ref q/\s.heap.get? q=some o/\o.cls=.type "tuple" /\ o.data=.seq #[.int a t,.int k u,z] n
section
variable {prog:Program}{w:World}{s:Shared}{A:Around}{E:Value->Shared->Prop}
theorem pX {a b:Int}{t u:Tok}{Q:Bool->Shared->Prop}(h:Q (decide (a<b)) s):wpAny (model prog w) A (oneLt' false (.int a t) (.int b u)) Q E s:=by
 rw[oneLt'_eq];refine wpAny_bind (wpAny_richCompare_same (op:=.Lt) (T := "int") (typeIs_int s a t) (typeIs_int s b u) slot_int_lt (call_int_lt ⟨(by intro h;cases h),?_⟩));exact wpAny_truthy_bool h
noncomputable def Sw (a k b l:Int):Bool:=decide (a<b\/(a=b/\k<l))
theorem JK {x y:Value}{a k b l:Int}{Q:Bool->Shared->Prop}(hx:TK s x a k)(hy:TK s y b l)(hd:k≠l)(h:Q (Sw a k b l) s):wpAny (model prog w) A (keyLt' iT x y) Q E s:=by
 obtain⟨q,o,n,t,u,z,rfl,ho,_,hs⟩:=hx;obtain⟨q',o',n',t',u',z',rfl,ho',_,hs'⟩:=hy;show wpAny _ _ (Builtin.List.listItems (.ref q) >>= fun xs=>Builtin.List.listItems (.ref q') >>= _) _ _ s;refine wpAny_bind (listItems_at ho hs ?_);refine wpAny_bind (listItems_at ho' hs' ?_);show wpAny _ _ (forIn [((Value.int a t,Value.int b t'),0),((Value.int k u,Value.int l u'),1),((z,z'),2)] _ _ >>= _) _ _ s;rw[forIn_cons];refine wpAny_bind (wpAny_bind (wpAny_bind (wpAny_eqBool_int ?_)));unfold Sw at h;by_cases e:a=b
 ·subst e;rw[beq_self_eq_true];refine wpAny_pure ?_;simp only[forIn_cons];refine wpAny_bind (wpAny_bind (wpAny_eqBool_int ?_));rw[beq_false_of_ne hd];refine wpAny_bind (pX (wpAny_pure (wpAny_pure (wpAny_pure ?_))));rw[show decide (a<a\/a=a/\k<l)=decide (k<l) from decide_eq_decide.mpr ω] at h;exact h
 rw[beq_false_of_ne e];refine wpAny_bind (oneLt_int (wpAny_pure (wpAny_pure (wpAny_pure ?_))));rw[show decide (a<b\/a=b/\k<l)=decide (a<b) from decide_eq_decide.mpr ω] at h;exact h
end
end SRT
namespace SRT
open PySem PyProof.Rows
noncomputable def Rk (f:Keyed->Int)(xs:Array Keyed)(i:Nat):Int:=match xs[i]? with
 | some p=>f p
 | none=>0
theorem Rk.at {f:Keyed->Int}{xs ys:Array Keyed}{i j:Nat}(h:xs[i]?=ys[j]?):Rk f xs i=Rk f ys j:=by
 unfold Rk;rw[h]
noncomputable def Asc (f:Keyed->Int)(xs:Array Keyed)(n:Nat):Prop:=∀i j,i<j->j<n->Rk f xs i<Rk f xs j
noncomputable def Dsc (f:Keyed->Int)(xs:Array Keyed)(n:Nat):Prop:=∀i j,i<j->j<n->Rk f xs j<Rk f xs i
theorem Asc.snoc {f:Keyed->Int}{xs:Array Keyed}{n:Nat}(h:Asc f xs n)(h1:1<=n)(hl:Rk f xs (n-1)<Rk f xs n):Asc f xs (n+1):=fun i j hij hj=>by
 by_cases e:j=n
 ·subst e;by_cases e2:i=j-1
  ·subst e2;exact hl
  have:=h i (j-1) ω ω;omega
 exact h i j hij ω
theorem Dsc.snoc {f:Keyed->Int}{xs:Array Keyed}{n:Nat}(h:Dsc f xs n)(h1:1<=n)(hl:Rk f xs n<Rk f xs (n-1)):Dsc f xs (n+1):=fun i j hij hj=>by
 by_cases e:j=n
 ·subst e;by_cases e2:i=j-1
  ·subst e2;exact hl
  have:=h i (j-1) ω ω;omega
 exact h i j hij ω
theorem Dsc.mirror {f:Keyed->Int}{xs:Array Keyed}{n:Nat}(h:Dsc f xs n)(hn:n<=xs.size):Asc f (mirror xs 0 n ((n-0)/2)) n:=fun i j hij hj=>by
 have e1:=getElem?_mirror_all (i:=0) hn i;have e2:=getElem?_mirror_all (i:=0) hn j;rw[if_pos ⟨zero_le _,ω⟩] at e1 e2;rw[Rk.at e1,Rk.at e2];exact h _ _ ω ω
structure RB (a₀:Array Keyed)(st:SortSt):Prop where
 kind:kindOf st=iT
 perm:(arrOf st).toList.Perm a₀.toList
 fail:failedOf st=none
 pend:pendingOf st=#[]
theorem RB.size {a₀:Array Keyed}{st:SortSt}(h:RB a₀ st):(arrOf st).size=a₀.size:=by
 have:=h.perm.length_eq;simpa using this
theorem RB.set {a₀ xs:Array Keyed}{st:SortSt}(h:RB a₀ st)(hp:xs.Perm (arrOf st)):RB a₀ (setArr st xs):=
 ⟨h.kind,(Array.perm_iff_toList_perm.mp hp).trans h.perm,h.fail,h.pend⟩
section
variable {prog:Program}{w:World}{s:Shared}{A:Around}{E:Value->Shared->Prop}{a₀:Array Keyed}{f:Keyed->Int}
noncomputable def Asks (prog:Program)(w:World)(A:Around)(E:Value->Shared->Prop)(s:Shared)(a₀:Array Keyed)(f:Keyed->Int):Prop:=
 ∀(st:SortSt)(x y:Keyed)(Q:Option Bool->SortSt->Prop),kindOf st=iT->x∈a₀.toList->y∈a₀.toList->f x≠f y->Q (some (decide (f x<f y))) st->wpS (model prog w) A E s (lt' x y) Q st
theorem wU {st:SortSt}{i j:Nat}(hB:RB a₀ st)(hf:(a₀.toList.map f).Nodup)(hi:i<a₀.size)(hj:j<a₀.size)(hij:i≠j):Rk f (arrOf st) i≠Rk f (arrOf st) j:=by
 have hn:((arrOf st).toList.map f).Nodup:=(hB.perm.map f).nodup_iff.mpr hf;have hz:=hB.size;have e1:(arrOf st)[i]?=some (arrOf st)[i]:=getElem?_pos _ i ω;have e2:(arrOf st)[j]?=some (arrOf st)[j]:=getElem?_pos _ j ω;unfold Rk;rw[e1,e2];show f _≠f _;intro e;refine hij ((List.getElem_inj (xs:=(arrOf st).toList.map f) (i:=i) (j:=j) (h₀:=by simp;omega) (h₁:=by simp;omega) hn).mp ?_);simpa using e
theorem ltR {st:SortSt}{i' j':Nat}{Q:Option Bool->SortSt->Prop}(O:Asks prog w A E s a₀ f)(hf:(a₀.toList.map f).Nodup)(hB:RB a₀ st)(i j:Nat)(ei:i'=i)(ej:j'=j)(hi:i<a₀.size)(hj:j<a₀.size)(hij:i≠j)
  (h:Q (some (decide (Rk f (arrOf st) i<Rk f (arrOf st) j))) st):wpS (model prog w) A E s (ltAt' i' j') Q st:=by
 subst ei;subst ej;have hz:=hB.size;have hne:=wU hB hf hi hj hij;rw[ltAt'_eq];refine wpS_bind (wpS_get ?_);refine wpS_bind (Dg ω fun p hp=>?_);refine wpS_bind (Dg ω fun q hq=>?_);have mp:p∈a₀.toList:=hB.perm.mem_iff.mp (by simpa using Array.mem_of_getElem? hp);have mq:q∈a₀.toList:=hB.perm.mem_iff.mp (by simpa using Array.mem_of_getElem? hq);unfold Rk at h hne;rw[hp,hq] at h hne;exact O st p q Q hB.kind mp mq hne h
theorem Tw {st:SortSt}{Q:Option Nat->SortSt->Prop}(O:Asks prog w A E s a₀ f)(hf:(a₀.toList.map f).Nodup)(hB:RB a₀ st)(nrem:Nat)(en:nrem=a₀.size)(h1:1<=nrem)
  (h:∀n st',1<=n->n<=nrem->RB a₀ st'->Asc f (arrOf st') n->Q (some n) st'):wpS (model prog w) A E s (countRun' 0 nrem) Q st:=by
 refine wpS_bind (wpS_mono (wpS_forRange (I:=fun x c z=>z=st/\c=(none,x)/\Asc f (arrOf st) x) (Q:=fun c z=>z=st/\∃n,c=(none,n)/\1<=n/\n<=nrem/\Asc f (arrOf st) n/\(n<nrem->Rk f (arrOf st) n<Rk f (arrOf st) (n-1))) ?_ ?_ ⟨rfl,rfl,fun i j _ _=>ω⟩) ?_)
 ·rintro x c z h1x hx ⟨rfl,rfl,ha⟩;dsimp only;refine wpS_bind (ltR O hf hB x (x-1) ω ω ω ω ω ?_);by_cases e:Rk f (arrOf z) x<Rk f (arrOf z) (x-1)
  ·rw[decide_eq_true e];exact wpS_pure ⟨rfl,x,rfl,h1x,ω,ha,fun _=>e⟩
  rw[decide_eq_false e];have:=wU hB hf (i:=x) (j:=x-1) ω ω ω;exact wpS_pure ⟨rfl,rfl,ha.snoc h1x ω⟩
 ·rintro c z ⟨rfl,rfl,ha⟩;exact⟨rfl,_,rfl,ω,ω,(by rw[max_eq_right h1] at ha;rw[max_eq_right h1];exact ha),fun q=>ω⟩
 rintro c z ⟨rfl,n,rfl,k1,k2,ha,hx⟩;dsimp only;by_cases he:(n == nrem)=true
 ·rw[if_pos he];exact wpS_pure (h n z k1 k2 hB ha)
 rw[if_neg he];have k3:n<nrem:=by have:¬(n=nrem):=(by simpa using he);omega
 by_cases hg:n>1
 ·rw[if_pos hg];refine wpS_bind (ltR O hf hB 0 (n-1) rfl ω ω ω ω ?_);rw[decide_eq_true (ha 0 (n-1) ω ω)];exact wpS_pure (h n z k1 k2 hB ha)
 rw[if_neg hg];have e1:n=1:=ω;subst e1;have hd:Dsc f (arrOf z) 2:=fun i j hij hj=>by
  have:i=0:=by omega
  have:j=1:=by omega
  subst i;subst j;exact hx k3
 refine wpS_bind (wpS_lift (wpAny_rule (And.intro rfl ?_)));refine wpS_bind (wpS_mono (wpS_forRange (I:=fun x c z'=>z'=z/\c=(none,x,0)/\Dsc f (arrOf z) x) (Q:=fun c z'=>z'=z/\∃n,c=(none,n,0)/\2<=n/\n<=nrem/\Dsc f (arrOf z) n) ?_ ?_ ⟨rfl,rfl,hd⟩) ?_)
 ·rintro x c z' h2x hx2 ⟨rfl,rfl,hd⟩;dsimp only;refine wpS_bind (ltR O hf hB x (x-1) ω ω ω ω ω ?_);have hne:=wU hB hf (i:=x) (j:=x-1) ω ω ω;by_cases e:Rk f (arrOf z') x<Rk f (arrOf z') (x-1)
  ·rw[decide_eq_true e];dsimp only;rw[if_pos rfl,if_neg δ];exact wpS_pure ⟨rfl,rfl,hd.snoc ω e⟩
  rw[decide_eq_false e];dsimp only;rw[if_neg (Bool.false_ne_true)];refine wpS_bind (ltR O hf hB (x-1) x ω ω ω ω ω ?_);have hlt:Rk f (arrOf z') (x-1)<Rk f (arrOf z') x:=ω;rw[decide_eq_true hlt];exact wpS_pure ⟨rfl,x,rfl,h2x,ω,hd⟩
 ·rintro c z' ⟨rfl,rfl,hd⟩;rw[max_eq_right ω] at hd |-;exact⟨rfl,_,rfl,ω,le_refl _,hd⟩
 rintro c z' ⟨rfl,n,rfl,q1,q2,hd⟩;dsimp only;rw[if_neg δ];have hz:=hB.size;apply wpS_bind;apply wpS_reverse;have hB':RB a₀ (setArr z' (mirror (arrOf z') 0 (0+n) ((0+n-0)/2))):=hB.set (mirror_perm _ _ _ _);have ha':Asc f (arrOf (setArr z' (mirror (arrOf z') 0 (0+n) ((0+n-0)/2)))) n:=by
  have:=hd.mirror ω;rw[zero_add];exact this
 generalize setArr z' (mirror (arrOf z') 0 (0+n) ((0+n-0)/2))=st2 at hB' ha' |-;refine wpS_bind (wpS_mono (wpS_forRange (I:=fun x c z=>z=st2/\c=(none,x)/\Asc f (arrOf st2) x) (Q:=fun c z=>z=st2/\∃n,c=(none,n)/\1<=n/\n<=nrem/\Asc f (arrOf st2) n) ?_ ?_ ⟨rfl,rfl,ha'⟩) ?_)
 ·rintro x c z h1x hx ⟨rfl,rfl,ha⟩;dsimp only;refine wpS_bind (ltR O hf hB' x (x-1) ω ω ω ω ω ?_);by_cases e:Rk f (arrOf z) x<Rk f (arrOf z) (x-1)
  ·rw[decide_eq_true e];exact wpS_pure ⟨rfl,x,rfl,ω,ω,ha⟩
  rw[decide_eq_false e];have:=wU hB' hf (i:=x) (j:=x-1) ω ω ω;exact wpS_pure ⟨rfl,rfl,ha.snoc ω ω⟩
 ·rintro c z ⟨rfl,rfl,ha⟩;rw[max_eq_right ω] at ha |-;exact⟨rfl,_,rfl,ω,le_refl _,ha⟩
 rintro c z ⟨rfl,n,rfl,k1,k2,ha⟩;exact wpS_pure (h n z k1 k2 hB' ha)
end
end SRT
namespace SRT
open PySem PyProof.Rows
theorem Bf {f:Keyed->Int}{xs:Array Keyed}{k l:Nat}(h:Asc f xs k)(hk:k<xs.size)(hl:l<=k)(h1:∀i,i<l->Rk f xs i<Rk f xs k)(h2:∀i,l<=i->i<k->Rk f xs k<Rk f xs i):Asc f (bubble xs k (k-l)) (k+1):=by
 have g:∀i,Rk f (bubble xs k (k-l)) i=if i=l then Rk f xs k else if l<i/\i<=k then Rk f xs (i-1) else Rk f xs i:=fun i=>by
  have e:=getElem?_bubble hk (k-l) ω i;rw[show k-(k-l)=l by omega] at e;split
  ·rename_i c;rw[if_pos c] at e;exact Rk.at e
  rename_i c;rw[if_neg c] at e;split
  ·rename_i c2;rw[if_pos c2] at e;exact Rk.at e
  rename_i c2;rw[if_neg c2] at e;exact Rk.at e
 intro i j hij hj;rw[g i,g j];by_cases a1:i=l
 ·rw[if_pos a1,if_neg ω,if_pos ω];exact h2 _ ω ω
 rw[if_neg a1];by_cases a2:l<i/\i<=k
 ·rw[if_pos a2,if_neg ω,if_pos ω];exact h _ _ ω ω
 rw[if_neg a2];by_cases b1:j=l
 ·rw[if_pos b1];exact h1 _ ω
 rw[if_neg b1];by_cases b2:l<j/\j<=k
 ·rw[if_pos b2];by_cases c:i=j-1
  ·omega
  exact h _ _ ω ω
 rw[if_neg b2];exact h _ _ ω ω
section
variable {prog:Program}{w:World}{s:Shared}{A:Around}{E:Value->Shared->Prop}{a₀:Array Keyed}{f:Keyed->Int}
theorem Vz {st:SortSt}{n ok:Nat}{Q:Bool->SortSt->Prop}(O:Asks prog w A E s a₀ f)(hf:(a₀.toList.map f).Nodup)(hB:RB a₀ st)(hn:n<=a₀.size)(hok:1<=ok)(hon:ok<=n)(ha:Asc f (arrOf st) ok)
  (h:∀st',RB a₀ st'->Asc f (arrOf st') n->Q true st'):wpS (model prog w) A E s (binarySort' 0 n ok) Q st:=by
 have hm:max ok 1=ok:=ω;refine wpS_bind (wpS_mono (wpS_forRange (I:=fun x c z=>RB a₀ z/\c=(none,())/\Asc f (arrOf z) x) (Q:=fun c z=>RB a₀ z/\c=(none,())/\Asc f (arrOf z) n) ?_ (fun c z hh=>by rw[hm,max_eq_right hon] at hh;exact hh) ⟨hB,rfl,by rw[hm];exact ha⟩) ?_)
 ·rintro k c z hk1 hk ⟨hz,rfl,hk2⟩;dsimp only;have hsz:=hz.size;refine wpS_bind (wpS_mono (wpS_forRange (I:=fun x c z'=>z'=z/\∃l r,c=(none,l,r)/\l<=r/\r<=k/\r-l<=k-x/\(∀i,i<l->Rk f (arrOf z) i<Rk f (arrOf z) k)/\(∀i,r<=i->i<k->Rk f (arrOf z) k<Rk f (arrOf z) i)) (Q:=fun c z'=>z'=z/\∃l,c=(none,l,l)/\l<=k/\(∀i,i<l->Rk f (arrOf z) i<Rk f (arrOf z) k)/\(∀i,l<=i->i<k->Rk f (arrOf z) k<Rk f (arrOf z) i)) ?_ ?_ ⟨rfl,0,k,rfl,zero_le _,le_refl _,le_refl _,fun i hi=>ω,fun i h1 h2=>ω⟩) ?_)
  ·rintro x c z' _ hx ⟨rfl,l,r,rfl,q1,q2,q3,q4,q5⟩;dsimp only;by_cases hl:l≥r
   ·rw[if_pos hl];have:l=r:=by omega
    subst this;exact wpS_pure ⟨rfl,l,rfl,q2,q4,q5⟩
   rw[if_neg hl];refine wpS_bind (ltR O hf hz k ((l+r)/2) ω ω ω ω ω ?_);have hne:=wU hz hf (i:=k) (j:=(l+r)/2) ω ω ω;by_cases e:Rk f (arrOf z') k<Rk f (arrOf z') ((l+r)/2)
   ·rw[decide_eq_true e];refine wpS_pure ⟨rfl,l,(l+r)/2,rfl,ω,ω,ω,q4,fun i h1 h2=>?_⟩;by_cases c:i=(l+r)/2
    ·rw[c];exact e
    have:=hk2 ((l+r)/2) i ω h2;omega
   rw[decide_eq_false e];refine wpS_pure ⟨rfl,(l+r)/2+1,r,rfl,ω,q2,ω,fun i h1=>?_,q5⟩;by_cases c:i=(l+r)/2
   ·rw[c];omega
   have:=hk2 i ((l+r)/2) ω ω;omega
  ·rintro c z' ⟨rfl,l,r,rfl,q1,q2,q3,q4,q5⟩;have:l=r:=by omega
   subst this;exact⟨rfl,l,rfl,q2,q4,q5⟩
  rintro c z' ⟨rfl,l,rfl,q2,q4,q5⟩;dsimp only;refine wpS_bind (wpS_modify (wpS_pure ⟨hz.set (bubble_perm _ _ _),rfl,?_⟩));have:=Bf hk2 ω q2 q4 q5;show Asc f (bubble (arrOf z') (0+k) (0+k-(0+l))) (k+1);rw[zero_add,zero_add];exact this
 rintro c z ⟨hz,rfl,hk⟩;exact wpS_pure (h z hz hk)
theorem O9 {st:SortSt}{Q:Unit->SortSt->Prop}(O:Asks prog w A E s a₀ f)(hf:(a₀.toList.map f).Nodup)(hB:RB a₀ st)(h1:1<=a₀.size)(h64:a₀.size<64)
  (h:∀st',(arrOf st').toList.Perm a₀.toList->failedOf st'=none->Asc f (arrOf st') a₀.size->Q () st'):wpS (model prog w) A E s sortRuns' Q st:=by
 refine wpS_bind (wpS_get ?_);dsimp only;have hs:=hB.size;dsimp only [arrOf] at hs;simp only[hs];have hmr:(sortPriv% PySem.Builtin.minRun) a₀.size a₀.size 0=a₀.size:=by
  obtain⟨k,hk⟩:∃k,a₀.size=k+1:=⟨a₀.size-1,ω⟩;have:minRun' (k+1) a₀.size 0=a₀.size:=by
   rw[minRun'_succ,if_pos h64];rfl
  rw[<- hk] at this;exact this
 rw[hmr];refine wpS_bind (wpS_mono (wpS_forRange (I:=fun x c z=>(x=0/\c=(none,0)/\RB a₀ z)\/(c=(none,a₀.size)/\(arrOf z).toList.Perm a₀.toList/\failedOf z=none/\(pendingOf z).size=1/\Asc f (arrOf z) a₀.size)) (Q:=fun c z=>c=(none,a₀.size)/\(arrOf z).toList.Perm a₀.toList/\failedOf z=none/\(pendingOf z).size=1/\Asc f (arrOf z) a₀.size) ?step ?fin (.inl ⟨rfl,rfl,hB⟩)) ?post)
 case fin=>
  rintro c z (⟨hx,_,_⟩|hD)
  ·omega
  exact hD
 case step=>
  rintro x c z _ hx (⟨rfl,rfl,hz⟩|⟨rfl,d1,d2,d3,d4⟩)
  ·dsimp only;rw[if_neg ω];refine wpS_bind (Tw O hf hz _ (sub_zero _) ω fun n z' n1 n2 hz' ha=>?_);dsimp only;have fin:∀z':SortSt,RB a₀ z'->Asc f (arrOf z') a₀.size->∀m,m=a₀.size->(arrOf (setPending z' ((pendingOf z').push (0,m,0)))).toList.Perm a₀.toList/\failedOf (setPending z' ((pendingOf z').push (0,m,0)))=none/\(pendingOf (setPending z' ((pendingOf z').push (0,m,0)))).size=1/\Asc f (arrOf (setPending z' ((pendingOf z').push (0,m,0)))) a₀.size:=fun z' hz' ha m hm=>
    ⟨hz'.perm,hz'.fail,(by show((pendingOf z').push _).size=1;rw[hz'.pend];rfl),ha⟩
   by_cases hlt:n<a₀.size
   ·rw[if_pos hlt];refine wpS_bind (wpS_lift (wpAny_rule (And.intro rfl ?_)));refine wpS_bind (Vz O hf hz' (show min (a₀.size-0) a₀.size<=a₀.size by omega) n1 ω ha fun z2 hz2 ha2=>?_);rw[if_neg (show ¬((!true)=true) by decide)];refine wpS_bind (wpS_get ?_);have hp2:(pendingOf z2).back?=none:=by rw[hz2.pend];rfl
    rw[show min (a₀.size-0) a₀.size=a₀.size by omega] at ha2;dsimp only [pendingOf] at hp2;rw[hp2];refine wpS_bind (wpS_modify (wpS_pure (.inr ⟨?_,fin z2 hz2 ha2 _ ω⟩)));rw[show 0+min (a₀.size-0) a₀.size=a₀.size by omega]
   rw[if_neg hlt];have e:n=a₀.size:=ω;refine wpS_bind (wpS_get ?_);have hp2:(pendingOf z').back?=none:=by rw[hz'.pend];rfl
   dsimp only [pendingOf] at hp2;rw[hp2];refine wpS_bind (wpS_modify (wpS_pure (.inr ⟨?_,fin z' hz' (e ▸ ha) _ e⟩)));rw[zero_add,e]
  dsimp only;rw[if_pos (le_refl _)];exact wpS_pure ⟨rfl,d1,d2,d3,d4⟩
 case post=>
  rintro c z ⟨rfl,d1,d2,d3,d4⟩;dsimp only;refine wpS_bind (wpS_mono (wpS_forRange (I:=fun _ c z'=>c=(none,())/\z'=z) (Q:=fun c z'=>c=(none,())/\z'=z) ?_ (fun _ _ hh=>hh) ⟨rfl,rfl⟩) ?_)
  ·rintro x c z' _ _ ⟨rfl,rfl⟩;refine wpS_bind (wpS_get ?_);refine Kv (fun _=>wpS_pure ⟨rfl,rfl⟩) fun hg=>?_;have hg2:¬(pendingOf z').size<=1:=hg;omega
  rintro c z' ⟨rfl,rfl⟩;exact wpS_pure (h z' d1 d2 d4)
end
end SRT
namespace SRT
open PySem PyProof.Rows
section
variable {prog:Program}{w:World}{s:Shared}{A:Around}{E:Value->Shared->Prop}
theorem J4 {v:Value}{a k:Int}{Q:Option Value->Shared->Prop}(h:TK s v a k)(q:∀t,Q (some (.int a t)) s):wpAny (model prog w) A (firstOfTuple' v) Q E s:=by
 obtain⟨p,o,n,t,u,z,rfl,ho,hc,hs⟩:=h;show wpAny _ _ (typeOf (.ref p) >>= fun ty=>_) _ _ s;refine wpAny_bind (wpAny_typeOf (T := "tuple") (show s.TypeIs (.ref p) "tuple" from⟨o,ho,hc⟩) ?_);rw[if_neg δ];exact wpAny_bind (listItems_at ho hs (wpAny_pure (q t)))
theorem tZ:∀{vs:List Value}{Q:List (Option Value)->Shared->Prop},(∀v∈vs,∃a k,TK s v a k)->(∀(ws:List Value)(ns:List Int),IntsAre ws ns->ws.length=vs.length->Q (ws.map some) s)->wpAny (model prog w) A (vs.mapM firstOfTuple') Q E s
 | [],Q,_,q=>by
  rw[mapM_nil];exact wpAny_pure (q [] [] .nil rfl)
 | v::vs,Q,h,q=>by
  rw[List.mapM_cons];obtain⟨a,k,hv⟩:=h v (mem_cons_self ..);refine wpAny_bind (J4 hv fun t=>?_);refine wpAny_bind (tZ (vs:=vs) (fun x hx=>h x (mem_cons_of_mem _ hx)) fun ws ns hI hl=>?_);exact wpAny_pure (q (.int a t::ws) (a::ns) (.cons a t hI) (by rw[length_cons,length_cons,hl]))
theorem wA {v:Value}{vs:List Value}{ns:List Int}(hI:IntsAre (v::vs) ns):oneTypeOnly' (v::vs).toArray=pure (some (.type "int")):=by
 simp only[oneTypeOnly'_eq,mapM_toArray,mapM_typeOf_ints hI,map_pure,pure_bind,map_cons,getElem?_toArray,List.getElem?_cons_zero];rw[if_pos ?_];rw[List.all_toArray,all_cons];have e:(Value.type "int" == Value.type "int")=true:=rfl;rw[e,Bool.true_and,all_map];exact all_eq_true.mpr fun _ _=>rfl
theorem N6 {vs:List Value}{Q:SortKind->Shared->Prop}(h:∀v∈vs,∃a k,TK s v a k)(hn:1<=vs.length)(q:Q iT s):wpAny (model prog w) A (keyKind' vs.toArray) Q E s:=by
 rw[keyKind'_eq];rw[mapM_toArray];rw[map_eq_pure_bind];refine wpAny_bind (wpAny_bind (tZ h fun ws ns hI hl=>wpAny_pure ?_));have ha:(ws.map some).toArray.all (·.isSome)=true:=by simp
 rw[if_pos ha];have hfm:(ws.map some).toArray.filterMap id=ws.toArray:=by simp [filterMap_map]
 rw[hfm];cases ws with
 | nil=>rw[<- hl] at hn;cases hn
 | cons v ws=>
  rw[wA hI];refine wpAny_bind (wpAny_rule ?_);exact wpAny_bind (wpAny_pure (wpAny_pure q))
structure qZ (s:Shared)(g:Value->Int)(vs:List Value):Prop where
 tk:∀v∈vs,∃a k,TK s v a k/\0<=k/\k<64/\g v=64*a+k
 nd:(vs.map g).Nodup
theorem JC {a k b l:Int}(h1:0<=k)(h2:k<64)(h3:0<=l)(h4:l<64):Sw a k b l=decide (64*a+k<64*b+l):=decide_eq_decide.mpr ω
theorem gG {vs:List Value}{p:Keyed}(h:p∈(pairsOf vs).toList):p.1∈vs/\p.2=p.1:=by
 unfold pairsOf at h;rw[Array.toList_zip] at h;obtain⟨i,hi,rfl⟩:=List.getElem_of_mem h;simp
theorem tM (vs:List Value):(pairsOf vs).toList.map (·.1)=vs:=by
 unfold pairsOf;simp [List.map_fst_zip]
theorem O2 {g:Value->Int}{vs:List Value}(h:qZ s g vs):Asks prog w A E s (pairsOf vs) fun p=>g p.1:=by
 intro st x y Q hk hx hy hne q;obtain⟨a,k,h1,h2,h3,e1⟩:=h.tk x.1 (gG hx).1;obtain⟨b,l,h4,h5,h6,e2⟩:=h.tk y.1 (gG hy).1;rw[lt'_eq];refine wpS_bind (wpS_get ?_);rw[hk];refine wpS_bind (wpS_lift (wpAny_attempt ?_));by_cases hkl:k=l
 ·-- the same second number: the first are unlike
  subst hkl;obtain⟨p,o,n,t,u,z,e,ho,hc,hs⟩:=h1;obtain⟨p',o',n',t',u',z',e',ho',hc',hs'⟩:=h4;have hab:a≠b:=fun z=>hne (by show g x.1=g y.1;rw[e1,e2,z]);rw[e,e'];show wpAny _ _ (Builtin.List.listItems (.ref p) >>= fun xs=>Builtin.List.listItems (.ref p') >>= _) _ _ s;refine wpAny_bind (listItems_at ho hs ?_);refine wpAny_bind (listItems_at ho' hs' ?_);show wpAny _ _ (forIn [((Value.int a t,Value.int b t'),0),((Value.int k u,Value.int k u'),1),((z,z'),2)] _ _ >>= _) _ _ s;rw[forIn_cons];refine wpAny_bind (wpAny_bind (wpAny_bind (wpAny_eqBool_int ?_)));rw[beq_false_of_ne hab];refine wpAny_bind (oneLt_int (wpAny_pure (wpAny_pure (wpAny_pure ⟨rfl,wpS_pure ?_⟩))));have:decide (a<b)=decide (g x.1<g y.1):=decide_eq_decide.mpr ω;rw[this];exact q
 refine JK h1 h4 hkl ⟨rfl,wpS_pure ?_⟩;rw[JC h2 h3 h5 h6,<- e1,<- e2];exact q
end
end SRT
namespace SRT
open PySem PyProof.Rows
section
variable {prog:Program}{w:World}{s:Shared}{A:Around}{E:Value->Shared->Prop}
theorem qZ.keep {g:Value->Int}{vs:List Value}{s':Shared}(h:qZ s g vs) (k:∀q o,s.heap.get? q=some o->o.cls=.type "tuple" -> s'.heap.get? q=some o):qZ s' g vs:=
 ⟨fun v hv=>by
  obtain⟨a,b,⟨q,o,n,t,u,z,e,ho,hc,hs⟩,r⟩:=h.tk v hv;exact⟨a,b,⟨q,o,n,t,u,z,e,k q o ho hc,hc,hs⟩,r⟩,h.nd⟩
theorem ux {g:Value->Int}{vs:List Value}{xs:Array Keyed}(hp:xs.toList.Perm (pairsOf vs).toList)(h:Asc (fun p=>g p.1) xs (pairsOf vs).size):((xs.map (·.2)).toList.map g).Pairwise (· < ·):=by
 have hz:xs.size=(pairsOf vs).size:=by
  have:=hp.length_eq;simpa using this
 refine pairwise_iff_getElem.mpr fun i j hi hj hij=>?_;have hix:i<xs.size:=by simpa using hi
 have hjx:j<xs.size:=by simpa using hj
 have e:∀(k:Nat)(hk:k<xs.size),g xs[k].2=Rk (fun p=>g p.1) xs k:=fun k hk=>by
  have m:xs[k]∈(pairsOf vs).toList:=hp.mem_iff.mp (by simp);unfold Rk;rw[getElem?_pos xs k hk];show g _=g _;rw[(gG m).2]
 have a1:=h i j hij ω;rw[<- e i hix,<- e j hjx] at a1;simpa using a1
theorem Sq {a:Addr}{vs:List Value}{n:Nat}{P:Fin->Shared->Prop}{g:Value->Int}(ho:s.heap.get? a=some (seqObj "list" vs.toArray n)) (hR:qZ s g vs)
  (hlen:vs.length<64) (h:∀xs:Array Value,xs.toList.Perm vs->(xs.toList.map g).Pairwise (· < ·)->P (.done (.ret .none)) { s with heap:=sortedHeap s.heap a vs xs }):wpAny (model prog w) A (Builtin.«list.sort» ⟨[.ref a],[]⟩) P E s:=by
 rw[list_sort_plain];have la:a<s.heap.objs.size:=lt_size ho;refine wpAny_bind (listItems_at ho rfl (wpAny_bind (listUpdate_at ho rfl ?_)));obtain⟨e,he⟩:∃e,(s.heap.update a (Obj.mapSeq fun _=>#[])).get? a=some (seqObj "list" #[] e):=⟨_,get?_update_seq ho fun _=>#[]⟩;refine wpAny_bind (seqEpoch_at he rfl (wpAny_bind (wpAny_newTuple (wpAny_bind (wpAny_newList (wpAny_holding ?_))))));have h6:(((s.heap.update a (Obj.mapSeq fun _=>#[])).push (seqObj "tuple" vs.toArray 0)).push (seqObj "list" #[] 0)).get? a=some (seqObj "list" #[] e):=by
  rw[get?_push_ne _ _ _ (by rw[size_push',size_update];exact ne_of_lt (Nat.le_succ_of_le la)),get?_push_ne _ _ _ (by rw[size_update];exact ne_of_lt la),he]
 have hR6:qZ { s with heap:=((s.heap.update a (Obj.mapSeq fun _=>#[])).push (seqObj "tuple" vs.toArray 0)).push (seqObj "list" #[] 0) } g vs:=hR.keep fun q o hq hc=>by
  have hne:q≠a:=fun z=>by
   rw[z,ho] at hq;cases hq;exact absurd (show Value.type "list" = Value.type "tuple" from hc) δ
  exact get?_push_of_some _ (get?_push_of_some _ ((get?_update_other _ _ (Ne.symm hne)).trans hq))
 show wpAny _ A _ P E { s with heap:=((s.heap.update a (Obj.mapSeq fun _=>#[])).push (seqObj "tuple" vs.toArray 0)).push (seqObj "list" #[] 0) };dsimp only;by_cases h2:(vs.toArray.size<2)
 ·rw[if_pos h2,if_pos h2];refine(wpAny_bind (wpAny_pure ?_));rw[StateT.run_pure];refine wpAny_bind (wpAny_pure (wpAny_bind (seqEpoch_at h6 rfl (wpAny_bind (listUpdate_at h6 rfl ?_ (hsz2:=?z))))))
  case z=>rw[size_map];show(pairsOf vs).size<=_;rw[pairsOf_size,sizeLine_eq];omega
  simp only[false_eq_true,bne_self_eq_false,if_false];have e0:((vs.toArray.zip vs.toArray).map (·.2)).toList=vs:=by rw[show(vs.toArray.zip vs.toArray).map (·.2)=(pairsOf vs).map (·.2) from rfl,jN]
  refine wpAny_pure (h _ (by rw[e0]) ?_);rw[e0]
  match vs,h2 with
  | [],_=>exact .nil
  | [v],_=>exact List.pairwise_singleton _ _
  | _::_::t,h2=>exact absurd h2 (by simp)
 rw[if_neg h2,if_neg h2];refine wpAny_bind (N6 (fun v hv=>?_) (by simp at h2;omega) ?_)
 ·obtain⟨a,k,t,_⟩:=hR6.tk v hv;exact⟨a,k,t⟩
 refine wpAny_bind (wpAny_mono (O9 (a₀:=pairsOf vs) (f:=fun p=>g p.1) (st:=SortSt.mk' iT (vs.toArray.zip vs.toArray) #[] 7 none) (Q:=fun _ z=>(arrOf z).toList.Perm (pairsOf vs).toList/\failedOf z=none/\Asc (fun p=>g p.1) (arrOf z) (pairsOf vs).size) (O2 hR6) ?nd ⟨rfl,List.Perm.refl _,rfl,rfl⟩ (by rw[pairsOf_size];simp at h2;omega) (by rw[pairsOf_size];exact hlen) fun z d1 d2 d3=>⟨d1,d2,d3⟩) ?_ fun _ _ e=>e)
 case nd=>
  have:=hR.nd;rw[<- tM vs,map_map] at this;exact this
 rintro⟨⟨⟩,z⟩ s' ⟨rfl,d1,d2,d3⟩;have hm:((arrOf z).map (·.2)).toList.Perm vs:=by
  have:=d1.map (·.2);rw[<- toList_map,<- toList_map,jN] at this;exact this
 refine wpAny_bind (seqEpoch_at h6 rfl (wpAny_bind (listUpdate_at h6 rfl ?_ (hsz2:=?z))))
 case z=>
  have:=hm.length_eq;rw[length_toList] at this;show((arrOf z).map (·.2)).size<=_;rw[this,sizeLine_eq];omega
 dsimp only;rw[d2];simp only[false_eq_true,bne_self_eq_false,if_false];exact wpAny_pure (h _ hm (ux d1 d3))
theorem KY {l:Addr}{vs:List Value}{Q:Value->Shared->Prop}{g:Value->Int}(hl:s.heap.IsList l vs.toArray)(hR:qZ s g vs)(hlen:vs.length<64)
  (h:∀xs:Array Value,xs.toList.Perm vs->(xs.toList.map g).Pairwise (· < ·)->Q (.ref (s.heap.objs.size+1)) { s with heap:=sortedAll s.heap vs xs }):wpAny (model prog w) A (call (.builtin "sorted") [.ref l]) Q E s:=by
 refine Calls.call_function_entry kind_sorted plain_sorted entry_sorted (args_sorted1 (.ref l)) ?_;unfold Builtin.«sorted»;refine wpAny_bind (m:=checkCount "sorted" 1 1 _) (wpAny_pure (wpAny_bind (collect_list hl (wpAny_bind (wpAny_newList ?_)))));have hz:((s.heap.push (seqObj "list" #[] 0)).update s.heap.objs.size (Obj.mapSeq (· ++ vs.toArray))).objs.size=s.heap.objs.size+1:=size_update .. |>.trans (size_push' _ _);have hL:(((s.heap.push (seqObj "list" #[] 0)).update s.heap.objs.size (Obj.mapSeq (· ++ vs.toArray))).push (seqObj "list" vs.toArray 0)).get? (s.heap.objs.size+1)=some (seqObj "list" vs.toArray 0):=hz ▸ get?_push_size _ rfl;show wpAny (model prog w) A.in1 _ _ E { s with heap:=((s.heap.push (seqObj "list" #[] 0)).update s.heap.objs.size (Obj.mapSeq (· ++ vs.toArray))).push (seqObj "list" vs.toArray 0) };rw[hz];refine wpAny_bind (wpAny_holding (wpAny_call_entry slot_list_sort ⟨_,hL,rfl⟩ entry_list_sort (Sq hL (hR.keep fun q o hq hc=>?_) hlen fun xs hp ho=>⟨_,rfl,wpAny_pure ⟨_,rfl,h xs hp ho⟩⟩) (args_list_sort _)));have hne:s.heap.objs.size≠q:=fun z=>by
  exact ne_of_lt (lt_size hq) z.symm
 exact get?_push_of_some _ ((get?_update_other _ _ hne).trans (get?_push_of_some _ hq))
end
end SRT
namespace L2
open PySem PySem.Spec PyProof.Rows
noncomputable def rkT (key:Addr->Int×Int)(p:Addr):Int:=64*(key p).1+(key p).2
noncomputable def Uj:List V->Hp->VK->Prop:=fun vs H Q=>∃(l:Addr)(ps:List Addr)(key:Addr->Int×Int),vs=[.ref l]/\H l=some (.lst (ps.map V.ref))/\ps.length<64 /\
 (∀p∈ps,(∃v,H p=some (.tup [.int (key p).1,.int (key p).2,v]))/\0<=(key p).2/\(key p).2<64)/\(ps.map (rkT key)).Nodup /\
 ∀(d:Addr)(qs:List Addr),H d=none->qs.Perm ps->(qs.map (rkT key)).Pairwise (· < ·)->Q (.ref d) (upd H d (.lst (qs.map V.ref)))
theorem gm:∀{ps:List Addr}{us:List Value},Vals (ps.map V.ref) us->us=ps.map Value.ref
 | [],_,h=>by cases h;rfl
 | p::ps,_,h=>by
  cases h with
  | cons r h=>
   cases r;rw[gm h];rfl
theorem nF:∀(ps:List Addr),Vals (ps.map V.ref) (ps.map Value.ref)
 | []=>.nil
 | p::ps=>.cons rfl (nF ps)
noncomputable def rkV (key:Addr->Int×Int):Value->Int
 | .ref p=>rkT key p
 | _=>0
theorem tL:∀{xs:List Value}{ps:List Addr},xs.Perm (ps.map Value.ref)->∃qs:List Addr,xs=qs.map Value.ref/\qs.Perm ps:=fun {xs ps} h=>by
 have hx:∀v∈xs,∃p,v=Value.ref p:=fun v hv=>by
  obtain⟨p,_,e⟩:=mem_map.mp (h.mem_iff.mp hv);exact⟨p,e.symm⟩
 obtain⟨qs,rfl⟩:∃qs:List Addr,xs=qs.map Value.ref:=by
  clear h
  induction xs with
  | nil=>exact⟨[],rfl⟩
  | cons v xs ih=>
   obtain⟨p,rfl⟩:=hx v (mem_cons_self ..);obtain⟨qs,rfl⟩:=ih fun x m=>hx x (mem_cons_of_mem _ m);exact⟨p::qs,rfl⟩
 refine⟨qs,rfl,?_⟩;have:=h.filterMap fun v=>match v with | .ref p=>some p|_=>none
 simpa [filterMap_map,Function.comp_def] using this
section
variable {X:Cx}
theorem Ax:cN X (.builtin "sorted") Uj:=by
 intro pins s σ H xs us Q I rv h;obtain⟨l,ps,key,rfl,el,hl,hp,hnd,q⟩:=h;cases rv with
 | cons r rr=>
  cases rr;cases r;obtain⟨its,rl,pl,hz⟩:=I.list (SqL.of el);have e:=gm rl;subst e;have hg:(fun v=>rkV key v)∘Value.ref=rkT key:=rfl;refine SRT.KY (g:=rkV key) pl.isList ⟨fun v hv=>?_,?_⟩ (by rw[length_map];exact hl) fun ys hy ho=>?_
  ·obtain⟨p,hm,rfl⟩:=mem_map.mp hv;obtain⟨⟨v,ep⟩,k1,k2⟩:=hp p hm;obtain⟨ts,rt,pt,_⟩:=I.tuple (SqT.of ep);obtain⟨ob,g1,g2,n,g3⟩:=pt;cases rt with
   | cons r1 rt=>
    cases rt with
    | cons r2 rt=>
     cases rt with
     | cons r3 rt=>
      cases rt;obtain⟨t,rfl⟩:=r1;obtain⟨u,rfl⟩:=r2;exact⟨(key p).1,(key p).2,⟨p,ob,n,t,u,_,rfl,g1,g2,g3⟩,k1,k2,rfl⟩
  ·rw[map_map];exact hnd
  obtain⟨qs,e,hq⟩:=tL hy;rw[e,map_map] at ho;obtain⟨n,he⟩:=sortedAll_at s.heap (ps.map Value.ref) ys;have le:s.heap.objs.size<=s.heap.objs.size+1:=le_succ _;have hf:H (s.heap.objs.size+1)=none:=I.hok.fresh le;refine⟨.ref (s.heap.objs.size+1),_,I.laid (t':=s.toks) (fun c o z=>sortedAll_old z) le (show bI X.prog X.w _ _ _ (.lst (qs.map V.ref)) from⟨aK (by rw[length_map,hq.length_eq];omega),qs.map Value.ref,n,nF qs,?_⟩),rfl,q _ qs hf hq ho⟩;rw[he];have:ys=(qs.map Value.ref).toArray:=by rw[<- e]
  rw[this]
end
end L2
namespace SRT
open PySem PyProof.Rows
theorem Cr:mroOf (.type "reversed")=pure [.type "reversed",.type "object"]:=by rw[mroOf_type];kernel_rfl
theorem Ny:typeLookup (.type "reversed") "__new__" = pure (some (.builtin "reversed.__new__")):=by rw[typeLookup_type,builtinLookup_eq_fast];kernel_rfl
theorem Jv:Bind.madeBy (.type "reversed")=pure (some "reversed.__new__"):=madeBy_type Cr Ny ψ
theorem Tv (a:Value):checkTypeCall "reversed" ⟨[a],[]⟩=pure ():=by kernel_rfl
theorem TF (a:Value):checkBuiltinCall "reversed.__new__" ⟨[.type "reversed",a],[]⟩=pure ():=by kernel_rfl
theorem Ar:entryFor table "reversed.__new__" = some Builtin.«reversed.__new__»:=entryFor_of_tree (by kernel_rfl)
theorem zy:plainId "reversed.__new__" = true:=by decide +kernel
theorem Nu:isSubtype (.type "list_reverseiterator") (.type "reversed")=pure false:=by rw[isSubtype_type];kernel_rfl
theorem gA:Slot "list_reverseiterator" "__next__" "list_reverseiterator.__next__" :=
 .of (owner := "list_reverseiterator") (n := "__next__") (by rw[typeLookup_type,builtinLookup_eq_fast];kernel_rfl) ψ ψ ψ (by first|exact .inl ψ|exact .inr ψ) (by rw[isSubtype_type];kernel_rfl)
theorem pK:Slot "list_reverseiterator" "__iter__" "list_reverseiterator.__iter__" :=
 .of (owner := "list_reverseiterator") (n := "__iter__") (by rw[typeLookup_type,builtinLookup_eq_fast];kernel_rfl) ψ ψ ψ (by first|exact .inl ψ|exact .inr ψ) (by rw[isSubtype_type];kernel_rfl)
theorem n6:entryFor table "list_reverseiterator.__next__" = some Builtin.«list_reverseiterator.__next__»:=entryFor_of_tree (by kernel_rfl)
theorem yD:entryFor table "list_reverseiterator.__iter__" = some Builtin.«dict_keyiterator.__iter__»:=entryFor_alias (id' := "dict_keyiterator.__iter__") (by kernel_rfl) rfl ψ (by kernel_rfl)
theorem qX (a:Value):argsOk "list_reverseiterator.__next__" ⟨[a],[]⟩:=by unfold argsOk;kernel_rfl
theorem Bh (a:Value):argsOk "list_reverseiterator.__iter__" ⟨[a],[]⟩:=by unfold argsOk;kernel_rfl
noncomputable def kW (h:Heap) (rt l:Addr) (j:Int):Prop:=h.get? rt=some { cls:=.type "list_reverseiterator",data:=.fields #[.ref l,.int j 0] }
section
variable {prog:Program}{w:World}{A:Around}{E:Value->Shared->Prop}{s:Shared}{rt l:Addr}{j:Int}
theorem kW.ty (h:kW s.heap rt l j):s.TypeIs (.ref rt) "list_reverseiterator" := ⟨_,h,rfl⟩
theorem G8 {items:Array Value}{x:Value}{Q:Option Value->Shared->Prop}(hI:kW s.heap rt l j)(hl:s.heap.IsList l items)(h0:0<=j)(hx:items[j.toNat]?=some x)
  (hQ:∀h',kW h' rt l (j-1)->Heap.SameBut rt s.heap h'->Q (some x) { s with heap:=h' }):wpAny (model prog w) A (pyNext (.ref rt)) Q E s:=by
 obtain⟨oL,hoL,_,nL,hdL⟩:=hl;unfold pyNext;refine wpAny_bind (wpAny_attempt (wpAny_callSpecial?_slot (name:=Str.ofString "__next__") hI.ty gA (wpAny_call_entry gA hI.ty n6 ?_ (qX _))));show wpAny _ _ (field (.ref rt) 1 >>= _) _ _ s;refine wpAny_bind (wpAny_field hI rfl (x:=.int j 0) rfl ?_);dsimp only;rw[if_neg ω];refine wpAny_bind (wpAny_field hI rfl (x:=.ref l) rfl ?_);refine wpAny_bind (wpAny_seqItems hoL hdL ?_);dsimp only;rw[hx];refine wpAny_bind (wpAny_setField_rec hI (by simp) fun h1 g1 b1=>?_);exact wpAny_pure ⟨_,rfl,wpAny_pure (hQ h1 g1 b1)⟩
theorem GQ {α:Type}(hh:A.handled=none) {P:α->Shared->Prop}{E':Value->Shared->Prop}(h:∀(h':Heap)(e:Value),(∀c o,s.heap.get? c=some o->h'.get? c=some o)->Shared.TypeIs { s with heap:=h' } e "StopIteration" -> E' e { s with heap:=h' }) :
  wpAny (model prog w) A (newExc (.type "StopIteration") [] >>= fun e=>(raiseNew e:Sem α)) P E' s:=by
 refine wpAny_bind ?_;simp only[newExc,newTuple];refine wpAny_bind (wpAny_newObj_type (wpAny_bind (m:=firstArgMember _ _) (wpAny_of_eq (a:=Value.none) (by first|rfl|(simp only[firstArgMember];rfl)) ?_)) (by size_fits))
 refine wpAny_newObj_type ?_ (by size_fits);simp only[raiseNew];refine wpAny_bind (wpAny_handled ?_);rw[hh];exact wpAny_bind (wpAny_pure (wpAny_throw (h _ (.ref _) (fun c o e=>get?_push_of_some _ (get?_push_of_some _ e)) ⟨_,get?_push_size _ rfl,rfl⟩)))
theorem Le {Q:Option Value->Shared->Prop}(hh:A.handled=none)(hI:kW s.heap rt l j)(h0:j<0)
  (hQ:∀h',Heap.ExtBut rt s.heap h'->Q none { s with heap:=h' }):wpAny (model prog w) A (pyNext (.ref rt)) Q E s:=by
 unfold pyNext;refine wpAny_bind (wpAny_attempt (wpAny_callSpecial?_slot (name:=Str.ofString "__next__") hI.ty gA (wpAny_call_entry gA hI.ty n6 ?_ (qX _))));show wpAny _ _ (field (.ref rt) 1 >>= _) _ _ s;refine wpAny_bind (wpAny_field hI rfl (x:=.int j 0) rfl ?_);dsimp only;rw[if_pos h0];refine wpAny_bind (wpAny_rule ?_);refine wpAny_bind ?_;show wpAny _ _ (newExc (.type "StopIteration") [] >>= fun e=>(raiseNew e:Sem _)) _ _ s;refine GQ (show A.in1.handled=none from hh) fun h' e k te=>?_;refine wpAny_bind (wpAny_isInstance (T := "StopIteration") (b:=true) te isSubtype_stop ?_);exact wpAny_pure (hQ h' fun b o _ z=>k b o z)
theorem wV {Q:Value->Shared->Prop}(hI:kW s.heap rt l j)(h:Q (.ref rt) s):wpAny (model prog w) A (pyIter (.ref rt)) Q E s:=by
 refine wpAny_pyIter_slot hI.ty pK (wpAny_call_entry pK hI.ty yD ?_ (Bh _));show wpAny _ _ (ret (.ref rt)) _ _ s;exact wpAny_pure ⟨_,rfl, "list_reverseiterator",_,hI.ty,gA.lookup,h⟩
end
end SRT
namespace SRT
open PySem PyProof.Rows
theorem KN:isSubtype (.type "reversed") (.type "reversed")=pure true:=by rw[isSubtype_type];kernel_rfl
section
variable {prog:Program}{w:World}{A:Around}{E:Value->Shared->Prop}{s:Shared}{l:Addr}{items:Array Value}
theorem Ld {P:PySem.Fin->Shared->Prop}(hL:s.heap.IsList l items) (h:P (.done (.ret (.ref s.heap.objs.size))) { s with heap:=s.heap.push { cls:=.type "list_reverseiterator",data:=.fields #[.ref l,.int ((items.size:Int)-1) 0] } }) :
  wpAny (model prog w) A (Builtin.«reversed.__new__» ⟨[.type "reversed",.ref l],[]⟩) P E s:=by
 have hT:=hL.typeIs;have hs:=KN;unfold Builtin.«reversed.__new__»
 wp_walk
 refine wpAny_of_eq F.slot_list_reversed.lookup ?_;refine wpAny_bind (wpAny_of_eq (F.slot_list_reversed.bind _) ?_);show wpAny _ _ (rule "reversed.__new__.own-method" >>= _) _ _ s;refine wpAny_bind (wpAny_rule (wpAny_bind (wpAny_runValue ?_)));obtain⟨oL,ho,_,nL,hd⟩:=hL;refine codeAny_call_builtin F.slot_list_reversed.plain F.entry_list_reversed (F.slot_list_reversed.check _ _ _ _ _ _ _ _ hT (F.args_list_reversed_1 _) ?_);show wpAny _ _ (Builtin.List.listItems (.ref l) >>= fun xs=>newFields "list_reverseiterator" [.ref l,rawInt ((xs.size:Int)-1)] >>= fun v=>ret v) _ _ s;exact wpAny_bind (listItems_at ho hd (wpAny_bind (wpAny_newObj_type (wpAny_pure (wpAny_pure h)))))
theorem Ke {Q:Value->Shared->Prop}(hL:s.heap.IsList l items) (h:Q (.ref s.heap.objs.size) { s with heap:=s.heap.push { cls:=.type "list_reverseiterator",data:=.fields #[.ref l,.int ((items.size:Int)-1) 0] } }) :
  wpAny (model prog w) A (call (.type "reversed") [.ref l]) Q E s:=by
 have hmro:=Cr;have hmade:=Jv;have hsub:=Nu;have hct:=Tv (.ref l);refine wpAny_call (codeAny_of_tree ?_);show wpAny _ _ (callAny (.type "reversed") _) _ _ _;refine wpAny_pure (And.intro (Code.quiet_builtin _ ψ) (codeAny_builtin F.entry_type_call ?_));rw[Around.under_plain (weight_type_call_type "reversed" [.ref l] []) (units_type_call_type "reversed" [.ref l] [])];have h1:(Value.type "reversed" == Value.type "type")=false:=by decide +kernel
 have h2:((Manifest.find? "reversed").bind (·.mro.findSome? fun t=>(Manifest.find? t).bind fun b=>if b.noNew then some true else if b.attrs.any (·.1 == "__new__") then some false else none)).getD false=false:=by decide +kernel
 iterate 60 (try any_goals first|assumption|wp_step)
 refine codeAny_call_builtin zy Ar (wpAny_of_eq (TF _) (Ld hL ?_));dsimp only;have hT:Shared.TypeIs { s with heap:=s.heap.push { cls:=.type "list_reverseiterator",data:=.fields #[.ref l,.int ((items.size:Int)-1) 0] } } (.ref s.heap.objs.size) "list_reverseiterator" := ⟨_,get?_push_size _ rfl,rfl⟩
 iterate 60 (try any_goals first|assumption|wp_step)
end
end SRT
namespace L2
open PySem PySem.Spec PyProof.Rows
noncomputable def Itv (K:PySem.W.Frag)(a:Addr)(n:Nat):It:=
 ⟨fun i H=>∃xs x,SqL K H a xs/\xs.length=n/\i<n/\xs[n-1-i]?=some x,fun i H x H'=>H'=H/\∀xs,SqL K H a xs->xs[n-1-i]?=some x,fun i H=>n<=i⟩
theorem Gk {P:Program}{w:World}{K:PySem.W.Frag}{tg:Expr}(a it:Addr)(n:Nat):Turn P w K tg (Itv K a n) [it] it (fun i h=>SRT.kW h it a ((n:Int)-1-i)) where
 mem:=by simp
 obj:=fun i h st b hb=>by
  have e:b=it:=by simpa using hb
  subst e;exact⟨_,st,fun v z=>by cases z⟩
 keep:=fun i h h' st k=>k it (by simp) _ st
 item:=by
  intro X hP hw hK hc i pins s σ H E I hf st hg;subst hP hw hK;obtain⟨xs,x,hq,hl,hi,hx⟩:=hg;obtain⟨its,rv,p,hz⟩:=I.list hq;obtain⟨u,hu,ru⟩:=rv.get hx;obtain⟨f0,f1,f2,f3,f4,f5⟩:=hf it (by simp);refine SRT.G8 st p.isList ω (x:=u) (by rw[show((n:Int)-1-i).toNat=n-1-i by omega];simpa using hu) fun h' st' sb=>?_;have I1:Inv X pins σ H { s with heap:=h' }:=I.turned (t':=s.toks) (fun b o hb e=>(sb.2 b hb).trans e) f0 f1 f3 f4 f5;have st2:SRT.kW h' it a ((n:Int)-1-((i+1:Nat):Int)):=by
   rw[show(n:Int)-1-((i+1:Nat):Int)=(n:Int)-1-i-1 by omega];exact st'
  exact⟨u,rfl,CW (s:={ s with heap:=h' }) st' rfl rfl δ ⟨x,H,I1,ru,⟨rfl,fun ys hy=>by rw[I.jy hy hq];exact hx⟩,st2,fun b hb=>(hf b hb).1⟩⟩
 done:=by
  intro X hP hw hK hc i pins s σ H E I hf st hg;subst hP hw hK;replace hg:n<=i:=hg;obtain⟨f0,f1,f2,f3,f4,f5⟩:=hf it (by simp);exact SRT.Le (I.ok.hd hc) st ω fun h' eb=>⟨rfl,I.turned (t':=s.toks) (fun b o hb e=>eb b o hb e) f0 f1 f3 f4 f5⟩
 self:=fun _ _ _ _ _ st h=>SRT.wV st h
noncomputable def S9 (K:PySem.W.Frag)(ta:TA):TI:=fun σ H R=>ta σ H fun vs H1=>∃a xs,vs=[.ref a]/\SqL K H1 a xs/\R (Itv K a xs.length) H1
section
variable {X:Cx}{tg:Expr}
theorem Ro {a:Expr}{ta:TA}{p pos:Pos}(hg:Gl X "reversed") (hm:X.mg "reversed" = none) (ha:PA X [a] ta) (hs:starEach [a] X.env=[(false,eval a X.env)]:=by rfl):PI X tg (.Call (.Name "reversed" p) [a] [] pos) (S9 X.K ta):=by
 intro pins s σ H R I h;refine Call_ (eU I hg hm boot_reversed (PyProof.Rows.callWith_type1 (thA (ha pos pins s σ H _ I h) fun us s1 vs H1 I1 r1 q1=>?_) hs rfl));obtain⟨l,xs,e,g1,q⟩:=q1;subst e;cases r1 with
 | cons r rr=>
  cases rr;cases r;obtain⟨its,rv,p1,hz1⟩:=I1.list g1;have hl:=rv.length;refine SRT.Ke p1.isList ?_;have b1:SRT.kW (s1.heap.push { cls:=.type "list_reverseiterator",data:=.fields #[.ref l,.int ((its.toArray.size:Int)-1) 0] }) s1.heap.objs.size l ((xs.length:Int)-1-((0:Nat):Int)):=by
   have e:=get?_push_size s1.heap (o:={ cls:=.type "list_reverseiterator",data:=.fields #[.ref l,.int ((its.toArray.size:Int)-1) 0] }) rfl;unfold SRT.kW;rw[e,show((its.toArray.size:Int)-1)=(xs.length:Int)-1-((0:Nat):Int) by rw[size_toArray];omega]
  refine SRT.wV (s:={ s1 with heap:=_ }) b1 ?_;refine⟨s1.heap.objs.size,[s1.heap.objs.size],_,_,H1,rfl,I1.kept (t':=s1.toks) fun b o e=>get?_push_of_some _ e,Gk l _ xs.length,b1,fun b hb=>?_,q⟩;have e:b=s1.heap.objs.size:=by simpa using hb
  subst e;exact I1.rY (le_refl _) (I1.hok.fresh (le_refl _))
theorem Q0 {a:Expr}{ta:TA}{p pos:Pos}(hg:Gl X "reversed") (hm:X.mg "reversed" = none) (ha:QA X [a] ta) (hs:starEach [a] X.env=[(false,eval a X.env)]:=by rfl):QI X tg (.Call (.Name "reversed" p) [a] [] pos) (S9 X.K ta):=⟨Ro hg hm ha.h hs⟩
theorem Ve {K:PySem.W.Frag}{a:Addr}{xs:List V}{g:TG}{tb:TS}{D:Ends}{σ:St}{H:Hp}{R:It->Hp->Prop}(hR:R=(fun J H1=>∃W:Nat->Nat->St->Hp->Prop,(∃m,W 0 m σ H1)/\∀i m σ H,W i m σ H ->
  (J.stop i H/\D.nx σ H)\/(J.go i H/\∃N:St->Hp->Prop,(∀σ' H',N σ' H'->∃m',m'<m/\W (i+1) m' σ' H')/\∀x H',J.yld i H x H'->g x σ H' fun σ2 H2=>tb { D with nx:=N,ct:=N,bk:=D.nx } σ2 H2)))
  (Pv:Nat->St->Hp->Prop) (h0:Pv 0 σ H) (hl:∀i σ H,Pv i σ H->SqL K H a xs) (hs:∀i x σ H,xs.reverse[i]?=some x->Pv i σ H->g x σ H fun σ2 H2=>tb { D with nx:=Pv (i+1),ct:=Pv (i+1),bk:=D.nx } σ2 H2) (hd:∀σ H,Pv xs.length σ H->D.nx σ H):R (Itv K a xs.length) H:=by
 subst hR;refine⟨fun i m σ H=>m=xs.length-i/\i<=xs.length/\Pv i σ H,⟨xs.length,by simp,zero_le _,h0⟩,?_⟩;rintro i m σ H ⟨rfl,hi,p⟩;have q:=hl i σ H p;by_cases hlt:i<xs.length
 ·have ex:xs[xs.length-1-i]?=some xs[xs.length-1-i]:=getElem?_eq_getElem ω;refine .inr ⟨⟨xs,_,q,rfl,hlt,ex⟩,Pv (i+1),fun σ' H' p'=>⟨xs.length-(i+1),ω,rfl,hlt,p'⟩,fun x H' y=>?_⟩;obtain⟨e,y⟩:=y;subst e;refine hs i x σ _ ?_ p;rw[getElem?_reverse hlt];exact y xs q
 have e:i=xs.length:=ω;subst e;exact .inl ⟨le_refl _,hd σ H p⟩
end
theorem ints_get:∀{us:List Value}{ns:List Int}{m:Nat}{v:Value},IntsAre us ns->us[m]?=some v->∃a t,ns[m]?=some a/\v=.int a t
 | _,_,0,_,.cons n t h,e=>by cases e;exact⟨n,t,rfl,rfl⟩
 | _,_,m+1,_,.cons n t h,e=>ints_get h (m:=m) e
theorem mK {α β:Type}(f:α->β):∀(l:List α)(j:Nat),(l.eraseIdx j).map f=(l.map f).eraseIdx j
 | [],_=>rfl
 | _::_,0=>rfl
 | a::l,j+1=>by
  show f a::(l.eraseIdx j).map f=f a::(l.map f).eraseIdx j;rw[mK f l j]
noncomputable def isK (k:Int):Value->Bool
 | .int m _=>m == k
 | _=>false
noncomputable def uV:V->List V->Hp->VK->Prop:=fun x vs H Q=>∃(l:Addr)(ns:List Int)(k:Int),x=.ref l/\vs=[.int k]/\H l=some (.lst (ns.map V.int))/\k∈ns/\ns.length<=1000000/\Q .non (upd H l (.lst ((ns.erase k).map V.int)))
section
variable {X:Cx}
theorem Ek:MtM X "list.remove" uV:=by
 intro pins s σ H x vs v us Q I rx rv h;obtain⟨l,ns,k,rfl,rfl,hH,hk,hl,q⟩:=h;cases rx;obtain⟨u,rfl,ru⟩:=rv.one;obtain⟨t,rfl⟩:=ru;obtain⟨z,its,n,r,hll,e⟩:=I.JB hH;have hI:=kZ r;have hz:its.length=ns.length:=IntsAre.length hI;have hj:ns.idxOf k<ns.length:=List.idxOf_lt_length_of_mem hk;have get:∀(m:Nat)(hm:m<its.toArray.size),∃a t,ns[m]?=some a/\its.toArray[m]=.int a t:=fun m hm=>by
  have hm':m<its.length:=by simpa using hm
  obtain⟨a,t,e1,e2⟩:=ints_get hI (getElem?_eq_getElem hm');exact⟨a,t,e1,by simpa using e2⟩
 refine call_meets F.slot_list_remove ⟨_,e,rfl⟩ F.entry_list_remove (F.args_list_remove_2 _ _) (PySem.MeetsSeq.list_remove l its.toArray n (.int k t) (isK k) (fun y hy=>?_) (ns.idxOf k) (by simp;omega) ?_ (fun m hm hlt=>?_) (by rw[size_toArray];exact le_trans ω (aK (le_refl 1000000)))) ⟨e,?_⟩
 ·obtain⟨m,hm,rfl⟩:=Array.getElem_of_mem hy;obtain⟨a,t',_,e2⟩:=get m hm;rw[e2];exact MeetsSeq.EqGives.int a k t' t
 ·obtain⟨a,t',e1,e2⟩:=get (ns.idxOf k) (by simp;omega);rw[e2];rw[getElem?_eq_getElem hj,List.getElem_idxOf hj] at e1;cases e1;exact beq_self_eq_true k
 ·obtain⟨a,t',e1,e2⟩:=get m hm;rw[e2];show(a == k)=false;have hm2:m<ns.length:=ω;rw[getElem?_eq_getElem hm2] at e1;have:=List.not_of_lt_findIdx (p:=(· == k)) (xs:=ns) (i:=m) hlt;cases e1;simpa using this
 have eV:(ns.erase k).map V.int=(ns.map V.int).eraseIdx (ns.idxOf k):=by
  rw[<- mK,List.erase_eq_eraseIdx_of_idxOf (by rfl)]
 refine⟨.non,_,I.U9 (ys:=(ns.erase k).map V.int) (its':=its.eraseIdx (ns.idxOf k)) hH e ?_ ?_ ?_,rfl,q⟩
 ·simp [Array.eraseIdxIfInBounds];omega
 ·rw[eV];exact Vals.eraseIdx _ r
 rw[length_map];have:=List.length_erase_of_mem hk;exact aK ω
end
section
variable {X:Cx}{o e:Expr}{to te:TE}
noncomputable def Qx (x:V)(te:TE)(σ:St)(H1:Hp)(Q:VK):Prop:=match x with
 | .ref l=>isq (H1 l)/\te σ H1 fun y H2=>uV (.ref l) [y] H2 Q
 | _=>False
noncomputable def Gs (to te:TE):TE:=fun σ H Q=>to σ H fun x H1=>Qx x te σ H1 Q
theorem Gr (to te:TE)(σ:St)(H:Hp)(Q:VK):Gs to te σ H Q=to σ H fun x H1=>Qx x te σ H1 Q:=rfl
theorem Hf (l:Addr)(te:TE)(σ:St)(H1:Hp)(Q:VK):Qx (.ref l) te σ H1 Q=(isq (H1 l)/\te σ H1 fun y H2=>uV (.ref l) [y] H2 Q):=rfl
theorem MK {apos cpos:Pos}(ho:PE X o to)(he:PE X e te)
  (hbase:attributeBase o "remove" X.env (eval o X.env)=eval o X.env:=by rfl)
  (hfew:((backTo cpos (starEach [e] X.env)).all (fun x=>!x.1)&&(backToKw cpos (keywordEach [] X.env)).all (fun x=>x.1.isSome)
   && decide ([e].length+([]:List Keyword).length+(if ([]:List Keyword).isEmpty then 0 else 1)<30))=true:=by rfl)
  (hline:(apos.endLine == cpos.line)=true:=by rfl) (hs:starEach [e] X.env=(false,eval e X.env)::starEach [] X.env:=by rfl) (hplain:(backTo cpos (starEach [] X.env)).any (·.1)=false:=by rfl) :
  PE X (.Call (.Attribute o "remove" apos) [e] [] cpos) (Gs to te):=by
 intro pins s σ H Q I h;refine wpAny_Call_method_late hbase hfew hline rfl (thE (ho pins s σ H _ I h) fun v s1 x H1 I1 r1 q=>?_);cases x with
 | ref l=>
  obtain⟨q1,q2⟩:=q;cases el:H1 l with
  | none=>rw[el] at q1;exact q1.elim
  | some ob=>
   cases ob with
   | lst xs=>
    obtain⟨h1,h2⟩:=uD (T := "list") I1 r1 (.inl ⟨rfl,xs,SqL.of el⟩);refine⟨"list","list.remove",PySem.F.plainAttrs_list,PySem.F.slot_list_remove,PySem.F.type_list_remove,h1,h2,?_⟩;rw[hs];refine Calls.callWith_builtin (by show(false||(backTo cpos (starEach [] X.env)).any (·.1))=false;rw[hplain] <;> rfl) (Calls.evalArgs_plain ?_)
    refine Calls.spliced_cons (thE (he pins s1 σ H1 _ I1 q2) fun u s2 y H2 I2 r2 q3=>Calls.spliced_nil ?_);exact Ek pins s2 σ H2 (.ref l) [y] v [u] Q I2 r1 (.cons r2 .nil) q3
   | _=>rw[el] at q1;exact q1.elim
 | _=>exact q.elim
theorem LQ {apos cpos:Pos}(ho:QE X o to)(he:QE X e te)
  (hbase:attributeBase o "remove" X.env (eval o X.env)=eval o X.env:=by rfl)
  (hfew:((backTo cpos (starEach [e] X.env)).all (fun x=>!x.1)&&(backToKw cpos (keywordEach [] X.env)).all (fun x=>x.1.isSome)
   && decide ([e].length+([]:List Keyword).length+(if ([]:List Keyword).isEmpty then 0 else 1)<30))=true:=by rfl)
  (hline:(apos.endLine == cpos.line)=true:=by rfl) (hs:starEach [e] X.env=(false,eval e X.env)::starEach [] X.env:=by rfl) (hplain:(backTo cpos (starEach [] X.env)).any (·.1)=false:=by rfl) :
  QE X (.Call (.Attribute o "remove" apos) [e] [] cpos) (Gs to te):=⟨MK ho.h he.h hbase hfew hline hs hplain⟩
end
noncomputable def isT (ss:Sts)(zs:List Int)(k:Nat):Bool:=decide ((cO ss k).1=(cO ss k).2.1)&&decide (zs.getD 0 0<=zs.getD 1 0)
noncomputable def cX (ss:Sts) (zs:List Int) (k:Nat):Str:=if isT ss zs k=true then "is" else "within"
noncomputable def b7 (ss:Sts)(zs:List Int)(k:Nat):Int:=if isT ss zs k=true then zs.getD 0 0 else zs.getD 1 0
noncomputable def lA (ss:Sts)(zs:List Int)(k:Nat):Int:=if isT ss zs k=true then zs.getD 1 0 else zs.getD 0 0
noncomputable def nM (ss:Sts)(ws zs:List Int)(k:Nat):Int:=-(ws.getD k 0)*lA ss zs k
noncomputable def dO (ss:Sts)(ws zs:List Int)(k:Nat):Int:=64*nM ss ws zs k+(k:Int)
noncomputable def iW (ss:Sts)(zs:List Int)(lab:Int):List Nat->PyData
 | []=>.tuple [.str "pick",.int lab]
 | k::r=>.tuple [.str (cX ss zs k),.int (k:Int),iW ss zs lab r]
theorem pQ (ss:Sts)(zs:List Int)(lab:Int):∀l:List Nat,(iW ss zs lab l).depth<=l.length+1
 | []=>le_refl 1
 | k::r=>by
  have ih:=pQ ss zs lab r;show(PyData.tuple [.str _,.int _,iW ss zs lab r]).depth<=_;rw[PyData.depth.eq_2,PyData.depthAll.eq_2,PyData.depthAll.eq_2,PyData.depthAll.eq_2,PyData.depthAll.eq_1,length_cons];have e1:(PyData.str (cX ss zs k)).depth=0:=rfl;have e2:(PyData.int (k:Int)).depth=0:=rfl;omega
theorem ud {ss:Sts}{ws zs:List Int}{p b:Nat}(h0:1<=zs.getD 0 0)(h1:1<=zs.getD 1 0) :
  (ws.getD b 0*b7 ss zs p<ws.getD p 0*b7 ss zs b)↔nM ss ws zs p<nM ss ws zs b:=by
 unfold nM b7 lA;have m:∀(x y c:Int),1<=c->(x*c<y*c↔x<y):=fun x y c hc=>⟨fun h=>Int.lt_of_mul_lt_mul_right h ω,fun h=>Int.mul_lt_mul_of_pos_right h ω⟩;by_cases c1:isT ss zs p=true
 ·by_cases c2:isT ss zs b=true
  ·simp only[if_pos c1,if_pos c2];rw[m _ _ _ h0,m _ _ _ h1];omega
  simp only[if_pos c1,if_neg c2];rw[neg_mul,neg_mul];omega
 by_cases c2:isT ss zs b=true
 ·simp only[if_neg c1,if_pos c2];rw[neg_mul,neg_mul];omega
 simp only[if_neg c1,if_neg c2];rw[m _ _ _ h1,m _ _ _ h0];omega
theorem tO {r:Nat->Int}:∀{l1 l2:List Nat},l1.Perm l2->(l1.map r).Pairwise (· < ·)->(l2.map r).Pairwise (· < ·)->l1=l2
 | [],l2,p,_,_=>by rw[List.nil_perm.mp p]
 | a::l1,[],p,_,_=>by have:=p.length_eq;simp at this
 | a::l1,b::l2,p,h1,h2=>by
  rw[map_cons,pairwise_cons] at h1 h2;have e:a=b:=by
   have ma:a∈b::l2:=p.mem_iff.mp (mem_cons_self ..);have mb:b∈a::l1:=p.mem_iff.mpr (mem_cons_self ..);rcases mem_cons.mp ma with z|z
   ·exact z
   rcases mem_cons.mp mb with z2|z2
   ·exact z2.symm
   have q1:=h1.1 _ (List.mem_map_of_mem (f:=r) z2);have q2:=h2.1 _ (List.mem_map_of_mem (f:=r) z);omega
  subst e;rw[tO ((List.perm_cons a).mp p) h1.2 h2.2]
noncomputable def v9 (ss:Sts)(ws zs:List Int)(l:List Nat)(b:Nat):Prop:=b∈l/\∀k∈l,k=b\/dO ss ws zs b<dO ss ws zs k
theorem v9.step {ss:Sts}{ws zs:List Int}{l:List Nat}{b p:Nat}(h:v9 ss ws zs l b)(h0:1<=zs.getD 0 0)(h1:1<=zs.getD 1 0)(hp:∀k∈l,k<p)(h64:p<64) :
  v9 ss ws zs (l++[p]) (if ws.getD b 0*b7 ss zs p<ws.getD p 0*b7 ss zs b then p else b):=by
 have hb:=hp b h.1;split
 ·rename_i c;have c2:=(ud h0 h1).mp c;refine⟨by simp,fun k hk=>?_⟩;rcases mem_append.mp hk with z|z
  ·right;have hkp:=hp k z;have:dO ss ws zs p<dO ss ws zs b:=by unfold dO;omega
   rcases h.2 k z with rfl|q
   ·exact this
   omega
  exact .inl (mem_singleton.mp z)
 rename_i c;have c2:¬nM ss ws zs p<nM ss ws zs b:=fun z=>c ((ud h0 h1).mpr z);refine⟨List.mem_append_left _ h.1,fun k hk=>?_⟩;rcases mem_append.mp hk with z|z
 ·exact h.2 k z
 rw[mem_singleton.mp z];right;unfold dO;omega
noncomputable def fZ (ss:Sts)(lab:Int):List Nat:=(List.range ss.length).filter fun k=>decide ((cO ss k).2.2≠lab)
theorem jQ {ss:Sts}{lab:Int}{k:Nat}:k∈fZ ss lab↔k<ss.length/\(cO ss k).2.2≠lab:=by
 unfold fZ;simp [mem_filter]
theorem yj (ss:Sts)(lab:Int):(fZ ss lab).Pairwise (· < ·):=(pairwise_lt_range).filter _
noncomputable def jF (H:Hp)(t:Addr)(zs:List Int):Prop:=H t=some (.tup (zs.map V.int))/\zs.length=5/\∀z∈zs,1<=z/\z<=99
noncomputable def Bw:Sp:=fun vs H Q _=>∃(a t:Addr)(ss:Sts)(zs:List Int)(k:Nat),vs=[.ref a,.ref t]/\H a=some (.tup [.int (cO ss k).1,.int (cO ss k).2.1,.int (cO ss k).2.2])/\jF H t zs/\Q (.str (cX ss zs k)) H
noncomputable def uH:Sp:=fun vs H Q _=>∃(sa t:Addr)(xs:List V)(ok:Addr->Prop)(ss:Sts)(zs:List Int)(k:Nat),vs=[.ref sa,.ref t,.int (k:Int)]/\H sa=some (.lst xs)/\aJ ok H xs (ss.map stD)/\k<ss.length/\jF H t zs /\
 ∀(p:Addr),H p=none->Q (.ref p) (upd H p (.tup [.str (cX ss zs k),.int (b7 ss zs k)]))
noncomputable def Br (ss:Sts)(zs:List Int)(k:Nat):PyData:=.tuple [.str (cX ss zs k),.int (k:Int)]
noncomputable def wF:Sp:=fun vs H Q _=>∃(sa wa t la:Addr)(xs:List V)(ok:Addr->Prop)(ss:Sts)(ws zs:List Int),vs=[.ref sa,.ref wa,.ref t,.ref la]/\H sa=some (.lst xs)/\aJ ok H xs (ss.map stD)/\ss.length<=60/\H wa=some (.lst (ws.map V.int))/\ws.length=ss.length/\jF H t zs/\H la=some (.lst (nv (List.range ss.length))) /\
 ∀(p:Addr)(ord:List Nat) H',Same H H'->ord.Perm (List.range ss.length)->(ord.map (dO ss ws zs)).Pairwise (· < ·)->aH (fun _=>True) H' (.ref p) (.list (ord.map (Br ss zs)))->Q (.ref p) H'
noncomputable def Bx:Sp:=fun vs H Q _=>∃(sa p:Addr)(lab:Int)(xs:List V)(ok:Addr->Prop)(ss:Sts)(zs:List Int)(ord:List Nat),vs=[.ref sa,.ref p,.int lab]/\H sa=some (.lst xs)/\aJ ok H xs (ss.map stD)/\(∀k∈ord,k<ss.length)/\ord.length<=60/\aH (fun _=>True) H (.ref p) (.list (ord.map (Br ss zs))) /\
 ∀(v:V) H',Same H H'->aH (fun _=>True) H' v (iW ss zs lab (ord.filter fun k=>decide ((cO ss k).2.2≠lab)))->Q v H'
noncomputable def tu:Sp:=fun vs H Q _=>∃(sa t oa:Addr)(lab:Int)(xs:List V)(ok:Addr->Prop)(ss:Sts)(zs:List Int)(ord:List Nat),vs=[.ref sa,.ref t,.ref oa,.int lab]/\H sa=some (.lst xs)/\aJ ok H xs (ss.map stD)/\(∀k∈ord,k<ss.length)/\ord.length<=60/\jF H t zs/\H oa=some (.lst (nv ord)) /\
 ∀(v:V) H',Same H H'->aH (fun _=>True) H' v (iW ss zs lab ord)->Q v H'
noncomputable def BK:Sp:=fun vs H Q _=>∃(sa wa t:Addr)(lab:Int)(xs:List V)(ok:Addr->Prop)(ss:Sts)(ws zs:List Int),vs=[.ref sa,.ref wa,.ref t,.int lab]/\H sa=some (.lst xs)/\aJ ok H xs (ss.map stD)/\ss.length<=60/\H wa=some (.lst (ws.map V.int))/\ws.length=ss.length/\jF H t zs /\
 ∀(p:Addr)(ord:List Nat) H',Same H H'->ord.Perm (fZ ss lab)->(ord.map (dO ss ws zs)).Pairwise (· < ·)->H' p=some (.lst (nv ord))->Q (.ref p) H'
theorem lU {ss:Sts}{zs:List Int}{k:Nat}(h:isT ss zs k=true):cX ss zs k = "is" /\ lA ss zs k=zs.getD 1 0/\b7 ss zs k=zs.getD 0 0:=by
 unfold cX lA b7;rw[if_pos h,if_pos h,if_pos h];exact⟨rfl,rfl,rfl⟩
theorem iB {ss:Sts}{zs:List Int}{k:Nat}(h:¬isT ss zs k=true):cX ss zs k = "within" /\ lA ss zs k=zs.getD 0 0/\b7 ss zs k=zs.getD 1 0:=by
 unfold cX lA b7;rw[if_neg h,if_neg h,if_neg h];exact⟨rfl,rfl,rfl⟩
noncomputable def cV (H:Hp)(p:Addr):Int×Int:=match H p with
 | some (.tup [.int a,.int b,_])=>(a,b)
 | _=>(0,0)
theorem Er {H:Hp}{p:Addr}{a b:Int}{v:V}(h:H p=some (.tup [.int a,.int b,v])):cV H p=(a,b):=by
 unfold cV;rw[h]
theorem Lg {ss:Sts}{ws zs:List Int}{i j:Nat}(hi:i<64)(hj:j<64)(h:i≠j):dO ss ws zs i≠dO ss ws zs j:=by
 unfold dO;omega
theorem wW {ss:Sts}{ws zs:List Int}{n:Nat}(h:n<=64):((List.range n).map (dO ss ws zs)).Nodup:=by
 rw[List.nodup_iff_pairwise_ne,pairwise_map];have:(List.range n).Pairwise (fun a b=>a<b/\b<n):=by
  refine List.Pairwise.imp_of_mem (fun {a b} _ hb h=>⟨h,mem_range.mp hb⟩) (pairwise_lt_range (n:=n))
 exact this.imp fun {a b} ⟨h1,h2⟩=>Lg ω ω ω
theorem Hi {H:Hp}{ps:List Addr}{g:Nat->Int×Int}(h:∀j p,ps[j]?=some p->cV H p=g j):ps.map (cV H)=(List.range ps.length).map g:=by
 refine ext_getElem (by simp) fun i h1 h2=>?_;simp at h1 h2;simp [h i ps[i] (getElem?_eq_getElem h1)]
theorem jF.bd {H:Hp}{t:Addr}{zs:List Int}(h:jF H t zs){i:Nat}(hi:i<5):1<=zs.getD i 0/\zs.getD i 0<=99:=by
 have hl:i<zs.length:=by rw[h.2.1];exact hi
 have e:zs.getD i 0=zs[i]:=by simp [hl]
 rw[e];exact h.2.2 _ (getElem_mem hl)
theorem t6 {α:Type}{l:List α}{i:Nat}{x:α}(hi:i<l.length)(h:l[l.length-1-i]?=some x):l.drop (l.length-(i+1))=x::l.drop (l.length-i):=by
 have hl:l.length-(i+1)<l.length:=ω;rw[drop_eq_getElem_cons hl,show l.length-(i+1)+1=l.length-i by omega];congr 1;have:l[l.length-(i+1)]?=some x:=by rw[<- h];congr 1;omega
 rw[getElem?_eq_getElem hl] at this;exact Option.some.inj this
theorem xg {H:Hp}{t:Addr}{ss:Sts}{zs:List Int}(h:jF H t zs)(k:Nat):1<=b7 ss zs k/\b7 ss zs k<=99:=by
 unfold b7;split
 ·exact h.bd δ
 exact h.bd δ
theorem Ck (l:List Nat):nv l=(l.map fun(k:Nat)=>(k:Int)).map V.int:=by
 unfold nv;rw[map_map];rfl
theorem qy (b:Nat):∀l:List Nat,(l.map fun(k:Nat)=>(k:Int)).erase (b:Int)=(l.erase b).map fun(k:Nat)=>(k:Int)
 | []=>rfl
 | a::l=>by
  rw[map_cons,List.erase_cons,List.erase_cons];by_cases h:a=b
  ·rw[if_pos (by simp [h]),if_pos (by simp [h])]
  rw[if_neg (by simp;omega),if_neg (by simpa using h),qy b l];rfl
theorem Kz {l:List Nat}(h:l.Pairwise (· < ·)){n k a:Nat}(hk:l[n]?=some k)(ha:a∈l.take n):a<k:=by
 have e:l.take n++l.drop n=l:=List.take_append_drop n l;rw[<- e,List.pairwise_append] at h;refine h.2.2 a ha k ?_;have hn:=(List.getElem?_eq_some_iff.mp hk).1;rw[drop_eq_getElem_cons hn];rw[getElem?_eq_getElem hn] at hk;rw[Option.some.inj hk];exact mem_cons_self ..
theorem N5 {P:Program}{w:World}{K:PySem.W.Frag}{mg:Str->Option Value}{base:Heap}{A:Around}{outer:List Env}{s:Shared}{H:Hp}{f c':Addr}{name qual:Str}{params:Arguments}{body:Expr}{scope:Scope}{pm ctv:Value}{N ps:List Str}{k:Nat}{us:List Value}{vs:List V}{Q:VK}{E:XK}{t:TE}
  (ho:s.heap.get? f=some (PySem.W.kla_obj name qual params body scope [] pm c' ctv)) (hcd:s.heap.CodeRec (.ref c') qual) (S:bF N ps scope) (hr:dN (k+1) A) (e0:yP P w K mg base A outer s H)
  (hb:bindArgs (PySem.W.kla_fn name qual params body scope [] pm (.ref c') ctv) ⟨us,[]⟩=pure (ps.zip us)) (rv:Vals vs us) (hl:vs.length=ps.length)
  (hp:PE (pA CX0 P w K mg base N qual scope f (.ref c') A outer s H E) body t) (hq:t (L2.start N vs) H Q) :
  codeAny (model P w) A (.call (.ref f) ⟨us,[]⟩) (CR CX0 outer P w H s Q E) s:=by
 have lim:s.heap.NoLimit:=e0.mod.nolimit.keeps fun b o e=>(e0.bs b o e).1;have hkind:∀y∈ps.zip us,scope.names.lookup y.1=some .local\/(scope.names.lookup y.1=some .cell/\((cellsFrom (s.heap.objs.size+1) scope.names []).lookup y.1).isSome=true):=fun⟨n,v⟩ hy=>by
  rcases S.par n (of_mem_zip hy).1 with q|q
  ·exact .inl q
  exact .inr ⟨q,PySem.W.cellsFrom_some _ _ _ (.inl q)⟩
 refine PySem.W.kla_callFunE hr.depth ho rfl S.co S.gen rfl hcd ?_;rw[hb];refine wpAny_pure (wpAny_newFunctionEnv_cells S.kind hkind fun env he s1 x=>?_);subst he;refine⟨lim.keeps x.toInCall.keep,PySem.W.kla_codeExpr ?_⟩;have I:Inv (pA CX0 P w K mg base N qual scope f (.ref c') A outer s H E) [] (L2.start N vs) H s1:=tW S hr.hd e0 hl rv x;refine wpAny_mono (hp [] s1 (L2.start N vs) H _ I hq) (fun u s' hs=>?_) fun e s' hs=>hs;obtain⟨v,H',J,r,q⟩:=hs;exact⟨v,H',J.os,J.bare,J.base,J.hok,r,q⟩
noncomputable def yH (c:Addr)(q:Str):HO:=.ext fun h=>h.CodeRec (.ref c) q
theorem Kd {P:Program}{w:World}{H:Hp}{h:Heap}{c:Addr}{q:Str}(e:h.CodeRec (.ref c) q):bI P w H h c (yH c q):=by
 refine⟨e,?_,fun h1 h2 e1 k=>?_⟩
 ·obtain⟨c',o,vs,t,ec,ho,_⟩:=e;cases ec;exact⟨o,ho⟩
 obtain⟨c',o,vs,t,ec,ho,r⟩:=e1;cases ec;exact⟨c,o,vs,t,rfl,k o ho,r⟩
noncomputable def pC (H:Hp)(P:Addr)(pos:Pos)(q:Str):Prop:=∃ps,H P=some (.tbl ps)/\TriplesOk ps.toList/\(codeAmong pos ps.toList=none\/∃c',codeAmong pos ps.toList=some (.ref c')/\H c'=some (yH c' q))
theorem pC.same {H H':Hp}{P:Addr}{pos:Pos}{q:Str}(h:pC H P pos q)(s:Same H H'):pC H' P pos q:=by
 obtain⟨ps,e,t,k⟩:=h;exact⟨ps,s _ _ e,t,k.imp id fun⟨c',a,b⟩=>⟨c',a,s _ _ b⟩⟩
section
variable {X:Cx}{pins:List (Addr×Obj)}{σ:St}{H:Hp}{s:Shared}{E:Value->Shared->Prop}{c P:Addr}{params:Arguments}{body:Expr}{scope:Scope}{pos:Pos}{qual:Str}{Q:Value->Shared->Prop}
theorem JG (I:Inv X pins σ H s) (hcl:closureFor scope X.env=pure []) (hdef:defaultsOf params X.env=([],[])) (hcode:X.env.code=.ref c) (C:PySem.W.CodeHd X.base c P) (hb:X.base.BuiltinsAt X.mg P) (hq:X.env.qual ++ "<lambda>" = qual) (hL:pC H P pos qual)
  (h:∀(f c':Addr)(ctv pm:Value)(H':Hp)(s':Shared),Inv X pins σ H' s'->s.heap.objs.size<=f->H' f=none->s'.heap.get? f=some (PySem.W.kla_obj "<lambda>" qual params body scope [] pm c' ctv)->H' c'=some (yH c' qual)->pC H' P pos qual->aV P H H'->Q (.ref f) s') :
  wpAny (model X.prog X.w) X.A (eval (.Lambda params body scope pos) X.env) Q E s:=by
 refine PySem.W.kla_eval hdef ?_;rw[hq];obtain⟨ps,hP,ht,hk⟩:=hL;have kb:=I.bk;have hPh:s.heap.get? P=some (PySem.W.tabObj ps):=I.hok P _ hP;have hg:s.heap.Ns mainGlobals X.mg:=I.mod.glob.keeps kb;have hgP:mainGlobals≠P:=fun z=>by
  obtain⟨o,es,ep,e,d,_⟩:=hg;rw[z,hPh] at e;cases e;cases d
 have hbs:s.heap.BuiltinsAt X.mg P:=by
  obtain⟨bm,o,e1,e2,e3,e4,e5,r⟩:=hb;exact⟨bm,o,e1,e2,e3,e4,kb _ _ e5,r⟩
 have hC:PySem.W.CodeHd s.heap c P:=C.keeps kb;have hsz:=I.hok;rcases hk with hnf|⟨c',hf,hc'⟩
 ·refine PySem.W.kla_makeFunction hcl I.ok.glob hg hcode hC hPh ht hnf hgP hbs fun c' ctv h' tk hx hge hlt hrec htb=>?_;have hcn:H c'=none:=I.hok.fresh hge;have ncP:c'≠P:=fun z=>by rw[z,hP] at hcn;cases hcn
  obtain⟨H',hH'⟩:∃H',H'=upd (upd H P (.tbl (ps ++ #[rawInt pos.line,rawInt pos.col,.ref c']))) c' (yH c' qual):=⟨_,rfl⟩;have oth:∀b,b≠P->b≠c'->H' b=H b:=fun b n1 n2=>by rw[hH',aG n2,aG n1]
  have atP:H' P=some (.tbl (ps ++ #[rawInt pos.line,rawInt pos.col,.ref c'])):=by rw[hH',aG ncP.symm,au]
  have atC:H' c'=some (yH c' qual):=by rw[hH',au]
  have up:∀b o,b≠P->s.heap.get? b=some o->(h'.push (PySem.W.kla_obj "<lambda>" qual params body scope [] ((X.mg "__name__").getD .none) c' ctv)).get? b=some o:=fun b o n e=>get?_push_of_some _ (hx b o n e);have old:∀{b o},s.heap.get? b=some o->b≠c':=fun {b o} e=>ne_of_lt (lt_of_lt_of_le (lt_size e) hge);have lc:∀{b o},H b=some o->b≠c':=fun {b o} e z=>by rw[z,hcn] at e;cases e
  have nP:∀{b o},s.heap.get? b=some o->H b=none->b≠P:=fun {b o} _ n z=>by rw[z,hP] at n;cases n
  have fH:H' h'.objs.size=none:=by
   have hs:s.heap.objs.size<=h'.objs.size:=le_of_lt (lt_of_le_of_lt hge hlt);have:H h'.objs.size=none:=I.hok.fresh hs;rw[oth _ (fun z=>by rw[z,hP] at this;cases this) (ne_of_gt hlt)];exact this
  have un:Un X.fs [] H H' s.heap (h'.push (PySem.W.kla_obj "<lambda>" qual params body scope [] ((X.mg "__name__").getD .none) c' ctv)):=by
   refine⟨fun b o e n _ _=>up b o (nP e n) e,fun b o e n _ _=>⟨o.slots,up b o (nP e n) e⟩,fun b o e n _=>by rw[oth b (nP e n) (old e)];exact n,fun b o e _=>?_,fun b xs e=>?_,fun b o u e=>?_,fun b qs e=>?_⟩
   ·by_cases z:b=P
    ·rw[z];exact⟨_,get?_push_of_some _ htb⟩
    exact⟨o,up b o z e⟩
   ·rw[oth b (fun z=>by rw[z,hP] at e;cases e) (lc e)];exact e
   ·rw[oth b (fun z=>by rw[z,hP] at e;cases e) (lc e)];exact e
   by_cases z:b=P
   ·rw[z,hP] at e;cases e;rw[z];exact⟨_,atP⟩
   rw[oth b z (lc e)];exact⟨#[],by rw[e];simp⟩
  have hrec2:(h'.push (PySem.W.kla_obj "<lambda>" qual params body scope [] ((X.mg "__name__").getD .none) c' ctv)).CodeRec (.ref c') qual:=by
   obtain⟨c1,o,vs,t,ec,ho,r⟩:=hrec;exact⟨c1,o,vs,t,ec,get?_push_of_some _ ho,r⟩
  have hok:HOk X.prog X.w H' (h'.push (PySem.W.kla_obj "<lambda>" qual params body scope [] ((X.mg "__name__").getD .none) c' ctv)):=fun b u e=>by
   by_cases z1:b=c'
   ·rw[z1,atC] at e;cases e;rw[z1];exact Kd hrec2
   by_cases z2:b=P
   ·rw[z2,atP] at e;cases e;rw[z2];exact get?_push_of_some _ htb
   rw[oth b z2 z1] at e;refine(I.hok b u e).stay (fun d v hd q=>up d v (fun z=>?_) q) (fun d q=>?_) fun d xs q=>?_
   ·rcases hd with hd|hd
    ·exact z2 (hd.symm.trans z)
    rw[z,hP] at hd;cases hd
   ·rw[oth d (fun z=>by rw[z,hP] at q;cases q) (lc q)];exact q
   rw[oth d (fun z=>by rw[z,hP] at q;cases q) (lc q)];exact q
  refine h h'.objs.size c' ctv _ H' _ (I.un (t':=tk) un hok) (le_of_lt (lt_of_le_of_lt hge hlt)) fH (get?_push_size _ rfl) atC ⟨_,atP,?_,.inr ⟨c',?_,atC⟩⟩ fun b o n e=>by rw[oth b n (lc e)];exact e
  ·rw[Array.toList_append];exact TriplesOk_snoc _ _ _ _ ht
  rw[Array.toList_append];exact codeAmong_snoc _ ht hnf
 refine PySem.W.kla_makeFunctionHit hcl I.ok.glob hg hcode hC hPh ht hf hbs fun ctv h' tk hx hge=>?_;have kp:∀b o,s.heap.get? b=some o->(h'.push (PySem.W.kla_obj "<lambda>" qual params body scope [] ((X.mg "__name__").getD .none) c' ctv)).get? b=some o:=fun b o e=>get?_push_of_some _ (hx b o e);refine h h'.objs.size c' ctv _ H _ (I.kept (t':=tk) kp) hge (I.hok.fresh hge) (get?_push_size _ rfl) hc' ⟨ps,hP,ht,.inr ⟨c',hf,hc'⟩⟩ (aV.refl _ _)
end
section
variable {X:Cx}{pins:List (Addr×Obj)}{σ:St}{H:Hp}
noncomputable def btK (kf:Nat->Int)(i j:Nat):Bool:=decide (kf i<kf j)
theorem Dp (kf:Nat->Int):∀k,argBest (btK kf) k<=k/\∀j,j<=k->kf (argBest (btK kf) k)<=kf j/\(j<argBest (btK kf) k->kf (argBest (btK kf) k)<kf j)
 | 0=>⟨le_refl _,fun j hj=>by
   have:j=0:=by omega
   subst this;exact⟨Int.le_refl _,fun z=>absurd z (lt_irrefl _)⟩⟩
 | k+1=>by
  obtain⟨h1,h2⟩:=Dp kf k;rw[show argBest (btK kf) (k+1)=if btK kf (k+1) (argBest (btK kf) k)=true then k+1 else argBest (btK kf) k from argBest.eq_2 _ _];cases hb:btK kf (k+1) (argBest (btK kf) k) with
  | true=>
   rw[if_pos rfl];have lt:kf (k+1)<kf (argBest (btK kf) k):=of_decide_eq_true hb;refine⟨le_refl _,fun j hj=>?_⟩;by_cases e:j=k+1
   ·rw[e];exact⟨Int.le_refl _,fun z=>absurd z (lt_irrefl _)⟩
   have:=(h2 j ω).1;exact⟨ω,fun _=>ω⟩
  | false=>
   rw[if_neg δ];have lt:¬kf (k+1)<kf (argBest (btK kf) k):=of_decide_eq_false hb;refine⟨Nat.le_succ_of_le h1,fun j hj=>?_⟩;by_cases e:j=k+1
   ·subst e;exact⟨ω,fun z=>ω⟩
   exact h2 j ω
theorem nJ {ts:List Addr}{kf:Nat->Int}{f it b l:Addr}{R:Result->Shared->Prop}(hc:X.calm=true)(hl:H l=some (.lst (ts.map V.ref)))(fi:gR X pins H it)(fb:gR X pins H b)(ib:it≠b)
  (turn:∀(i:Nat) t (s:Shared),ts[i]?=some t->Inv X pins σ H s ->
   wpAny (model X.prog X.w) X.A.in1 (call (.ref f) [.ref t]) (fun x s'=>(∃u,x=.int (kf i) u)/\Inv X pins σ H s'/\∀c o,gR X pins H c->s.heap.get? c=some o->s'.heap.get? c=some o) (fun _ _=>False) s) :
  ∀(m i:Nat)(s:Shared),ts.length-i=m->1<=i->i<=ts.length->Inv X pins σ H s->s.heap.IsListIter it l i ->
   (∃k v u,s.heap.get? b=some { cls:=Value.type "list",data:=Data.seq #[.ref v,.int (kf (argBest (btK kf) (i-1))) u] k }/\ts[argBest (btK kf) (i-1)]?=some v) ->
   (∀(s':Shared) v,Inv X pins σ H s'->ts[argBest (btK kf) (ts.length-1)]?=some v->R (.ok (.ret (.ref v))) s') ->
   codeAny (model X.prog X.w) X.A (Code.builtin "min.loop" ⟨[Value.ref it,Value.ref f,Value.ref b],[]⟩) R s
 | 0,i,s,hm,h1,h2,I,hit,⟨k,v,u,ho,hv⟩,hR=>by
  have hi:i=ts.length:=ω;subst hi;obtain⟨its,rl,pl,hz⟩:=I.list (SqL.of hl);have e:=gm rl;subst e;refine codeAny_builtin F.entry_min_loop ?_;rw[Around.under_plainId F.plain_min_loop _];show wpAny _ _ (seqItems? (Value.ref b) >>= _) _ _ _;refine wpAny_bind (wpAny_seqItems ho rfl ?_);refine wpAny_bind (wpAny_tryCatch (wpAny_pyNext_list_end (A:=X.A.in1) (I.ok.hd hc) hit pl.isList (by simp) fun h' ext=>?_));show wpAny _ _ (updateSeq b _ >>= _) _ _ _;refine wpAny_bind (wpAny_updateSeq (s:={ s with heap:=h' }) (ext b _ (Ne.symm ib) ho) rfl ?_ (by show 2<=sizeLine;decide) (by show 0<=sizeLine+1;decide));refine wpAny_bind (wpAny_letGo (wpAny_pure ?_));refine hR _ v (I.lV (t':=s.toks) (ch:=[it,b]) (fun c m=>?_) fun c o nc q=>?_) hv
  ·rcases mem_cons.mp m with z|m
   ·rw[z];exact fi
   rw[mem_singleton.mp m];exact fb
  have n1:c≠it:=fun z=>nc (by rw[z];exact .head _);have n2:c≠b:=fun z=>nc (by rw[z];exact .tail _ (.head _));exact(get?_update_other _ _ (Ne.symm n2)).trans (ext c o n1 q)
 | m+1,i,s,hm,h1,h2,I,hit,⟨k,v,u,ho,hv⟩,hR=>by
  have hi:i<ts.length:=ω;have hx:ts[i]?=some ts[i]:=getElem?_eq_getElem hi;obtain⟨its,rl,pl,hz⟩:=I.list (SqL.of hl);have e:=gm rl;subst e;refine codeAny_builtin F.entry_min_loop ?_;rw[Around.under_plainId F.plain_min_loop _];show wpAny _ _ (seqItems? (Value.ref b) >>= _) _ _ _;refine wpAny_bind (wpAny_seqItems ho rfl ?_);refine wpAny_bind (wpAny_tryCatch (wpAny_pyNext_list_item (A:=X.A.in1) hit pl.isList (by rw[getElem?_toArray,getElem?_map,hx];rfl) fun h' hit' sb=>?_));have up:∀{c o},c≠it->s.heap.get? c=some o->h'.get? c=some o:=fun {c o} hc e=>(sb.2 c hc).trans e;have I1:Inv X pins σ H { s with heap:=h' }:=I.lV (t':=s.toks) (ch:=[it]) (fun c m=>by rw[mem_singleton.mp m];exact fi) fun c o nc q=>up (fun z=>nc (by rw[z];exact .head _)) q;show wpAny _ _ (tryCatch (holding [Value.ref ts[i]] (call (Value.ref f) [Value.ref ts[i]])) _ >>= _) _ _ _;refine wpAny_bind (wpAny_tryCatch (wpAny_holding (wpAny_mono (turn i _ _ hx I1) (fun x s2 hs=>?_) fun _ _ z=>z.elim)));obtain⟨⟨u2,rfl⟩,I2,k2⟩:=hs;have hb2:=k2 _ _ fb (up (Ne.symm ib) ho);have hit2:s2.heap.IsListIter it l (i+1):=by
   obtain⟨oi,e1,e2⟩:=hit';exact⟨oi,k2 _ _ fi e1,e2⟩
  have ab:argBest (btK kf) i=if btK kf i (argBest (btK kf) (i-1))=true then i else argBest (btK kf) (i-1):=by
   obtain⟨j,rfl⟩:∃j,i=j+1:=⟨i-1,ω⟩;rw[show j+1=j.succ from rfl,argBest.eq_2];rfl
  show wpAny _ _ (tryCatch (holding [Value.ref ts[i],Value.int (kf i) u2] (richCompare .Lt (Value.int (kf i) u2) (Value.int (kf (argBest (btK kf) (i-1))) u) >>= _)) _ >>= _) _ _ _;refine wpAny_bind (wpAny_tryCatch (wpAny_holding (wpAny_bind (CmpOf.ints_lt (prog:=X.prog) (w:=X.w) (A:=X.A.in1) (P:=fun i v=>∃t,v=Value.int (kf i) t) kf (fun i v h=>h) i (argBest (btK kf) (i-1)) _ _ _ _ _ ⟨u2,rfl⟩ ⟨u,rfl⟩ ?_))));refine wpAny_bind (wpAny_holding (wpAny_truthy_bool (wpAny_bind (wpAny_letGo (wpAny_pure ?_)))));cases hb:btK kf i (argBest (btK kf) (i-1)) with
  | true=>
   have lt:kf i<kf (argBest (btK kf) (i-1)):=of_decide_eq_true hb;simp only[lt,decide_true,if_true];refine wpAny_bind (wpAny_updateSeq hb2 rfl ?_ (by show 2<=sizeLine;decide) (by show 2<=sizeLine+1;decide));refine wpAny_bind (wpAny_letGo (wpAny_pure ⟨Code.quiet_builtin _ ψ,?_⟩));have up2:∀{c o},c≠b->s2.heap.get? c=some o->(s2.heap.update b (Obj.mapSeq fun _=>#[Value.ref ts[i],Value.int (kf i) u2])).get? c=some o:=fun {c o} c2 e=>(get?_update_other _ _ (Ne.symm c2)).trans e;have I3:Inv X pins σ H { s2 with heap:=s2.heap.update b (Obj.mapSeq fun _=>#[Value.ref ts[i],Value.int (kf i) u2]) }:=I2.lV (t':=s2.toks) (ch:=[b]) (fun c m=>by rw[mem_singleton.mp m];exact fb) fun c o nc q=>up2 (fun z=>nc (by rw[z];exact .head _)) q;have ab2:argBest (btK kf) (i+1-1)=i:=by rw[add_sub_cancel,ab,hb,if_pos rfl]
   have hb3:=PySem.IsL.update hb2 (fun _=>#[Value.ref ts[i],Value.int (kf i) u2]);refine nJ hc hl fi fb ib turn m (i+1) _ ω ω ω I3 (by obtain⟨oi,e1,e2⟩:=hit2;exact⟨oi,up2 ib e1,e2⟩) ?_ hR;rw[ab2];exact⟨_,ts[i],u2,hb3,hx⟩
  | false=>
   have lt:¬kf i<kf (argBest (btK kf) (i-1)):=of_decide_eq_false hb;simp only[lt,decide_false,false_eq_true,if_false];refine wpAny_bind (wpAny_letGo (wpAny_pure ⟨Code.quiet_builtin _ ψ,?_⟩));refine nJ hc hl fi fb ib turn m (i+1) _ ω ω ω I2 hit2 ⟨k,v,u,?_,?_⟩ hR
   ·rw[add_sub_cancel,ab,hb,if_neg δ];exact hb2
   rw[add_sub_cancel,ab,hb,if_neg δ];exact hv
theorem Fl {s:Shared}{ts:List Addr}{kf:Nat->Int}{f l:Addr}{Q:Value->Shared->Prop}{E:Value->Shared->Prop}(hc:X.calm=true)(I:Inv X pins σ H s)(hl:H l=some (.lst (ts.map V.ref)))(hne:0<ts.length)
  (turn:∀(i:Nat) t (s:Shared),ts[i]?=some t->Inv X pins σ H s ->
   wpAny (model X.prog X.w) X.A.in1 (call (.ref f) [.ref t]) (fun x s'=>(∃u,x=.int (kf i) u)/\Inv X pins σ H s'/\∀c o,gR X pins H c->s.heap.get? c=some o->s'.heap.get? c=some o) (fun _ _=>False) s)
  (hQ:∀(s':Shared) v,Inv X pins σ H s'->ts[argBest (btK kf) (ts.length-1)]?=some v->Q (.ref v) s') :
  wpAny (model X.prog X.w) X.A (call (.builtin "min") [.ref l] [(Str.ofString "key",.ref f)]) Q E s:=by
 have hname:(toString "min" ++ toString ".loop" : String) = "min.loop" := by decide
 obtain⟨its,rl,pl,hz⟩:=I.list (SqL.of hl);have e:=gm rl;subst e;have hx:ts[0]?=some ts[0]:=getElem?_eq_getElem hne;refine kmk_tree F.kind_min F.plain_min F.entry_min (kmk_min_key _ _) ?_;refine wpAny_bind (wpAny_of_eq (show Builtin.Builtins.bindParams "min" ["key","default"] 0 ⟨[],[(Str.ofString "key",Value.ref f)]⟩=pure [some (Value.ref f),none] from rfl) ?_);refine wpAny_bind (wpAny_pure ?_);refine wpAny_bind (wpAny_pyIter_list pl.isList ?_);refine wpAny_bind (wpAny_newList ?_ (zero_le _));rw[hname];have z1:(s.heap.push { cls:=Value.type "list_iterator",data:=Data.fields #[Value.ref l,Value.int 0 0] }).objs.size=s.heap.objs.size+1:=size_push ..;have old:∀c o,s.heap.get? c=some o->((s.heap.push { cls:=Value.type "list_iterator",data:=Data.fields #[Value.ref l,Value.int 0 0] }).push (seqObj "list" #[] 0)).get? c=some o:=fun c o e=>get?_push_of_some _ (get?_push_of_some _ e);have gI:((s.heap.push { cls:=Value.type "list_iterator",data:=Data.fields #[Value.ref l,Value.int 0 0] }).push (seqObj "list" #[] 0)).get? s.heap.objs.size=some { cls:=Value.type "list_iterator",data:=Data.fields #[Value.ref l,Value.int 0 0] }:=get?_push_of_some _ (get?_push_size _ rfl);have gS:((s.heap.push { cls:=Value.type "list_iterator",data:=Data.fields #[Value.ref l,Value.int 0 0] }).push (seqObj "list" #[] 0)).get? (s.heap.push { cls:=Value.type "list_iterator",data:=Data.fields #[Value.ref l,Value.int 0 0] }).objs.size=some (seqObj "list" #[] 0):=get?_push_size _ rfl;have fi:gR X pins H s.heap.objs.size:=I.rY (le_refl _) (I.hok.fresh (le_refl _));have le1:s.heap.objs.size<=(s.heap.push { cls:=Value.type "list_iterator",data:=Data.fields #[Value.ref l,Value.int 0 0] }).objs.size:=by rw[z1];exact le_succ _
 have fb:gR X pins H (s.heap.push { cls:=Value.type "list_iterator",data:=Data.fields #[Value.ref l,Value.int 0 0] }).objs.size:=I.rY le1 (I.hok.fresh le1);have ib:s.heap.objs.size≠(s.heap.push { cls:=Value.type "list_iterator",data:=Data.fields #[Value.ref l,Value.int 0 0] }).objs.size:=by rw[z1];exact ne_of_lt (lt_succ_self _)
 refine wpAny_pure ⟨plainId_quiet F.plain_min_loop _,?_⟩;have I0:Inv X pins σ H { s with heap:=((s.heap.push { cls:=Value.type "list_iterator",data:=Data.fields #[Value.ref l,Value.int 0 0] }).push (seqObj "list" #[] 0)) }:=I.kept (t':=s.toks) old;have plI:=pl.isList;have hl0:((s.heap.push { cls:=Value.type "list_iterator",data:=Data.fields #[Value.ref l,Value.int 0 0] }).push (seqObj "list" #[] 0)).IsList l (ts.map Value.ref).toArray:=by
  obtain⟨o,e1,e2⟩:=plI;exact⟨o,old _ _ e1,e2⟩
 have hit0:((s.heap.push { cls:=Value.type "list_iterator",data:=Data.fields #[Value.ref l,Value.int 0 0] }).push (seqObj "list" #[] 0)).IsListIter s.heap.objs.size l 0:=⟨_,gI,rfl,rfl⟩;generalize hB:(s.heap.push { cls:=Value.type "list_iterator",data:=Data.fields #[Value.ref l,Value.int 0 0] }).objs.size=b at *;generalize hIt:s.heap.objs.size=it at *;generalize (s.heap.push { cls:=Value.type "list_iterator",data:=Data.fields #[Value.ref l,Value.int 0 0] }).push (seqObj "list" #[] 0)=h0 at *;refine codeAny_builtin F.entry_min_loop ?_;rw[Around.under_plainId F.plain_min_loop _];show wpAny _ _ (seqItems? (Value.ref b) >>= _) _ _ _;refine wpAny_bind (wpAny_seqItems gS rfl ?_);refine wpAny_bind (wpAny_tryCatch (wpAny_pyNext_list_item (A:=X.A.in1) hit0 hl0 (by rw[getElem?_toArray,getElem?_map,hx];rfl) fun h' hit' sb=>?_));have up:∀{c o},c≠it->h0.get? c=some o->h'.get? c=some o:=fun {c o} hc e=>(sb.2 c hc).trans e;have I1:Inv X pins σ H { s with heap:=h' }:=I0.lV (t':=s.toks) (ch:=[it]) (fun c m=>by rw[mem_singleton.mp m];exact fi) fun c o nc q=>up (fun z=>nc (by rw[z];exact .head _)) q;show wpAny _ _ (tryCatch (holding [Value.ref ts[0]] (call (Value.ref f) [Value.ref ts[0]])) _ >>= _) _ _ _;refine wpAny_bind (wpAny_tryCatch (wpAny_holding (wpAny_mono (turn 0 _ _ hx I1) (fun x s2 hs=>?_) fun _ _ z=>z.elim)));obtain⟨⟨u2,rfl⟩,I2,k2⟩:=hs;have hb2:=k2 _ _ fb (up (Ne.symm ib) gS);have hit2:s2.heap.IsListIter it l 1:=by
  obtain⟨oi,e1,e2⟩:=hit';exact⟨oi,k2 _ _ fi e1,e2⟩
 show wpAny _ _ (updateSeq b (fun _=>#[Value.ref ts[0],Value.int (kf 0) u2]) >>= _) _ _ _;refine wpAny_bind (wpAny_updateSeq hb2 rfl ?_ (by show 0<=sizeLine;decide) (by show 2<=sizeLine+1;decide));rw[hname];have up2:∀{c o},c≠b->s2.heap.get? c=some o->(s2.heap.update b (Obj.mapSeq fun _=>#[Value.ref ts[0],Value.int (kf 0) u2])).get? c=some o:=fun {c o} c2 e=>(get?_update_other _ _ (Ne.symm c2)).trans e;have I3:Inv X pins σ H { s2 with heap:=s2.heap.update b (Obj.mapSeq fun _=>#[Value.ref ts[0],Value.int (kf 0) u2]) }:=I2.lV (t':=s2.toks) (ch:=[b]) (fun c m=>by rw[mem_singleton.mp m];exact fb) fun c o nc q=>up2 (fun z=>nc (by rw[z];exact .head _)) q;have hb3:=PySem.IsL.update hb2 (fun _=>#[Value.ref ts[0],Value.int (kf 0) u2]);refine wpAny_pure ⟨plainId_quiet F.plain_min_loop _,nJ hc hl fi fb ib turn (ts.length-1) 1 _ rfl (le_refl _) hne I3 (by obtain⟨oi,e1,e2⟩:=hit2;exact⟨oi,up2 ib e1,e2⟩) ⟨_,ts[0],u2,hb3,hx⟩ fun s' v J e=>hQ s' v J e⟩
end
section
variable {X:Cx}{pins:List (Addr×Obj)}{σ:St}{H:Hp}{s:Shared}
theorem Inv.track {f:Addr}{o:HO}(I:Inv X pins σ H s)(hf:gR X pins H f)(new:bI X.prog X.w (upd H f o) s.heap f o):Inv X pins σ (upd H f o) s:=by
 obtain⟨fn,fl,ffs,fe,fc,fp⟩:=hf;have oth:∀{b u},H b=some u->upd H f o b=some u:=fun {b u} e=>by rw[aG (aD e fn)];exact e
 refine⟨I.ok,I.os,I.bare,⟨I.base.keep,I.base.slot,fun b u e n nx=>?_,I.base.there,fun b xs e=>oth (I.base.tups b xs e),fun b u v e=>oth (I.base.frzs b u v e),fun b ps e=>?_⟩,I.loc,I.cell,?_,fun x c e=>?_,fun p hp=>?_,fun b u e=>?_,I.len⟩
 ·have:b≠f:=fun z=>by
   rcases fe with fe|fe
   ·exact nx (z ▸ fe)
   exact absurd (lt_size e) (Nat.not_lt.mpr (by rw[z];exact fe))
  rw[aG this];exact I.base.free b u e n nx
 ·obtain⟨m,em⟩:=I.base.tbls b ps e;exact⟨m,oth em⟩
 ·rw[aG (Ne.symm fl)];exact I.free
 ·rw[aG (fc x c e)];exact I.freeC x c e
 ·obtain⟨a1,a2,a3⟩:=I.pin p hp;refine⟨a1,?_,a3⟩;rw[aG (fp p hp)];exact a2
 by_cases z:b=f
 ·rw[z,au] at e;cases e;rw[z];exact new
 rw[aG z] at e;exact(I.hok b u e).stay (fun _ _ _ q=>q) (fun _ q=>oth q) fun _ _ q=>oth q
end
theorem Ou {M:Model}{A:Around}{E:Value->Shared->Prop}{s:Shared}{env:Env}{pos:Pos}{T:String}{e:Expr}{es:List Expr}{kws:List Keyword}{Q:Value->Shared->Prop}
  (h:wpAny M A (spliced (backTo pos (starEach (e::es) env))) (fun vs s1=>wpAny M A (evalAll ((backToKw pos (keywordEach kws env)).map (·.2)))
   (fun ws s2=>wpAny M A (call (.builtin T) vs (((backToKw pos (keywordEach kws env)).filterMap (·.1)).zip ws)) Q E s2) E s1) E s)
  (he:backTo pos (starEach (e::es) env)=(false,eval e env)::backTo pos (starEach es env)) (hp:(backTo pos (starEach (e::es) env)).any (·.1)=false)
  (ha:(backToKw pos (keywordEach kws env)).all (·.1.isSome)=true) (hk:(backToKw pos (keywordEach kws env)).any (·.1.isNone)=false) :
  wpAny M A (callWith pos (.builtin T) [] (backTo pos (starEach (e::es) env)) (backToKw pos (keywordEach kws env))) Q E s:=by
 unfold callWith;have h1:wpAny M A (evalArgs (.builtin T) true (backTo pos (starEach (e::es) env)) (backToKw pos (keywordEach kws env))) (fun a s2=>wpAny M A (call (.builtin T) a.pos a.kw) Q E s2) E s:=by
  rw[he] at h |-;exact evalArgs_kwB ha h
 refine wpAny_bind (wpAny_holding (wpAny_mono h1 (fun a s1 h2=>wpAny_bind (wpAny_standAt ?_)) fun _ _ x=>x));simp only[hp,hk,Bool.or_false];exact wpAny_bind (wpAny_pure (wpAny_bind (wpAny_mono h2 (fun r s2 hr=>wpAny_bind (wpAny_holding (wpAny_point (wpAny_pure hr)))) fun _ _ x=>x)))
noncomputable def Ez (f:Addr)(o:Obj):HO:=.ext fun h=>h.get? f=some o
theorem Om {P:Program}{w:World}{H:Hp}{h:Heap}{f:Addr}{o:Obj}(e:h.get? f=some o):bI P w H h f (Ez f o):=⟨e,⟨o,e⟩,fun _ _ e1 k=>k _ e1⟩
noncomputable def Gy (P:Addr)(lpos:Pos)(qual:Str)(N:List Str)(tb:TE)(ta:TA):TE:=fun σ H Q=>ta σ H fun vs H1=>pC H1 P lpos qual/\∃(l:Addr)(ts:List Addr)(kf:Nat->Int),vs=[.ref l]/\H1 l=some (.lst (ts.map V.ref))/\0<ts.length /\
 ∀H2,aV P H1 H2->pC H2 P lpos qual->(∀(i:Nat) t,ts[i]?=some t->tb (L2.start N [.ref t]) H2 fun v H3=>v=.int (kf i)/\H3=H2) /\
  ∀(m:Nat) v,ts[m]?=some v->(∀j,j<ts.length->kf m<=kf j/\(j<m->kf m<kf j))->Q (.ref v) H2
section
variable {X:Cx}{c P:Addr}{params:Arguments}{body:Expr}{scope:Scope}{qual x:Str}{tb:TE}{ta:TA}{k:Nat}{a:Expr}{p pos lpos kp:Pos}
theorem MN (hc:X.calm=true) (hr:dN (k+2) X.A) (hg:Gl X "min") (hm:X.mg "min" = none) (ha:PA X [a] ta) (hcl:closureFor scope X.env=pure []) (hdef:defaultsOf params X.env=([],[])) (hcode:X.env.code=.ref c) (C:PySem.W.CodeHd X.base c P) (hb:X.base.BuiltinsAt X.mg P) (hq:X.env.qual ++ "<lambda>" = qual) (S:bF [x] [x] scope)
  (hbind:∀(pm ctv:Value)(c':Addr)(u:Value),bindArgs (PySem.W.kla_fn "<lambda>" qual params body scope [] pm (.ref c') ctv) ⟨[u],[]⟩=pure [(x,u)])
  (hbody:∀(A:Around)(outer:List Env)(s:Shared)(H:Hp)(f c':Addr),PE (pA CX0 X.prog X.w X.K X.mg X.base [x] qual scope f (.ref c') A outer s H E0) body tb)
  (hs:starEach [a] X.env=[(false,eval a X.env)]:=by rfl) :
  PE X (.Call (.Name "min" p) [a] [⟨some "key",.Lambda params body scope lpos,kp⟩] pos) (Gy P lpos qual [x] tb ta):=by
 intro pins s σ H Q I h;refine wpAny_Call_Name_kw (eU I hg hm boot_min ?_);refine Ou (thA (ha pos pins s σ H _ I h) fun us s1 vs H1 I1 r1 q1=>?_) (by rw[hs];rfl) (by rw[hs];rfl) rfl rfl;obtain⟨hL,l,ts,kf,rfl,el,hne,q⟩:=q1;cases r1 with
 | cons r rr=>
  cases rr;cases r;show wpAny _ _ (evalAll [do let v <- eval (.Lambda params body scope lpos) X.env;standAt pos;pure v]) _ _ s1;refine wpAny_evalAll_cons (wpAny_bind (JG I1 hcl hdef hcode C hb hq hL fun f c' ctv pm H2 s2 I2 hfs hfn hfo hcc hL2 sx=>wpAny_bind (wpAny_standAt (wpAny_pure (wpAny_evalAll_nil ?_)))));have fp:gR X pins H2 f:=I1.rY hfs hfn;have I3:=I2.track fp (Om hfo);have s23:Same H2 (upd H2 f (Ez f (PySem.W.kla_obj "<lambda>" qual params body scope [] pm c' ctv))):=ao hfn;have sx3:aV P H1 (upd H2 f (Ez f (PySem.W.kla_obj "<lambda>" qual params body scope [] pm c' ctv))):=sx.trans s23.x;have hL3:=hL2.same s23;have hcc3:=s23 _ _ hcc;have hff:upd H2 f (Ez f (PySem.W.kla_obj "<lambda>" qual params body scope [] pm c' ctv)) f=some (Ez f (PySem.W.kla_obj "<lambda>" qual params body scope [] pm c' ctv)):=au;generalize upd H2 f (Ez f (PySem.W.kla_obj "<lambda>" qual params body scope [] pm c' ctv))=H3 at I3 s23 sx3 hL3 hcc3 hff;obtain⟨qt,qm⟩:=q H3 sx3 hL3;have nlP:l≠P:=fun z=>by
   obtain⟨ps,e,_⟩:=hL;rw[<- z,el] at e;cases e
  refine Fl hc I3 (sx3 _ _ nlP el) hne (kf:=kf) (fun i t s4 hi I4=>?_) fun s' v J e=>?_
  ·have hfo4:s4.heap.get? f=some (PySem.W.kla_obj "<lambda>" qual params body scope [] pm c' ctv):=(I4.hok f _ hff).1;have hrec4:s4.heap.CodeRec (.ref c') qual:=(I4.hok c' _ hcc3).1;refine wpAny_call (codeAny_mono (N5 (k:=k) (N:=[x]) (ps:=[x]) (vs:=[.ref t]) (us:=[.ref t]) (E:=E0) hfo4 hrec4 S hr.in1 I4.env0.in1 (hbind pm ctv c' _) (.cons rfl .nil) rfl (hbody _ _ _ _ _ _) (qt i t hi)) fun r s5 hq5=>?_);cases r with
   | error e=>exact hq5.elim
   | ok fl=>
    cases fl with
    | ret u=>
     have un:=hq5;obtain⟨v,H',I5,rv,rfl,rfl⟩:=I4.after hq5;obtain⟨u',rfl⟩:=rv;refine⟨⟨u',rfl⟩,I5,fun c o fc e=>?_⟩;obtain⟨v2,H2',_,_,un2,_⟩:=un;refine un2.keep c o e fc.1 (fun z=>?_) (by simp);rcases mem_cons.mp (I4.lg c z) with z|z
     ·exact fc.2.1 z
     exact fc.2.2.1 z
    | next=>exact hq5.elim
    | brk=>exact hq5.elim
    | cont=>exact hq5.elim
  obtain⟨b1,b2⟩:=Dp kf (ts.length-1);exact⟨.ref v,H3,J,rfl,qm _ v e fun j hj=>b2 j ω⟩
end
theorem En {P:Program}{w:World}{K:PySem.W.Frag}{mg mb:Str->Option Value}{CX:CXT}{k:Nat}{fa a c T:Addr}{fd:FuncData}{x:Str}{sp:Sp}{s₁:Shared}{vs:List Value}{ns:List Int}
  (KX:K.In s₁.heap) (hns:s₁.heap.Ns mainGlobals mg) (hb:s₁.heap.Ns builtinsNs mb) (hbb:∀x:Str,x ≠ "__name__" -> mb x=bootBuiltins x) (hlim:s₁.heap.NoLimit) (hg:s₁.gens=#[])
  (ha:s₁.heap.get? a=some { cls:=.type "list",data:=.seq vs.toArray }) (hi:IntsAre vs ns) (hl:ns.length<=sizeLine) (hr:dN k callerA)
  (hcd:PySem.W.CodeHd s₁.heap c T) (hT:s₁.heap.get? T=some (PySem.W.tabObj #[])) (hKT:K.lookup T=none) (hBu:s₁.heap.BuiltinsAt mg T)
  (F:∀base:Heap,K.In base->base.Ns mainGlobals mg->base.BuiltinsAt mg T->dW P w K mg base CX k fa fd [x] sp) (hbind:∀(s:Shared)(u:Value),BindsTo s fd ⟨[u],[]⟩ [(x,u)])
  (hsp:∀H:Hp,H T=some (.tbl #[])->SqL K H a (ns.map V.int)->sp [.ref a] H (fun v _=>v=.bl true) fun _ _ _=>False)
  (hCX:∀H e s',CX [] H s₁ (fun _ _ _=>False) e s'->False) :
  codeAny (model P w) callerA (.call (.ref fa) ⟨[.ref a],[]⟩) (fun r s'=>r=.ok (.ret (.bool true))/\OldK s₁.heap s'.heap/\s'.os=s₁.os/\AllBare s'.gens) s₁:=by
 have rv:=sE hi;have lenV:=hi.length;have naT:a≠T:=fun z=>by rw[z,hT] at ha;cases ha
 have core:∀H:Hp,H T=some (.tbl #[])->SqL K H a (ns.map V.int)->HOk P w H s₁.heap->(∀b,b≠T->H b=none\/(b=a/\K.lookup a=none/\∃o xs,H b=some (.frz o (.lst xs)))) ->
   codeAny (model P w) callerA (.call (.ref fa) ⟨[.ref a],[]⟩) (fun r s'=>r=.ok (.ret (.bool true))/\OldK s₁.heap s'.heap/\s'.os=s₁.os/\AllBare s'.gens) s₁:=by
  intro H hHT hS hok hA;have base_of:∀{b:Addr}{o:Obj},s₁.heap.get? b=some o->H b=none->(rQ s₁.heap H).get? b=some o:=fun e n=>JW e n;have noA:∀{b:Addr}{o:Obj},s₁.heap.get? b=some o->b≠T->b≠a->H b=none:=fun {b o} _ n1 n2=>by
   rcases hA b n1 with z|z
   ·exact z
   exact absurd z.1 n2
  have nsK:∀{b:Addr}{m:Str->Option Value},s₁.heap.Ns b m->(rQ s₁.heap H).Ns b m:=fun {b m} ⟨o,es,ep,e,d,r⟩=>⟨o,es,ep,base_of e (noA e (fun z=>by rw[z,hT] at e;cases e;cases d) fun z=>by
   rw[z,ha] at e;cases e;have d':Data.seq vs.toArray _=Data.dict es ep:=d;cases d'),d,r⟩
  have hKb:K.In (rQ s₁.heap H):=fun b o e=>base_of (KX b o e) (by
   rcases hA b (fun z=>by rw[z,hKT] at e;cases e) with z|⟨z,z2,_⟩
   ·exact z
   rw[z,z2] at e;cases e)
  have hBb:(rQ s₁.heap H).BuiltinsAt mg T:=by
   obtain⟨bm,o,e1,e2,e3,e4,e5,e6,e7,e8⟩:=hBu;exact⟨bm,o,e1,e2,e3,e4,base_of e5 (noA e5 e4 fun z=>by rw[z,ha] at e5;cases e5;cases e8),e6,e7,e8⟩
  have hM:Mod K mg (rQ s₁.heap H):=⟨hKb,nsK hns,⟨mb,nsK hb,hbb⟩,let ⟨mc,h1,h2⟩:=hlim;⟨mc,nsK h1,h2⟩⟩;have e0:yP P w K mg (rQ s₁.heap H) callerA [] s₁ H:=⟨rfl,hM,fun b o e=>Nr e,Nat.le_of_eq (Eu _ _),trivial,fun b hb=>absurd (show b∈([]:List Addr) from hb) (by simp),hok,.of_eq hg⟩;refine codeAny_mono ((F _ hKb (nsK hns) hBb).run callerA [] s₁ H ⟨[.ref a],[]⟩ [.ref a] [.ref a] _ _ hr e0 (hbind s₁ (.ref a)) (.cons rfl .nil) (hsp H hHT hS)) fun r s' h=>?_;cases r with
  | error e=>exact(hCX H e s' h).elim
  | ok fl=>
   cases fl with
   | next=>exact False.elim h
   | brk=>exact False.elim h
   | cont=>exact False.elim h
   | ret u=>
    obtain⟨v,H',os,bare,un,hok',r',q⟩:=h;have q':v=.bl true:=q;subst q';obtain rfl:u=Value.bool true:=r';have kp:∀b o,b≠T->s₁.heap.get? b=some o->s'.heap.get? b=some o:=fun b o n e=>by
     rcases hA b n with z|⟨_,_,ob,xs,z⟩
     ·exact un.keep b o e z (by intro z;exact absurd (show b∈([]:List Addr) from z) (by simp)) (by simp)
     have z2:=un.frzs b ob _ z;obtain⟨e1,_⟩:=hok b _ z;obtain⟨e2,_⟩:=hok' b _ z2;rw[e] at e1;cases e1;exact e2
    obtain⟨more,hm⟩:=un.tbls T _ hHT;have hT':s'.heap.get? T=some { cls:=.none,data:=.fields (#[]++more) }:=hok' T _ hm;refine⟨rfl,⟨fun b o e=>?_,fun b o e=>?_⟩,os,bare⟩
    ·by_cases z:b=T
     ·subst z;rw[hT] at e;cases e;obtain⟨oc,ws,_,_,_,_,_,_,_,c1,c2,c3,c4,_⟩:=hcd;exact .inr (.inl ⟨⟨c,oc,ws,c1,c2,c3,c4⟩,rfl,#[],more,rfl,hT'⟩)
     exact .inl (kp b o z e)
    by_cases z:b=T
    ·rw[z];exact⟨_,hT'⟩
    exact⟨o,kp b o z e⟩
 cases hk:K.lookup a with
 | some o=>
  have e:=KX a o hk;rw[ha] at e;cases e;refine core (fun b=>if b=T then some (.tbl #[]) else none) (if_pos rfl) (.inr ⟨_,vs.toArray,_,hk,rfl,rfl,rfl,by rw[size_toArray,lenV];exact hl,by simpa using rv⟩) (fun b u z=>?_) fun b n=>.inl (if_neg n);by_cases hbT:b=T
  ·have z':=(if_pos hbT).symm.trans z;cases z';rw[hbT];exact hT
  have z':=(if_neg hbT).symm.trans z;cases z'
 | none=>
  refine core (fun b=>if b=T then some (.tbl #[]) else if b=a then some (.frz { cls:=.type "list",data:=.seq vs.toArray } (.lst (ns.map V.int))) else none) (if_pos rfl) (.inl (.inr ⟨{ cls:=.type "list",data:=.seq vs.toArray },(if_neg naT).trans (if_pos rfl)⟩)) (fun b u z=>?_) fun b n=>?_
  ·by_cases hbT:b=T
   ·have z':=(if_pos hbT).symm.trans z;cases z';rw[hbT];exact hT
   by_cases hba:b=a
   ·have z':=((if_neg hbT).trans (if_pos hba)).symm.trans z;cases z';subst hba;exact⟨ha,by rw[length_map];exact hl,vs,_,rv,ha⟩
   have z':=((if_neg hbT).trans (if_neg hba)).symm.trans z;cases z'
  by_cases hba:b=a
  ·exact .inr ⟨hba,hk,_,_,(if_neg n).trans (if_pos hba)⟩
  exact .inl ((if_neg n).trans (if_neg hba))
theorem Gf {l:PySem.W.OpenLaw}{n k:Nat}{q:Program}{loose:List Str}{XP:(Str->Option Value)->Heap->Prop}{YP:World->Heap->Prop}{d:DefRec}{K:Params->PySem.W.Frag}{CX:World->CXT}{sp:World->Sp}{x:Str}{c T:Addr}
  (hn:l.most=some n) (hn2:n<=sizeLine) (hdf:d.params.defaults=[]) (hr:dN k callerA)
  (hY:∀(w:World)(h:Heap),YP w h->(K w.params).In h/\h.get? T=some (PySem.W.tabObj #[])/\(K w.params).lookup T=none/\PySem.W.CodeHd h c T)
  (F:∀(w:World)(mg:Str->Option Value)(fa:Addr)(h:Heap),(K w.params).In h->h.Ns mainGlobals mg->mg d.name=some (.ref fa) ->
   ∃fd:FuncData,(∀(s:Shared)(u:Value),BindsTo s fd ⟨[u],[]⟩ [(x,u)]) /\
    ∀base:Heap,(K w.params).In base->base.Ns mainGlobals mg->base.BuiltinsAt mg T->dW l.prog w (K w.params) mg base (CX w) k fa fd [x] (sp w))
  (hsp:∀(w:World)(H:Hp)(a:Addr)(ns:List Int),ns.length<=n->H T=some (.tbl #[])->SqL (K w.params) H a (ns.map V.int)->sp w [.ref a] H (fun v _=>v=.bl true) fun _ _ _=>False)
  (hCX:∀(w:World)(H:Hp)(s:Shared)(e:Value)(s':Shared),CX w [] H s (fun _ _ _=>False) e s'->False) :
  PySem.W.WalkO q loose XP YP l.row.toRowW d [] (fun f vs=>PySem.call f vs):=by
 refine Att.yN hn hdf fun w s₀ s₁ mg mb fa o pm cd doc a vs ns G Y ho hd hcd hmg hobj hints hlen hg=>?_;obtain⟨KX,hT,hKT,hC⟩:=hY w _ Y;obtain⟨fd,hb,hF⟩:=F w mg fa _ KX G.T.g hmg;have hBu:s₁.heap.BuiltinsAt mg T:=by
  obtain⟨bm,ob,b1,b2,b3,b4,b5,b6⟩:=G.T.bmain;refine⟨bm,ob,b1,b2,fun z=>?_,fun z=>?_,b3,b4,b5,b6⟩
  ·obtain⟨o',es,ep,e,d',_⟩:=G.T.g;rw[<- z,b3] at e;cases e;rw[b6] at d';cases d'
  rw[z,hT] at b3;cases b3;cases b6
 exact En KX G.T.g G.T.b G.T.builtins G.T.nolimit hg hobj hints (le_trans hlen hn2) hr hC hT hKT hBu hF hb (fun H hO hS=>hsp w H a ns hlen hO hS) fun H e s'=>hCX w H s₁ e s'
end L2
namespace SRT
open PySem PyProof.Rows
noncomputable def TP (s:Shared) (x:Value) (a:Int):Prop:=∃q o n t z,x=.ref q/\s.heap.get? q=some o/\o.cls=.type "tuple" /\ o.data=.seq #[.int a t,z] n
section
variable {prog:Program}{w:World}{s:Shared}{A:Around}{E:Value->Shared->Prop}
theorem Tp {v:Value}{a:Int}{Q:Option Value->Shared->Prop}(h:TP s v a)(q:∀t,Q (some (.int a t)) s):wpAny (model prog w) A (firstOfTuple' v) Q E s:=by
 obtain⟨p,o,n,t,z,rfl,ho,hc,hs⟩:=h;show wpAny _ _ (typeOf (.ref p) >>= fun ty=>_) _ _ s;refine wpAny_bind (wpAny_typeOf (T := "tuple") (show s.TypeIs (.ref p) "tuple" from⟨o,ho,hc⟩) ?_);rw[if_neg δ];exact wpAny_bind (listItems_at ho hs (wpAny_pure (q t)))
theorem firstsP:∀{vs:List Value}{Q:List (Option Value)->Shared->Prop},(∀v∈vs,∃a,TP s v a)->(∀(ws:List Value)(ns:List Int),IntsAre ws ns->ws.length=vs.length->Q (ws.map some) s)->wpAny (model prog w) A (vs.mapM firstOfTuple') Q E s
 | [],Q,_,q=>by
  rw[mapM_nil];exact wpAny_pure (q [] [] .nil rfl)
 | v::vs,Q,h,q=>by
  rw[List.mapM_cons];obtain⟨a,hv⟩:=h v (mem_cons_self ..);refine wpAny_bind (Tp hv fun t=>?_);refine wpAny_bind (firstsP (vs:=vs) (fun x hx=>h x (mem_cons_of_mem _ hx)) fun ws ns hI hl=>?_);exact wpAny_pure (q (.int a t::ws) (a::ns) (.cons a t hI) (by rw[length_cons,length_cons,hl]))
theorem Vb {vs:List Value}{Q:SortKind->Shared->Prop}(h:∀v∈vs,∃a,TP s v a)(hn:1<=vs.length)(q:Q iT s):wpAny (model prog w) A (keyKind' vs.toArray) Q E s:=by
 rw[keyKind'_eq];rw[mapM_toArray];rw[map_eq_pure_bind];refine wpAny_bind (wpAny_bind (firstsP h fun ws ns hI hl=>wpAny_pure ?_));have ha:(ws.map some).toArray.all (·.isSome)=true:=by simp
 rw[if_pos ha];have hfm:(ws.map some).toArray.filterMap id=ws.toArray:=by simp [filterMap_map]
 rw[hfm];cases ws with
 | nil=>rw[<- hl] at hn;cases hn
 | cons v ws=>
  rw[wA hI];refine wpAny_bind (wpAny_rule ?_);exact wpAny_bind (wpAny_pure (wpAny_pure q))
end
end SRT
namespace L2
open PySem PySem.Spec PyProof.Rows
noncomputable def rkP (key:Addr->Int):Value->Int
 | .ref p=>key p
 | _=>0
end L2
namespace SRT
open PySem PyProof.Rows
noncomputable def TM (s:Shared) (x:Value) (a b:Int):Prop:=∃q o n t u,x=.ref q/\s.heap.get? q=some o/\o.cls=.type "tuple" /\ o.data=.seq #[.int a t,.int b u] n
theorem TM.tp {s:Shared}{x:Value}{a b:Int}(h:TM s x a b):TP s x a:=by
 obtain⟨q,o,n,t,u,e,ho,hc,hd⟩:=h;exact⟨q,o,n,t,_,e,ho,hc,hd⟩
structure lQ (s:Shared)(p1 p2 g:Value->Int)(vs:List Value):Prop where
 tk:∀v∈vs,TM s v (p1 v) (p2 v)
 lx:∀x∈vs,∀y∈vs,g x<g y↔p1 x<p1 y\/p1 x=p1 y/\p2 x<p2 y
 nd:(vs.map g).Nodup
theorem lQ.keep {p1 p2 g:Value->Int}{vs:List Value}{s s':Shared}(h:lQ s p1 p2 g vs) (k:∀q o,s.heap.get? q=some o->o.cls=.type "tuple" -> s'.heap.get? q=some o):lQ s' p1 p2 g vs:=
 ⟨fun v hv=>by
  obtain⟨q,o,n,t,u,e,ho,hc,hs⟩:=h.tk v hv;exact⟨q,o,n,t,u,e,k q o ho hc,hc,hs⟩,h.lx,h.nd⟩
section
variable {prog:Program}{w:World}{s:Shared}{A:Around}{E:Value->Shared->Prop}
theorem Vk {p1 p2 g:Value->Int}{vs:List Value}(h:lQ s p1 p2 g vs):Asks prog w A E s (pairsOf vs) fun p=>g p.1:=by
 intro st x y Q hk hx hy hne q;have h1:=h.tk x.1 (gG hx).1;have h4:=h.tk y.1 (gG hy).1;have hl:=h.lx x.1 (gG hx).1 y.1 (gG hy).1;replace q:Q (some (decide (g x.1<g y.1))) st:=q;have q2:Q (some (decide (p1 x.1<p1 y.1\/p1 x.1=p1 y.1/\p2 x.1<p2 y.1))) st:=(congrArg (fun b=>Q (some b) st) (decide_eq_decide.mpr hl)).mp q;clear q;clear hl;have q:=q2;clear q2;rw[lt'_eq];refine wpS_bind (wpS_get ?_);rw[hk];refine wpS_bind (wpS_lift (wpAny_attempt ?_));obtain⟨p,o,n,t,u,e,ho,hc,hs⟩:=h1;obtain⟨p',o',n',t',u',e',ho',hc',hs'⟩:=h4;generalize p1 x.1=a at *;generalize p1 y.1=b at *;generalize p2 x.1=k at *;generalize p2 y.1=l at *;rw[e,e'];show wpAny _ _ (Builtin.List.listItems (.ref p) >>= fun xs=>Builtin.List.listItems (.ref p') >>= _) _ _ s;refine wpAny_bind (listItems_at ho hs ?_);refine wpAny_bind (listItems_at ho' hs' ?_);show wpAny _ _ (forIn [((Value.int a t,Value.int b t'),0),((Value.int k u,Value.int l u'),1)] _ _ >>= _) _ _ s;rw[forIn_cons];refine wpAny_bind (wpAny_bind (wpAny_bind (wpAny_eqBool_int ?_)));by_cases c:a=b
 ·subst c;rw[beq_self_eq_true];refine wpAny_pure ?_;simp only[forIn_cons];refine wpAny_bind (wpAny_bind (wpAny_eqBool_int ?_));by_cases c2:k=l
  ·subst c2;rw[beq_self_eq_true];rw[decide_eq_false ω] at q;refine wpAny_pure ?_;simp only[forIn_nil];exact wpAny_pure (wpAny_pure ⟨rfl,wpS_pure q⟩)
  rw[beq_false_of_ne c2];rw[show decide (a<a\/a=a/\k<l)=decide (k<l) from decide_eq_decide.mpr ω] at q;exact wpAny_bind (pX (wpAny_pure (wpAny_pure (wpAny_pure ⟨rfl,wpS_pure q⟩))))
 rw[beq_false_of_ne c];rw[show decide (a<b\/a=b/\k<l)=decide (a<b) from decide_eq_decide.mpr ω] at q;exact wpAny_bind (oneLt_int (wpAny_pure (wpAny_pure (wpAny_pure ⟨rfl,wpS_pure q⟩))))
theorem Ss {a:Addr}{vs:List Value}{n:Nat}{P:Fin->Shared->Prop}{p1 p2 g:Value->Int}(ho:s.heap.get? a=some (seqObj "list" vs.toArray n)) (hR:lQ s p1 p2 g vs)
  (hlen:vs.length<64) (h:∀xs:Array Value,xs.toList.Perm vs->(xs.toList.map g).Pairwise (· < ·)->P (.done (.ret .none)) { s with heap:=sortedHeap s.heap a vs xs }):wpAny (model prog w) A (Builtin.«list.sort» ⟨[.ref a],[]⟩) P E s:=by
 rw[list_sort_plain];have la:a<s.heap.objs.size:=lt_size ho;refine wpAny_bind (listItems_at ho rfl (wpAny_bind (listUpdate_at ho rfl ?_)));obtain⟨e,he⟩:∃e,(s.heap.update a (Obj.mapSeq fun _=>#[])).get? a=some (seqObj "list" #[] e):=⟨_,get?_update_seq ho fun _=>#[]⟩;refine wpAny_bind (seqEpoch_at he rfl (wpAny_bind (wpAny_newTuple (wpAny_bind (wpAny_newList (wpAny_holding ?_))))));have h6:(((s.heap.update a (Obj.mapSeq fun _=>#[])).push (seqObj "tuple" vs.toArray 0)).push (seqObj "list" #[] 0)).get? a=some (seqObj "list" #[] e):=by
  rw[get?_push_ne _ _ _ (by rw[size_push',size_update];exact ne_of_lt (Nat.le_succ_of_le la)),get?_push_ne _ _ _ (by rw[size_update];exact ne_of_lt la),he]
 have hR6:lQ { s with heap:=((s.heap.update a (Obj.mapSeq fun _=>#[])).push (seqObj "tuple" vs.toArray 0)).push (seqObj "list" #[] 0) } p1 p2 g vs:=hR.keep fun q o hq hc=>by
  have hne:q≠a:=fun z=>by
   rw[z,ho] at hq;cases hq;exact absurd (show Value.type "list" = Value.type "tuple" from hc) δ
  exact get?_push_of_some _ (get?_push_of_some _ ((get?_update_other _ _ (Ne.symm hne)).trans hq))
 show wpAny _ A _ P E { s with heap:=((s.heap.update a (Obj.mapSeq fun _=>#[])).push (seqObj "tuple" vs.toArray 0)).push (seqObj "list" #[] 0) };dsimp only;by_cases h2:(vs.toArray.size<2)
 ·rw[if_pos h2,if_pos h2];refine(wpAny_bind (wpAny_pure ?_));rw[StateT.run_pure];refine wpAny_bind (wpAny_pure (wpAny_bind (seqEpoch_at h6 rfl (wpAny_bind (listUpdate_at h6 rfl ?_ (hsz2:=?z))))))
  case z=>rw[size_map];show(pairsOf vs).size<=_;rw[pairsOf_size,sizeLine_eq];omega
  simp only[false_eq_true,bne_self_eq_false,if_false];have e0:((vs.toArray.zip vs.toArray).map (·.2)).toList=vs:=by rw[show(vs.toArray.zip vs.toArray).map (·.2)=(pairsOf vs).map (·.2) from rfl,jN]
  refine wpAny_pure (h _ (by rw[e0]) ?_);rw[e0]
  match vs,h2 with
  | [],_=>exact .nil
  | [v],_=>exact List.pairwise_singleton _ _
  | _::_::t,h2=>exact absurd h2 (by simp)
 rw[if_neg h2,if_neg h2];refine wpAny_bind (Vb (fun v hv=>?_) (by simp at h2;omega) ?_)
 ·exact⟨_,(hR6.tk v hv).tp⟩
 refine wpAny_bind (wpAny_mono (O9 (a₀:=pairsOf vs) (f:=fun p=>g p.1) (st:=SortSt.mk' iT (vs.toArray.zip vs.toArray) #[] 7 none) (Q:=fun _ z=>(arrOf z).toList.Perm (pairsOf vs).toList/\failedOf z=none/\Asc (fun p=>g p.1) (arrOf z) (pairsOf vs).size) (Vk hR6) ?nd ⟨rfl,List.Perm.refl _,rfl,rfl⟩ (by rw[pairsOf_size];simp at h2;omega) (by rw[pairsOf_size];exact hlen) fun z d1 d2 d3=>⟨d1,d2,d3⟩) ?_ fun _ _ e=>e)
 case nd=>
  have:=hR.nd;rw[<- tM vs,map_map] at this;exact this
 rintro⟨⟨⟩,z⟩ s' ⟨rfl,d1,d2,d3⟩;have hm:((arrOf z).map (·.2)).toList.Perm vs:=by
  have:=d1.map (·.2);rw[<- toList_map,<- toList_map,jN] at this;exact this
 refine wpAny_bind (seqEpoch_at h6 rfl (wpAny_bind (listUpdate_at h6 rfl ?_ (hsz2:=?z))))
 case z=>
  have:=hm.length_eq;rw[length_toList] at this;show((arrOf z).map (·.2)).size<=_;rw[this,sizeLine_eq];omega
 dsimp only;rw[d2];simp only[false_eq_true,bne_self_eq_false,if_false];exact wpAny_pure (h _ hm (ux d1 d3))
theorem KZ {l:Addr}{vs:List Value}{Q:Value->Shared->Prop}{p1 p2 g:Value->Int}(hl:s.heap.IsList l vs.toArray)(hR:lQ s p1 p2 g vs)(hlen:vs.length<64)
  (h:∀xs:Array Value,xs.toList.Perm vs->(xs.toList.map g).Pairwise (· < ·)->Q (.ref (s.heap.objs.size+1)) { s with heap:=sortedAll s.heap vs xs }):wpAny (model prog w) A (call (.builtin "sorted") [.ref l]) Q E s:=by
 refine Calls.call_function_entry kind_sorted plain_sorted entry_sorted (args_sorted1 (.ref l)) ?_;unfold Builtin.«sorted»;refine wpAny_bind (m:=checkCount "sorted" 1 1 _) (wpAny_pure (wpAny_bind (collect_list hl (wpAny_bind (wpAny_newList ?_)))));have hz:((s.heap.push (seqObj "list" #[] 0)).update s.heap.objs.size (Obj.mapSeq (· ++ vs.toArray))).objs.size=s.heap.objs.size+1:=size_update .. |>.trans (size_push' _ _);have hL:(((s.heap.push (seqObj "list" #[] 0)).update s.heap.objs.size (Obj.mapSeq (· ++ vs.toArray))).push (seqObj "list" vs.toArray 0)).get? (s.heap.objs.size+1)=some (seqObj "list" vs.toArray 0):=hz ▸ get?_push_size _ rfl;show wpAny (model prog w) A.in1 _ _ E { s with heap:=((s.heap.push (seqObj "list" #[] 0)).update s.heap.objs.size (Obj.mapSeq (· ++ vs.toArray))).push (seqObj "list" vs.toArray 0) };rw[hz];refine wpAny_bind (wpAny_holding (wpAny_call_entry slot_list_sort ⟨_,hL,rfl⟩ entry_list_sort (Ss hL (hR.keep fun q o hq hc=>?_) hlen fun xs hp ho=>⟨_,rfl,wpAny_pure ⟨_,rfl,h xs hp ho⟩⟩) (args_list_sort _)));have hne:s.heap.objs.size≠q:=fun z=>by
  exact ne_of_lt (lt_size hq) z.symm
 exact get?_push_of_some _ ((get?_update_other _ _ hne).trans (get?_push_of_some _ hq))
end
end SRT
namespace L2
open PySem PySem.Spec PyProof.Rows
noncomputable def Uk:List V->Hp->VK->Prop:=fun vs H Q=>∃(l:Addr)(ps:List Addr)(k1 k2:Addr->Int),vs=[.ref l]/\H l=some (.lst (ps.map V.ref))/\ps.length<64 /\
 (∀p∈ps,H p=some (.tup [.int (k1 p),.int (k2 p)])/\-1099511627776<k2 p/\k2 p<1099511627776)/\(ps.map fun p=>k1 p*2199023255552+k2 p).Nodup /\
 ∀(d:Addr)(qs:List Addr),H d=none->qs.Perm ps->(qs.Pairwise fun p q=>k1 p<k1 q\/(k1 p=k1 q/\k2 p<k2 q))->Q (.ref d) (upd H d (.lst (qs.map V.ref)))
section
variable {X:Cx}
theorem Ay:cN X (.builtin "sorted") Uk:=by
 intro pins s σ H xs us Q I rv h;obtain⟨l,ps,k1,k2,rfl,el,hl,hp,hnd,q⟩:=h;cases rv with
 | cons r rr=>
  cases rr;cases r;obtain⟨its,rl,pl,hz⟩:=I.list (SqL.of el);have e:=gm rl;subst e;refine SRT.KZ (p1:=rkP k1) (p2:=rkP k2) (g:=rkP fun p=>k1 p*2199023255552+k2 p) pl.isList ⟨fun v hv=>?_,fun x hx y hy=>?_,?_⟩ (by rw[length_map];exact hl) fun ys hy ho=>?_
  ·obtain⟨p,hm,rfl⟩:=mem_map.mp hv;obtain⟨ep,_⟩:=hp p hm;obtain⟨ts,rt,pt,_⟩:=I.tuple (SqT.of ep);obtain⟨ob,g1,g2,n,g3⟩:=pt;cases rt with
   | cons r1 rt=>
    cases rt with
    | cons r2 rt=>
     cases rt;obtain⟨t,rfl⟩:=r1;obtain⟨u,rfl⟩:=r2;exact⟨p,ob,n,t,u,rfl,g1,g2,g3⟩
  ·obtain⟨p,mp,rfl⟩:=mem_map.mp hx;obtain⟨p',mp',rfl⟩:=mem_map.mp hy;have b1:=(hp p mp).2;have b2:=(hp p' mp').2;show k1 p*2199023255552+k2 p<k1 p'*2199023255552+k2 p'↔k1 p<k1 p'\/k1 p=k1 p'/\k2 p<k2 p';omega
  ·rw[map_map];exact hnd
  obtain⟨qs,e,hq⟩:=tL hy;rw[e,map_map] at ho;have ho2:qs.Pairwise fun p q=>k1 p<k1 q\/(k1 p=k1 q/\k2 p<k2 q):=(pairwise_map.mp ho).imp_of_mem fun {p p'} mp mp' z=>by
   have b1:=(hp p (hq.mem_iff.mp mp)).2;have b2:=(hp p' (hq.mem_iff.mp mp')).2;replace z:k1 p*2199023255552+k2 p<k1 p'*2199023255552+k2 p':=z;omega
  obtain⟨n,he⟩:=sortedAll_at s.heap (ps.map Value.ref) ys;have le:s.heap.objs.size<=s.heap.objs.size+1:=le_succ _;have hf:H (s.heap.objs.size+1)=none:=I.hok.fresh le;refine⟨.ref (s.heap.objs.size+1),_,I.laid (t':=s.toks) (fun c o z=>sortedAll_old z) le (show bI X.prog X.w _ _ _ (.lst (qs.map V.ref)) from⟨aK (by rw[length_map,hq.length_eq];omega),qs.map Value.ref,n,nF qs,?_⟩),rfl,q _ qs hf hq ho2⟩;rw[he];have:ys=(qs.map Value.ref).toArray:=by rw[<- e]
  rw[this]
end
noncomputable def plT (ss:Sts)(zs:List Int)(lab:Int):List Nat->Pl
 | []=>.pick lab
 | k::r=>if isT ss zs k=true then .one k (plT ss zs lab r) else .wit k (plT ss zs lab r)
theorem Pk (ss:Sts)(zs:List Int)(lab:Int):∀l,plD (plT ss zs lab l)=iW ss zs lab l
 | []=>rfl
 | k::r=>by
  have ih:=Pk ss zs lab r;show plD (if isT ss zs k=true then .one k (plT ss zs lab r) else .wit k (plT ss zs lab r))=.tuple [.str (cX ss zs k),.int (k:Int),iW ss zs lab r];unfold cX;split
  ·rw[<- ih];rfl
  rw[<- ih];rfl
theorem Cd (ss:Sts)(zs:List Int)(lab:Int):∀l,bG (plT ss zs lab l)=l.length+1
 | []=>rfl
 | k::r=>by
  have ih:=Cd ss zs lab r;unfold plT;split
  ·show bG (plT ss zs lab r)+1=_;rw[ih];rfl
  show bG (plT ss zs lab r)+1=_;rw[ih];rfl
theorem Lf.less {ss:Sts}{left:List Nat}{k m:Nat}(h:Lf ss left)(hm:m∈left)(hk:m≠k):Lf ss (left.filter (·≠k))/\m∈left.filter (·≠k):=by
 have hm2:m∈left.filter (·≠k):=mem_filter.mpr ⟨hm,by simpa using hk⟩;exact⟨⟨List.ne_nil_of_mem hm2,fun a ha=>h.lt a (mem_filter.mp ha).1,h.up.filter _⟩,hm2⟩
theorem Ik {ss:Sts}{zs:List Int}{lab:Int}{m:Nat}:∀{l left:List Nat},Lf ss left->m∈left->m∉l->v7 ss (plT ss zs lab l) left
 | [],_,h,_,_=>h
 | k::r,left,h,hm,hn=>by
  have hk:m≠k:=fun z=>hn (z ▸ mem_cons_self ..);have hr:m∉r:=fun z=>hn (mem_cons_of_mem _ z);obtain⟨h1,h2⟩:=h.less hm hk;have ih:=Ik (zs:=zs) (lab:=lab) (l:=r) h1 h2 hr;unfold plT;split
  ·exact⟨h,ih⟩
  exact⟨h,ih⟩
noncomputable def fC (ss:Sts)(ws zs:List Int):Int->List Nat->Int
 | _,[]=>0
 | W,k::r=>W*b7 ss zs k+fC ss ws zs (W-ws.getD k 0) r
theorem sS {ws:List Int}{k:Nat}:∀{left:List Nat},left.Pairwise (· < ·)->k∈left->sumK ws (left.filter (·≠k))=sumK ws left-ws.getD k 0
 | [],_,h=>(nomatch h)
 | a::l,h,hk=>by
  rw[pairwise_cons] at h;have c:∀(x:Nat)(y:List Nat),sumK ws (x::y)=ws.getD x 0+sumK ws y:=fun x y=>by unfold sumK;rw[map_cons,sum_cons]
  by_cases e:a=k
  ·subst e;have:(a::l).filter (·≠a)=l:=by
    rw[List.filter_cons_of_neg (by simp)];exact List.filter_eq_self.mpr fun b hb=>by have:=h.1 b hb;simp;omega
   rw[this,c];omega
  have hk2:k∈l:=by
   rcases mem_cons.mp hk with z|z
   ·exact absurd z.symm e
   exact z
  rw[List.filter_cons_of_pos (by simpa using e),c,c,sS h.2 hk2];omega
theorem xj {ss:Sts}{ws zs:List Int}{lab:Int}:∀{l left:List Nat},left.Pairwise (· < ·)->l.Nodup->(∀k∈l,k∈left)->jT ss (dH ws zs) (plT ss zs lab l) left=fC ss ws zs (sumK ws left) l
 | [],_,_,_,_=>rfl
 | k::r,left,h,hn,hin=>by
  rw[nodup_cons] at hn;have hk:=hin k (mem_cons_self ..);have ih:=xj (ss:=ss) (ws:=ws) (zs:=zs) (lab:=lab) (l:=r) (left:=left.filter (·≠k)) (h.filter _) hn.2 fun a ha=>mem_filter.mpr ⟨hin a (mem_cons_of_mem _ ha),by simpa using fun(z:a=k)=>hn.1 (z ▸ ha)⟩;rw[sS h hk] at ih;show _=sumK ws left*b7 ss zs k+fC ss ws zs (sumK ws left-ws.getD k 0) r;rw[<- ih];rw[plT.eq_2];unfold b7;split
  ·show zs.getD 0 0*sumK ws left+jT ss (dH ws zs) (plT ss zs lab r) (left.filter (·≠k))=_;rw[mul_comm]
  show zs.getD 1 0*sumK ws left+jT ss (dH ws zs) (plT ss zs lab r) (left.filter (·≠k))=_;rw[mul_comm]
theorem wD:∀(ws:List Int),sumK ws (List.range ws.length)=ws.sum:=fun ws=>by
 unfold sumK;congr 1;refine ext_getElem (by simp) fun i h1 h2=>?_;simp at h1 h2;simp [h1]
theorem vL (elt tg iter:Expr)(ifs:List Expr)(scope:Scope)(pos:Pos)(it acc:Value)(env:Env) :
  compTurn (.SetComp elt [⟨tg,iter,ifs,0⟩] scope pos) 0 it acc env=(do
   standAt iter.pos
   match <- pyNext it with
   | none=>pure (.done .next)
   | some v=>
    letOwnedTupleGo tg it v
    assign tg env v
    let mut ok:=true
    for c in ifs do
     if ok then ok <- isTrue c env (eval c env)
    if ok then
     (do
      let v <- eval elt env
      standAt elt.pos
      let _ <- call (.builtin "set.add") [acc,v])
    again (.compLoop (.SetComp elt [⟨tg,iter,ifs,0⟩] scope pos) 0 it acc env)):=by rfl
section
variable {prog:Program}{w:World}{A:Around}{R:Result->Shared->Prop}{s:Shared}
theorem Aw {elt tg iter:Expr}{ifs:List Expr}{scope:Scope}{pos:Pos}{it acc:Value}{env:Env}(J:Nat->Shared->Prop)
  (turn:∀n s,J n s->wpAny (model prog w) A (pyNext it) (fun r s1=>match r with
   | none=>R (.ok .next) s1
   | some v=>wpAny (model prog w) A (letOwnedTupleGo tg it v) (fun _ s1'=>wpAny (model prog w) A (assign tg env v) (fun _ s2=>
     wpAny (model prog w) A (forIn ifs true fun c r=>if r=true then do let ok <- isTrue c env (eval c env);pure (ForInStep.yield ok) else pure (ForInStep.yield r)) (fun ok s3=>
      if ok=true then wpAny (model prog w) A (eval elt env) (fun x s4=>
       wpAny (model prog w) A (call (.builtin "set.add") [acc,x]) (fun _ s5=>∃m,m<n/\J m s5) (notedBy (model prog w) A env fun e z=>R (.error e) z) s4) (notedBy (model prog w) A env fun e z=>R (.error e) z) s3
      else ∃m,m<n/\J m s3) (notedBy (model prog w) A env fun e z=>R (.error e) z) s2) (notedBy (model prog w) A env fun e z=>R (.error e) z) s1') (notedBy (model prog w) A env fun e z=>R (.error e) z) s1) (notedBy (model prog w) A env fun e z=>R (.error e) z) s)
  (n:Nat) (h:J n s):codeAny (model prog w) A (.compLoop (.SetComp elt [⟨tg,iter,ifs,0⟩] scope pos) 0 it acc env) R s:=by
 refine codeAny_loop rfl J (fun n z hJ=>?_) n h;show wpAny _ A ((compTurn (.SetComp elt [⟨tg,iter,ifs,0⟩] scope pos) 0 it acc env).onRaise (fun y=>do noteFrame y env;theTreesLotGoes y)) _ _ z;refine wpAny_noted ?_;rw[vL];refine wpAny_bind (wpAny_standAt (wpAny_bind (wpAny_mono (turn n z hJ) (fun r s1 h1=>?_) fun _ _ q=>q)));cases r with
 | none=>exact wpAny_pure h1
 | some v=>
  refine wpAny_bind (wpAny_mono h1 (fun _ s1' h1'=>?_) fun _ _ q=>q);refine wpAny_bind (wpAny_mono h1' (fun _ s2 h2=>wpAny_bind (wpAny_mono h2 (fun ok s3 h3=>?_) fun _ _ q=>q)) fun _ _ q=>q);cases ok with
  | false=>exact wpAny_pure ⟨rfl,h3⟩
  | true=>
   exact wpAny_bind (wpAny_bind (wpAny_mono h3 (fun x s4 h4=>wpAny_bind (wpAny_standAt (wpAny_bind (wpAny_mono h4 (fun _ s5 h5=>wpAny_pure (wpAny_pure ⟨rfl,h5⟩)) fun _ _ q=>q)))) fun _ _ q=>q))
theorem rZ {elt target iter ifs rest scope pos it acc env}
  (h0:codeAny (model prog w) A (.compLoop (.SetComp elt (⟨target,iter,ifs,0⟩::rest) scope pos) 0 it acc env) R s)
  (h:wpAny (model prog w) A (pyIter it) (fun it' s'=>codeAny (model prog w) A (.compLoop (.SetComp elt (⟨target,iter,ifs,0⟩::rest) scope pos) 0 it' acc env) R s')
   (notedBy (model prog w) A env fun x s'=>R (.error x) s') s) :
  codeAny (model prog w) A (.compStart (.SetComp elt (⟨target,iter,ifs,0⟩::rest) scope pos) 0 it acc env) R s:=by
 refine codeAny_of_tree ?_;show wpAny _ A ((compStart (.SetComp elt (⟨target,iter,ifs,0⟩::rest) scope pos) 0 it acc env).onRaise (fun y=>do noteFrame y env;standAt theWindowsPlace)) _ _ s;refine wpAny_notedAt ?_;unfold compStart;change wpAny _ A (ask >>= _) _ _ s;refine wpAny_bind (wpAny_askSetting (wpAny_ite ?_));split
 ·first
   | exact wpAny_bind (wpAny_pure (wpAny_pure ⟨rfl,h0⟩))
   | exact wpAny_pure ⟨rfl,h0⟩
 first
  | exact wpAny_bind (wpAny_rule (wpAny_bind (wpAny_standAt (wpAny_bind (wpAny_mono h (fun it' s' h'=>wpAny_pure ⟨rfl,h'⟩) fun _ _ q=>q)))))
  | (refine wpAny_bind (wpAny_rule ?_);change wpAny _ _ (standAt iter.pos >>= _) _ _ s;exact wpAny_bind (wpAny_standAt (wpAny_bind (wpAny_mono h (fun it' s' h'=>wpAny_pure ⟨rfl,h'⟩) fun _ _ q=>q))))
end
end L2
namespace SRT
open PySem PyProof.Rows
section
variable {prog:Program}{w:World}{K:Type}[DecidableEq K]{knd:KeyKind prog w K}{A:Around}{E:Value->Shared->Prop}{s:Shared}{b:Bool}{a:Addr}
theorem SetT.ty {S:K->Bool}{n:Nat}(hS:SetT knd b s.heap a S n):s.TypeIs (.ref a) "set" :=
 let ⟨o,_,_,_,ho,hx,_⟩:=hS;⟨o,ho,hx.1⟩
theorem FJ {S:K->Bool}{n:Nat}{k:K}{x:Value}{Q:Value->Shared->Prop}(hx:knd.is k x=true)(hsc:x.scannable=true)(hS:SetT knd b s.heap a S n)(hr:n+1<scanBound)
  (h:∀h',Heap.SameBut a s.heap h'->SetT knd b h' a (fun k'=>S k'||decide (k'=k)) (if S k then n else n+1)->Q .none { s with heap:=h',toks:=s.toks+1 }) :
  wpAny (model prog w) A (call (.builtin "set.add") [.ref a,x]) Q E s:=
 wpAny_call_entry F.slot_set_add hS.ty F.entry_set_add (by
  simp only[Builtin.«set.add»,Builtin.Frozenset.oneOther,List.isEmpty_nil,bind_assoc,Builtin.Frozenset.addrOf,setAdd];refine wpAny_bind (wpAny_pure (wpAny_bind (wpAny_pure (wpAny_bind (wpAny_holding (wpAny_bind (knd.pyHash hx ?_)))))));exact wH (s:={ s with toks:=s.toks+1 }) hx hsc hS hr fun h' c d=>wpAny_pure ⟨_,rfl,h h' c d⟩) (F.args_set_add_2 _ _)
end
end SRT
namespace L2
open PySem PySem.Spec PyProof.Rows
section
variable {prog:Program}{w:World}{A:Around}{E:Value->Shared->Prop}{s:Shared}
theorem Jh {Q:Value->Shared->Prop}(h:Q (.ref s.heap.objs.size) { s with heap:=s.heap.push (SRT.lX w) }):wpAny (model prog w) A (newSet (.type "set")) Q E s:=by
 unfold newSet setsByText;refine wpAny_bind (wpAny_bind (wpAny_askSetting (wpAny_pure ?_)));dsimp only;simp only[newObj];exact wpAny_newObj_type h
theorem BL {K:Type}[DecidableEq K]{knd:KeyKind prog w K}{b:Bool}{h:Heap}{a:Addr}{S:K->Bool}{n:Nat}(hS:SRT.SetT knd b h a S n) :
  ∃o,h.get? a=some o/\(∃es ep t,o.data=.set es ep t)/\∀h' a',h'.get? a'=some o->SRT.SetT knd b h' a' S n:=by
 obtain⟨o,es,ep,t,ho,hx,hd,r⟩:=hS;exact⟨o,ho,⟨es,ep,t,hd⟩,fun h' a' e=>⟨o,es,ep,t,e,hx,hd,r⟩⟩
end
noncomputable def lO (acc:List Int)(k:Int):List Int:=if acc.any (· == k) then acc else acc++[k]
theorem Bl {acc:List Int}(k:Int)(h:acc.Nodup):(lO acc k).Nodup:=by
 unfold lO;split
 ·exact h
 rename_i q;refine List.nodup_append.mpr ⟨h,by simp,fun a ha b hb e=>q ?_⟩;simp only[mem_singleton] at hb;subst hb;subst e;simpa using ha
theorem Kq (acc:List Int)(k j:Int):(lO acc k).any (· == j)=(acc.any (· == j)||decide (j=k)):=by
 unfold lO;split
 ·rename_i q;by_cases e:j=k
  ·subst e;simp [q]
  simp [e]
 rw[List.any_append];congr 1;simp [Bool.beq_eq_decide_eq,eq_comm]
theorem qY (acc:List Int)(k:Int):(lO acc k).length=if acc.any (· == k) then acc.length else acc.length+1:=by
 unfold lO;split <;> simp
noncomputable def Qd (mp:List (Option Nat))(wi:TI)(g:TG)(tc:TT)(te:TE):TE:=fun σ H Q=>wi σ H fun J H1=>
 ∃W:Nat->Nat->List Int->St->Hp->Prop,(∃m,W 0 m [] (fY mp σ) H1)/\∀i m acc τ H2,W i m acc τ H2 ->
  (J.stop i H2/\∀d (ys:List Int),H2 d=none->acc.Nodup->ys.Perm acc->(acc.length<64->ys.Pairwise (·<=·))->Q (.ref d) (upd H2 d (.lst (ys.map V.int)))) \/
  (J.go i H2/\acc.length<63/\∃N:List Int->St->Hp->Prop,(∀acc' τ' H',N acc' τ' H'->∃m',m'<m/\W (i+1) m' acc' τ' H')/\∀x H3,J.yld i H2 x H3->g x τ H3 fun τ1 H4=>tc τ1 H4 fun b H5=>
   if b=true then te τ1 H5 fun v H6=>∃k:Int,v=.int k/\N (lO acc k) τ1 H6 else N acc τ1 H5)
section
variable {X:Cx}{NX N:List Str}{kX:List (Str×NameKind)}{mp:List (Option Nat)}{scope:Scope}
set_option maxHeartbeats 8000000 in
theorem Ru {tg iter elt:Expr}{ifs:List Expr}{p pos pos2:Pos}{wi:TI}{g:TG}{tc:TT}{te:TE}(N:List Str) (mp:List (Option Nat)) (hgl:Gl X "sorted") (hml:X.mg "sorted" = none) (hNX:X.N=NX) (hkX:X.env.scope.names=kX) (S:oF NX kX N mp scope) (hc:X.calm=true)
  (hi:PI X tg iter wi) (hg:∀cl C s H fp,PG (aW X N scope cl C s H fp) tg g) (ht:∀cl C s H fp,PTs (aW X N scope cl C s H fp) ifs tc) (he:∀cl C s H fp,PE (aW X N scope cl C s H fp) elt te)
  (hse:starEach [.SetComp elt [⟨tg,iter,ifs,0⟩] scope pos2] X.env=[(false,eval (.SetComp elt [⟨tg,iter,ifs,0⟩] scope pos2) X.env)]:=by rfl)
  (hs:∀x,foldedSetIterable iter X.env x=pure x:=by intro _;rfl):PE X (.Call (.Name "sorted" p) [.SetComp elt [⟨tg,iter,ifs,0⟩] scope pos2] [] pos) (Qd mp wi g tc te):=by
 intro pins s σ H Q I h;refine wpAny_Call_Name_kw (eU I hgl hml PyProof.Rows.boot_sorted ?_ δ δ);refine PyProof.Rows.callWith_builtin1 ?_ hse rfl;rw[hse];show wpAny _ _ (spliced ((false,eval (.SetComp elt [⟨tg,iter,ifs,0⟩] scope pos2) X.env)::[])) _ _ s;refine Calls.spliced_cons ?_;obtain⟨cl,hcl,hsub,hhas⟩:=vO (env:=X.env) (scope:=scope) fun y hy hf=>I.ok.has y.1 (by
  rcases S.fre y hy hf with q|q
  ·exact .inl (show X.env.scope.names.lookup y.1=_ by rw[hkX];exact q)
  exact .inr (show X.env.scope.names.lookup y.1=_ by rw[hkX];exact q))
 let QQ:Value->Shared->Prop:=fun v s'=>∃D H' acc,v=.ref D/\Inv X pins σ H' s'/\SRT.SetT (intKind X.prog X.w) (!SRT.bt X.w) s'.heap D (fun k=>acc.any (· == k)) acc.length/\acc.Nodup/\acc.length<=63 /\
  ∀d (ys:List Int),H' d=none->acc.Nodup->ys.Perm acc->(acc.length<64->ys.Pairwise (·<=·))->Q (.ref d) (upd H' d (.lst (ys.map V.int)))
 refine thn (Q:=QQ) ?aa fun v s9 hq=>?bb
 case bb=>
  obtain⟨D,H9,acc,rfl,I9,hS,nd,hle,q⟩:=hq;refine Calls.spliced_nil ?_;refine SRT.wG (I9.ok.hd hc) hS nd (Nat.lt_succ_of_le hle) fun s3 L ys ns k gL iL pL oL k3 g3 o3 l3=>?_;have hf:H9 L=none:=I9.hok.fresh l3;obtain⟨h3,g3',d3,t3,o3'⟩:=s3;cases g3;cases o3;have hl:ns.length<=sizeLine:=by
   rw[pL.length_eq];exact le_trans hle δ
  exact⟨.ref L,_,((I9.drawn d3).laid (t':=t3) (h':=h3) k3 l3 (show bI X.prog X.w _ h3 _ (.lst (ns.map V.int)) from⟨by simpa using hl,ys,k,nO iL,gL⟩)),rfl,q L ns hf nd pL oL⟩
 rw[arm_eval_SetComp];refine wpAny_comprehension_free (use:=none) rfl hs hcl S.kind S.locs ?_;refine thn (hi pins s σ H _ I h) fun v s1 h1=>thn h1 fun itv s2 h2=>?_;obtain⟨it,fp,tn,J,H2,e,I2,T,st2,f2,W,⟨m0,w0⟩,turn⟩:=h2;subst e;refine Jh (wpAny_newFunctionEnv S.nocell (by intro y hy;simp at hy) (fun h3 hns hsb=>?_) S.kind);dsimp only at hns hsb |-;have hold:∀b∈fp,b<s2.heap.objs.size:=fun b hb=>by
  obtain⟨o,q,_⟩:=T.obj _ _ st2 b hb;exact lt_size q
 generalize hD:s2.heap.objs.size=D at hns hsb;generalize hH2:s2.heap.push (SRT.lX X.w)=P2 at hns hsb |-;have hC:P2.objs.size=D+1:=by rw[<- hH2,size_push,hD]
 generalize hC':P2.objs.size=C at hns hsb |-;rw[hC'] at hC;have old:∀b o,s2.heap.get? b=some o->h3.get? b=some o:=fun b o q=>by
  have hb:=lt_size q;exact hsb.extBut b o (na1 hb hD hC) (get?_push_of_some _ (hH2 ▸ get?_push_of_some _ q))
 have accD:h3.get? D=some (SRT.lX X.w):=
  hsb.extBut _ _ (na2 hC) (get?_push_of_some _ (by rw[<- hH2,<- hD];exact get?_push_size _ rfl))
 have hfr:D∉frs X.stack:=fun z=>by
  rcases mem_cons.mp (I2.lg D z) with q|q
  ·exact na0 I2.lt hD q.symm
  exact I2.Nv (na4 hD) q
 have I0:Inv (aW X N scope cl C s2 H2 fp) [(D,(SRT.lX X.w))] (fY mp σ) H2 { s2 with heap:=h3,toks:=s2.toks+([]:List (Str×Value)).length }:=
  vN (s':={ s2 with heap:=h3,toks:=s2.toks+([]:List (Str×Value)).length }) hNX hkX S I2 f2 hold (na3 hD hC) hsub hhas rfl rfl ⟨_,hns⟩ old fun p hp=>by
   have ep:=mem_singleton.mp hp;subst ep;exact⟨accD,I2.hok.fresh (na4 hD),na2 hC,hfr,fun v z=>by cases z⟩
 have T0:tn 0 h3:=T.keep _ _ _ st2 fun b _ o q=>old b o q;have S0:SRT.SetT (intKind X.prog X.w) (!SRT.bt X.w) h3 D (fun k=>([]:List Int).any (· == k)) ([]:List Int).length:=
  ⟨_,#[],0,_,accD,⟨rfl,rfl,rfl⟩,rfl,⟨fun e he=>by simp at he,fun k=>by simp,δ⟩,by rfl,rfl,SRT.sI _ _ _⟩
 have loop:∀z:Shared,z={ s2 with heap:=h3,toks:=s2.toks+([]:List (Str×Value)).length } ->
   codeAny (model X.prog X.w) X.A (.compLoop (.SetComp elt [⟨tg,iter,ifs,0⟩] scope pos2) 0 (.ref it) (.ref D) (compEnvC scope cl C X.env))
    (compPost (model X.prog X.w) X.A X.xe none QQ (.ref D) C) z:=by
  rintro z rfl;have stat:∀{H':Hp}{pl:List (Addr×Obj)},(∀b∈fp,H' b=none)->(∀p∈pl,p.1=D)->∀b∈fp,gR (aW X N scope cl C s2 H2 fp) pl H' b:=fun hn hp b hb=>by
   have hb2:=hold b hb;refine⟨hn b hb,na1 hb2 hD hC,(vM hkX S I2 f2 hold (na3 hD hC) hsub hhas).exfs b hb,.inl hb,fun x c q=>(f2 b hb).2.2.2.2.1 x c (hsub x c q),fun p hpp=>?_⟩;have hpD:=hp p (by simpa [aW] using hpp);rw[hpD];exact(na0 hb2 hD).symm
  obtain⟨ob0,go0,_,so0⟩:=BL S0;rw[accD] at go0;cases go0;refine Aw (env:=compEnvC scope cl C X.env) (fun n z=>∃i acc τ H' o,Inv (aW X N scope cl C s2 H2 fp) [(D,o)] τ H' z/\(∀h' a',h'.get? a'=some o->SRT.SetT (intKind X.prog X.w) (!SRT.bt X.w) h' a' (fun k=>acc.any (· == k)) acc.length)/\tn i z.heap/\(∀b∈fp,H' b=none)/\acc.Nodup/\acc.length<=63/\W i n acc τ H')
   ?_ m0 ⟨0,[],_,H2,_,I0,so0,T0,fun b hb=>(f2 b hb).1,.nil,zero_le _,w0⟩
  rintro n s5 ⟨i,acc,τ,H5,ob,I5,dob,st5,fr5,nd,hz,w5⟩;rcases turn i n acc τ H5 w5 with⟨stop,qn⟩|⟨go,hz2,N9,hN9,step⟩
  ·refine thn (T.done (aW X N scope cl C s2 H2 fp) rfl rfl rfl hc i _ s5 τ H5 _ I5 (stat fr5 (by simp)) st5 stop) fun r s6 ⟨hr,I6⟩=>?_;subst hr;obtain⟨m6,hn6,_⟩:=I6.loc;refine⟨m6,hn6,fun h' sb=>?_⟩;obtain⟨dD,nD,_,_,_⟩:=I6.pin (D,_) (mem_append_right _ (mem_singleton.mpr rfl));have U:=I6.base;have nC:H5 C=none:=I6.free;have ne:∀b o,s2.heap.get? b=some o->b≠C:=fun b o q=>na1 (lt_size q) hD hC;have keepC:∀b o,b≠C->s6.heap.get? b=some o->h'.get? b=some o:=fun b o hb q=>(sb.2 b hb).trans q;have U':Un (frs X.stack) fp H2 H5 s2.heap h':=by
    refine⟨fun b o q n1 hb hx=>keepC b o (ne b o q) (U.keep b o q n1 hb hx),fun b o q n1 hb hx=>?_,U.free,fun b o q hx=>?_,U.tups,U.frzs,U.tbls⟩
    ·obtain⟨sl,z⟩:=U.slot b o q n1 hb hx;exact⟨sl,keepC b _ (ne b o q) z⟩
    obtain⟨o',z⟩:=U.there b o q hx;exact⟨o',keepC b _ (ne b o q) z⟩
   have hok:HOk X.prog X.w H5 h':=fun b u q=>by
    refine(I6.hok b u q).stay (fun c v hcc z=>keepC c v ?_ z) (fun c z=>z) fun c xs z=>z;rcases hcc with z1|z1
    ·subst z1;exact aD q nC
    exact aD z1 nC
   have I7:Inv X pins σ H5 { s6 with heap:=h' }:=I2.call' (s':={ s6 with heap:=h' }) (ch:=fp) I6.os U' hok I6.bare fun b hb=>by
    obtain⟨_,a2,_,a4,a5,a6⟩:=f2 b hb;exact⟨a4,a2,a5,a6⟩
   exact⟨D,H5,acc,rfl,I7,dob h' D (keepC _ _ (na2 hC) dD),nd,hz,qn⟩
  refine thn (T.item (aW X N scope cl C s2 H2 fp) rfl rfl rfl hc i _ s5 τ H5 _ I5 (stat fr5 (by simp)) st5 go) fun r s6 ⟨u,hr,h6⟩=>?_;subst hr;refine thn h6 fun _ s7 ⟨x,H7,I7,r7,y7,st7,fr7⟩=>?_;have I7':=I7.pinned (stat fr7 (by simp)) (T.obj _ _ st7);have no:∀{α:Type}{t:Sem α}{Q1 Q2:α->Shared->Prop}{E:Value->Shared->Prop}{z:Shared},wpAny (model X.prog X.w) X.A t Q1 (fun _ _=>False) z->(∀a z,Q1 a z->Q2 a z)->wpAny (model X.prog X.w) X.A t Q2 E z:=
   fun q f=>wpAny_mono q f fun _ _ z=>z.elim
  refine no (hg cl C s2 H2 fp _ s7 τ H7 x u _ I7' r7 (step x H7 y7)) fun _ s8 ⟨τ1,H8,I8,q8⟩=>?_;refine no (ht cl C s2 H2 fp _ s8 τ1 H8 _ I8 q8) fun ok s9 ⟨H9,I9,q9⟩=>?_;have again:∀{H':Hp}{z:Shared}{o':Obj},Inv (aW X N scope cl C s2 H2 fp) ([(D,o')]++fG fp s7.heap) τ1 H' z ->
    tn (i+1) z.heap/\(∀b∈fp,H' b=none)/\Inv (aW X N scope cl C s2 H2 fp) [(D,o')] τ1 H' z:=fun {H' z o'} Iz=>by
   have get:∀b∈fp,∀o,s7.heap.get? b=some o->z.heap.get? b=some o/\H' b=none:=fun b hb o q=>by
    obtain⟨a1,a2,_⟩:=Iz.pin (b,o) (mem_append_right _ (mem_append_right _ (gH hb q)));exact⟨a1,a2⟩
   refine⟨T.keep _ _ _ st7 fun b hb o q=>(get b hb o q).1,fun b hb=>?_,Iz.iC⟩;obtain⟨o,q,_⟩:=T.obj _ _ st7 b hb;exact(get b hb o q).2
  cases ok with
  | false=>
   rw[if_neg Bool.false_ne_true] at q9 |-;obtain⟨m',hm,w9⟩:=hN9 _ _ _ q9;obtain⟨a1,a2,a3⟩:=again I9;exact⟨m',hm,i+1,acc,τ1,H9,ob,a3,dob,a1,a2,nd,hz,w9⟩
  | true=>
   rw[if_pos rfl] at q9 |-;refine no (he cl C s2 H2 fp _ s9 τ1 H9 _ I9 q9) fun y s10 ⟨v,H10,I10,rv,kk,ek,q10⟩=>?_;subst ek;obtain⟨tk,rfl⟩:=rv;obtain⟨m',hm,w10⟩:=hN9 _ _ _ q10;obtain⟨a1,a2,a3⟩:=again I10;obtain⟨dD,nD,_,_,_⟩:=a3.pin (D,_) (mem_append_right _ (mem_singleton.mpr rfl));refine SRT.FJ (knd:=intKind X.prog X.w) (intKind_is _ _ kk tk) rfl (dob _ _ dD) (by simp only[scanBound];omega) fun h' sb dd=>?_;obtain⟨o',g1,⟨es',ep',t',g2⟩,g3⟩:=BL (dd.congr (S':=fun k=>(lO acc kk).any (· == k)) (n':=(lO acc kk).length) (fun k=>(Kq acc kk k).symm) (qY acc kk).symm);have a4:Inv (aW X N scope cl C s2 H2 fp) (fG fp s7.heap) τ1 H10 s10:=I10.gW fun p hp=>I10.pin p (mem_append_right _ (mem_append_right _ hp));have a5:Inv (aW X N scope cl C s2 H2 fp) (fG fp s7.heap) τ1 H10 { s10 with heap:=h',toks:=s10.toks+1 }:=
    a4.turned (it:=D) (fun b o hb z=>(sb.2 b hb).trans z) nD (na2 hC) (.inr (na4 hD))
     (fun x c z=>by
      obtain⟨_,o,h1,_⟩:=I2.cell x c (hsub x c z);exact na0 (lt_size h1) hD) fun p hp=>by
      have hb:=(jO (by simpa [aW] using hp)).1;exact na0 (hold _ hb) hD
   have b1:tn (i+1) h':=T.keep _ _ _ a1 fun b hb o z=>(sb.2 b (na0 (hold b hb) hD)).trans z;have hpl:(lO acc kk).length<=63:=by rw[qY];split <;> omega
   refine⟨m',hm,i+1,lO acc kk,τ1,H10,o',a5.gW fun p hp=>?_,g3,b1,a2,Bl kk nd,hpl,w10⟩;have ep:=mem_singleton.mp hp;subst ep;exact⟨g1,nD,na2 hC,hfr,fun v z=>by rw[g2] at z;cases z⟩
 have e1:{ newEnv scope C X.env.globals cl X.env.qual none .none (some X.env) X.env.builtins with scope:=relabel scope X.env }=compEnvC scope cl C X.env:=rfl;exact rZ (loop _ rfl) (T.self _ 0 _ _ _ T0 (loop _ rfl))
theorem Q5 {tg iter elt:Expr}{ifs:List Expr}{p pos pos2:Pos}{wi:TI}{g:TG}{tc:TT}{te:TE}(N:List Str) (mp:List (Option Nat)) (hgl:Gl X "sorted") (hml:X.mg "sorted" = none) (hNX:X.N=NX) (hkX:X.env.scope.names=kX) (S:oF NX kX N mp scope) (hc:X.calm=true)
  (hi:QI X tg iter wi) (hg:∀cl C s H fp,QG (aW X N scope cl C s H fp) tg g) (ht:∀cl C s H fp,QC (aW X N scope cl C s H fp) ifs tc) (he:∀cl C s H fp,QE (aW X N scope cl C s H fp) elt te)
  (hse:starEach [.SetComp elt [⟨tg,iter,ifs,0⟩] scope pos2] X.env=[(false,eval (.SetComp elt [⟨tg,iter,ifs,0⟩] scope pos2) X.env)]:=by rfl)
  (hs:∀x,foldedSetIterable iter X.env x=pure x:=by intro _;rfl):QE X (.Call (.Name "sorted" p) [.SetComp elt [⟨tg,iter,ifs,0⟩] scope pos2] [] pos) (Qd mp wi g tc te):=
 ⟨Ru N mp hgl hml hNX hkX S hc hi.h (fun cl C s H fp=>(hg cl C s H fp).h) (fun cl C s H fp=>(ht cl C s H fp).h) (fun cl C s H fp=>(he cl C s H fp).h) hse hs⟩
end
noncomputable def iK (ss:Sts)(lab:Int)(ord:List Nat):List Nat:=ord.filter fun k=>decide ((cO ss k).2.2≠lab)
noncomputable def sY:Sp:=fun vs H Q _=>∃(sa wa t p:Addr)(lab:Int)(xs:List V)(ok:Addr->Prop)(ss:Sts)(ws zs:List Int)(ord:List Nat),vs=[.ref sa,.ref wa,.ref t,.ref p,.int lab]/\H sa=some (.lst xs)/\aJ ok H xs (ss.map stD)/\H wa=some (.lst (ws.map V.int))/\ws.length=ss.length/\jF H t zs/\(∀k∈ord,k<ss.length)/\ord.length<=60/\aH (fun _=>True) H (.ref p) (.list (ord.map (Br ss zs))) /\
 ∀H',Same H H'->Q (.int (fC ss ws zs (sumK ws ord) (iK ss lab ord))) H'
noncomputable def lR (ss:Sts)(L:List Int):Prop:=L.Pairwise (· < ·)/\∀l,l∈L ↔ ∃k,k<ss.length/\(cO ss k).2.2=l
theorem lR.one {ss:Sts}:∀{L M:List Int},lR ss L->lR ss M->L=M:=by
 have key:∀{L M:List Int},L.Pairwise (· < ·)->M.Pairwise (· < ·)->(∀l,l∈L↔l∈M)->L=M:=by
  intro L
  induction L with
  | nil=>
   intro M _ _ h;cases M with
   | nil=>rfl
   | cons m M=>exact absurd ((h m).mpr (.head _)) (by simp)
  | cons a L ih=>
   intro M hL hM h;cases M with
   | nil=>exact absurd ((h a).mp (.head _)) (by simp)
   | cons m M=>
    rw[pairwise_cons] at hL hM;have e:a=m:=by
     rcases mem_cons.mp ((h a).mp (.head _)) with z|z
     ·exact z
     rcases mem_cons.mp ((h m).mpr (.head _)) with y|y
     ·exact y.symm
     have:=hL.1 m y;have:=hM.1 a z;omega
    subst e;rw[ih hL.2 hM.2 fun l=>⟨fun z=>?_,fun z=>?_⟩]
    ·rcases mem_cons.mp ((h l).mp (.tail _ z)) with y|y
     ·have:=hL.1 l z;omega
     exact y
    rcases mem_cons.mp ((h l).mpr (.tail _ z)) with y|y
    ·have:=hM.1 l z;omega
    exact y
 intro L M h k;exact key h.1 k.1 fun l=>(h.2 l).trans (k.2 l).symm
noncomputable def gb (ss:Sts)(ws zs:List Int)(W:Int)(ord:List Nat)(lab:Int):Int:=fC ss ws zs W (iK ss lab ord)
structure mZ (ss:Sts)(ws zs:List Int)(ord:List Nat):Prop where
 pm:ord.Perm (List.range ss.length)
 up:(ord.map (dO ss ws zs)).Pairwise (· < ·)
theorem mZ.lt {ss:Sts}{ws zs:List Int}{ord:List Nat}(h:mZ ss ws zs ord):∀k∈ord,k<ss.length:=fun k m=>mem_range.mp (h.pm.mem_iff.mp m)
theorem mZ.len {ss:Sts}{ws zs:List Int}{ord:List Nat}(h:mZ ss ws zs ord):ord.length=ss.length:=by rw[h.pm.length_eq,length_range]
theorem mZ.not {ss:Sts}{ws zs:List Int}{ord:List Nat}(h:mZ ss ws zs ord)(lab:Int):(iK ss lab ord).Perm (fZ ss lab)/\((iK ss lab ord).map (dO ss ws zs)).Pairwise (· < ·):=
 ⟨h.pm.filter _,h.up.sublist ((List.filter_sublist).map _)⟩
theorem Ip {l m:List Int}(h:l.Perm m):l.sum=m.sum:=by
 induction h with
 | nil=>rfl
 | cons a _ ih=>rw[sum_cons,sum_cons,ih]
 | swap a b l=>simp only[sum_cons];omega
 | trans _ _ i1 i2=>exact i1.trans i2
theorem mZ.sum {ss:Sts}{ws zs:List Int}{ord:List Nat}(h:mZ ss ws zs ord)(hl:ws.length=ss.length):sumK ws ord=ws.sum:=by
 rw[<- wD ws,hl];unfold sumK;exact Ip (h.pm.map _)
noncomputable def sX:Sp:=fun vs H Q _=>∃(sa wa t la:Addr)(xs:List V)(ok:Addr->Prop)(ss:Sts)(ws zs:List Int),vs=[.ref sa,.ref wa,.ref t,.ref la]/\H sa=some (.lst xs)/\aJ ok H xs (ss.map stD)/\ss.length<=60/\H wa=some (.lst (ws.map V.int))/\ws.length=ss.length/\jF H t zs/\H la=some (.lst (nv (List.range ss.length))) /\
 ∀(r:Addr)(ts:List Addr)(L:List Int)(ord:List Nat) H',Same H H'->H' r=some (.lst (ts.map V.ref))->lR ss L->mZ ss ws zs ord->ts.length=L.length ->
  (∀(j:Nat) t lab,ts[j]?=some t->L[j]?=some lab->∃v,H' t=some (.tup [.int (gb ss ws zs ws.sum ord lab),v])/\aH (fun _=>True) H' v (iW ss zs lab (iK ss lab ord)))->Q (.ref r) H'
noncomputable def yR (ss:Sts)(ws zs:List Int)(ord:List Nat)(L:List Int)(lab:Int):Prop:=lab∈L/\∀l,l∈L->gb ss ws zs ws.sum ord lab<gb ss ws zs ws.sum ord l\/(gb ss ws zs ws.sum ord lab=gb ss ws zs ws.sum ord l/\lab<=l)
theorem yR.one {ss:Sts}{ws zs:List Int}{ord:List Nat}{L:List Int}{a b:Int}(h:yR ss ws zs ord L a)(k:yR ss ws zs ord L b):a=b:=by
 have h1:=h.2 b k.1;have h2:=k.2 a h.1;omega
noncomputable def tD (T:Addr)(lpos:Pos)(qual:Str):Sp:=fun vs H Q _=>∃(sa wa t:Addr)(xs:List V)(ok:Addr->Prop)(ss:Sts)(ws zs:List Int),vs=[.ref sa,.ref wa,.ref t]/\H sa=some (.lst xs)/\aJ ok H xs (ss.map stD)/\1<=ss.length/\ss.length<=60/\H wa=some (.lst (ws.map V.int))/\ws.length=ss.length/\jF H t zs/\pC H T lpos qual /\
 ∀(v:V)(L:List Int)(ord:List Nat)(lab:Int) H',aV T H H'->pC H' T lpos qual->lR ss L->mZ ss ws zs ord->yR ss ws zs ord L lab->aH (fun _=>True) H' v (iW ss zs lab (iK ss lab ord))->Q v H'
noncomputable def Vl (mp:List (Option Nat))(g:TG)(tc:TT)(te:TE)(σ:St)(Q:VK)(J:It)(H1:Hp):Prop:=
 ∃W:Nat->Nat->List Int->St->Hp->Prop,(∃m,W 0 m [] (fY mp σ) H1)/\∀i m acc τ H2,W i m acc τ H2 ->
  (J.stop i H2/\∀d (ys:List Int),H2 d=none->acc.Nodup->ys.Perm acc->(acc.length<64->ys.Pairwise (·<=·))->Q (.ref d) (upd H2 d (.lst (ys.map V.int)))) \/
  (J.go i H2/\acc.length<63/\∃N:List Int->St->Hp->Prop,(∀acc' τ' H',N acc' τ' H'->∃m',m'<m/\W (i+1) m' acc' τ' H')/\∀x H3,J.yld i H2 x H3->g x τ H3 fun τ1 H4=>tc τ1 H4 fun b H5=>
   if b=true then te τ1 H5 fun v H6=>∃k:Int,v=.int k/\N (lO acc k) τ1 H6 else N acc τ1 H5)
theorem Uh {mp:List (Option Nat)}{wi:TI}{g:TG}{tc:TT}{te:TE}{σ:St}{H:Hp}{Q:VK}(h:∀R,R=Vl mp g tc te σ Q->wi σ H R):Qd mp wi g tc te σ H Q:=h _ rfl
theorem Ug {K:PySem.W.Frag}{mp:List (Option Nat)}{g:TG}{tc:TT}{te:TE}{σ:St}{H:Hp}{Q:VK}{R:It->Hp->Prop}{a:Addr}{xs:List V}(hR:R=Vl mp g tc te σ Q)(hx:xs.length<63)(Pv:Nat->List Int->St->Hp->Prop)(h0:Pv 0 [] (fY mp σ) H)(hl:∀i acc τ H,Pv i acc τ H->acc.length<=i)
  (hq:∀i acc τ H,Pv i acc τ H->SqL K H a xs)
  (hs:∀i x acc τ H,xs[i]?=some x->Pv i acc τ H->g x τ H fun τ1 H4=>tc τ1 H4 fun b H5=>if b=true then te τ1 H5 fun v H6=>∃k:Int,v=.int k/\Pv (i+1) (lO acc k) τ1 H6 else Pv (i+1) acc τ1 H5)
  (hd:∀acc τ H d (ys:List Int),Pv xs.length acc τ H->H d=none->ys.Perm acc->(acc.length<64->ys.Pairwise (·<=·))->acc.Nodup->Q (.ref d) (upd H d (.lst (ys.map V.int)))):R (Itl K a) H:=by
 rw[hR];refine⟨fun i m acc τ H2=>Pv i acc τ H2/\i<=xs.length/\m=xs.length-i,⟨_,h0,zero_le _,rfl⟩,fun i m acc τ H2 ⟨p,hi,hm⟩=>?_⟩;rcases lt_or_ge i xs.length with z|z
 ·refine .inr ⟨⟨xs,xs[i],hq i acc τ H2 p,getElem?_eq_getElem z⟩,by have:=hl i acc τ H2 p;omega,fun acc' τ' H'=>Pv (i+1) acc' τ' H',fun acc' τ' H' p'=>⟨xs.length-(i+1),ω,p',z,rfl⟩,fun x H3 y=>?_⟩;obtain⟨rfl,hx'⟩:=y;exact hs i x acc τ _ (hx' xs (hq i acc τ _ p)) p
 have e:i=xs.length:=ω;subst e;exact .inl ⟨⟨xs,hq _ acc τ H2 p,le_refl _⟩,fun d ys h1 h2 h3 h4=>hd acc τ H2 d ys p h1 h3 h4 h2⟩
theorem Kp {acc:List Int}{k l:Int}:l∈lO acc k↔l∈acc\/l=k:=by
 unfold lO;split
 ·rename_i c;obtain⟨x,mx,e⟩:=List.any_eq_true.mp c;have e:x=k:=by simpa using e
  exact⟨.inl,fun h=>h.elim id fun z=>by rw[z,<- e];exact mx⟩
 rw[mem_append,mem_singleton]
theorem JF {ys:List Int}(h:ys.Pairwise (·<=·))(n:ys.Nodup):ys.Pairwise (· < ·):=(h.and n).imp fun {a b} z=>by
 have h1:a<=b:=z.1;have h2:a≠b:=z.2;omega
theorem Cw {ss:Sts}{acc ys:List Int}(hm:∀l,l∈acc ↔ ∃k,k<ss.length/\(cO ss k).2.2=l)(hp:ys.Perm acc)(hu:ys.Pairwise (·<=·))(nd:acc.Nodup):lR ss ys:=
 ⟨JF hu (hp.nodup_iff.mpr nd),fun l=>by rw[hp.mem_iff];exact hm l⟩
section
variable {X:Cx}{c P:Addr}{params:Arguments}{body:Expr}{scope:Scope}{qual x:Str}{tb:TE}{ta:TA}{k:Nat}{a:Expr}{p pos lpos kp:Pos}
theorem LR (hc:X.calm=true) (hr:dN (k+2) X.A) (hg:Gl X "min") (hm:X.mg "min" = none) (ha:QA X [a] ta) (hcl:closureFor scope X.env=pure []) (hdef:defaultsOf params X.env=([],[])) (hcode:X.env.code=.ref c) (C:PySem.W.CodeHd X.base c P) (hb:X.base.BuiltinsAt X.mg P) (hq:X.env.qual ++ "<lambda>" = qual) (S:bF [x] [x] scope)
  (hbind:∀(pm ctv:Value)(c':Addr)(u:Value),bindArgs (PySem.W.kla_fn "<lambda>" qual params body scope [] pm (.ref c') ctv) ⟨[u],[]⟩=pure [(x,u)])
  (hbody:∀(A:Around)(outer:List Env)(s:Shared)(H:Hp)(f c':Addr),QE (pA CX0 X.prog X.w X.K X.mg X.base [x] qual scope f (.ref c') A outer s H E0) body tb)
  (hs:starEach [a] X.env=[(false,eval a X.env)]:=by rfl) :
  QE X (.Call (.Name "min" p) [a] [⟨some "key",.Lambda params body scope lpos,kp⟩] pos) (Gy P lpos qual [x] tb ta):=⟨MN hc hr hg hm ha.h hcl hdef hcode C hb hq S hbind (fun A outer s H f c'=>(hbody A outer s H f c').h) hs⟩
end
section
variable {P:Program}{w:World}{K:PySem.W.Frag}{mg:Str->Option Value}{base:Heap}
theorem Tj {x qual:Str}{st:Stmt}{f c:Addr}{oc kV doc pm ct:Value}{od an:Option Addr}{osl:Array (Option Value)}{N ps:List Str}{k:Nat}{sp:Sp}
  (lk:K.lookup f=some ⟨oc,od,.func (fnOf x qual (bA st) (aX st) (aj st) .none kV doc pm an (.ref c) ct),osl⟩) (hcd:codeIn K (.ref c) qual=true) (S:bF N ps (aj st)) (len:∀vs H Q E,sp vs H Q E->vs.length=ps.length)
  (hbody:∀(A:Around)(outer:List Env)(s:Shared)(H:Hp)(vs:List V)(Q:VK)(E:XK),dN k (A.deeper (envOfC qual (aj st) s.heap.objs.size f (.ref c)))->sp vs H Q E ->
   ∃t,QB (pA CX0 P w K mg base N qual (aj st) f (.ref c) A outer s H E).nox (aX st) t/\t { nx:=fun _ H'=>Q .non H',rt:=Q } (L2.start N vs) H):dW P w K mg base CX0 (k+1) f (fnOf x qual (bA st) (aX st) (aj st) .none kV doc pm an (.ref c) ct) ps sp:=by
 refine Pu lk hcd S len fun A outer s H vs Q E hr hsp=>?_;obtain⟨t,h,q⟩:=hbody A outer s H vs Q E hr hsp;exact⟨t,h.h.nox,q⟩
end
theorem mC (ss:Sts)(zs:List Int)(lab:Int):∀l:List Nat,noL (iW ss zs lab l)=true
 | []=>by show noL (.tuple [.str "pick",.int lab])=true;rw[vh,jc,jc,jc,Cm,mD];rfl
 | k::r=>by
  show noL (.tuple [.str (cX ss zs k),.int (k:Int),iW ss zs lab r])=true;rw[vh,jc,jc,jc,jc,Cm,mD,mC ss zs lab r];rfl
end L2
namespace HT
open PySem PySem.Spec PyProof.Rows
section
variable {prog:Program}{w:World}{A:Around}{E:Value->Shared->Prop}{s:Shared}
theorem vA {t sl:Addr}{a b c d e:Value}{vs:Value}{Q:Value->Shared->Prop}(ht:IsTup s.heap t #[a,b,c,d,e])(hs:s.heap.IsSliceOf sl .none .none vs)(pu:IsPart vs (some (-1)))
  (h:Q (.ref s.heap.objs.size) { s with heap:=s.heap.push { cls:=.type "tuple",data:=.seq #[e,d,c,b,a] } }):wpAny (model prog w) A (getItem (.ref t) (.ref sl)) Q E s:=by
 have htake:sizeOk (.seq #[e,d,c,b,a]):=by
  show 5<=sizeLine;decide
 obtain⟨os,hos,hcs,hds⟩:=id hs;have hTs:s.TypeIs (.ref sl) "slice" := ⟨os,hos,hcs⟩;unfold getItem
 try with_reducible refine wpAny_holding ?_
 first|refine wpAny_bind (wpAny_pure ?_)|skip
 refine wpAny_bind (wpAny_sequenceKey ht.typeIs δ ?_);refine wpAny_bind (wpAny_callSpecial?_slot (name:=Str.ofString "__getitem__") ht.typeIs PyProof.Rows.slot_tuple_getitem
  (wpAny_call_entry PyProof.Rows.slot_tuple_getitem ht.typeIs entry_tuple_getitem ?_ (args_tuple_getitem _ _)))
 show wpAny _ _ (Builtin.Tuple.tupleItemsOf (.ref t) >>= _) _ _ s;refine wpAny_bind (tupleItemsOf_ ht ?_);refine wpAny_bind (wpAny_typeOf hTs ?_);rw[if_pos δ];have app:∀{A:Around}{E:Value->Shared->Prop}{Q:Int×Int×Nat->Shared->Prop},Q (4,-1,5) s->wpAny (model prog w) A (Builtin.Slice.sliceApplied (.ref sl) (pure ((5:Nat):Int))) Q E s:=by
  intro A E Q h;unfold Builtin.Slice.sliceApplied Builtin.Slice.sliceFields;refine wpAny_bind (wpAny_bind (wpAny_field hos hds (x:=.none) rfl (wpAny_bind (wpAny_field hos hds (x:=.none) rfl (wpAny_bind (wpAny_field hos hds (x:=vs) rfl (wpAny_pure ?_)))))));refine wpAny_bind (lu pu ?_);show wpAny _ _ (if ((-1:Int) == 0)=true then _ else _) _ _ s;rw[if_neg δ];exact wpAny_bind (slicePart_none (wpAny_bind (slicePart_none (wpAny_bind (wpAny_pure (wpAny_pure h))))))
 refine wpAny_bind (app ?_);show wpAny _ _ (if ((4:Int) == 0&&(-1:Int) == 1&&(5:Nat) == 5)=true then _ else _) _ _ s;rw[if_neg δ]
 first
  | exact wpAny_bind (m:=Builtin.Tuple.tupleExact _) (wpAny_newObj_type (wpAny_pure ⟨_,rfl,wpAny_pure h⟩) htake)
  | exact wpAny_bind (m:=Builtin.Tuple.tupleExact _) (wpAny_newObj_type (wpAny_bind (wpAny_pure (wpAny_pure ⟨_,rfl,wpAny_pure h⟩))) htake)
  | exact wpAny_bind (wpAny_bind (m:=Builtin.Tuple.tupleExact _) (wpAny_newObj_type (wpAny_pure (wpAny_pure ⟨_,rfl,wpAny_pure h⟩)) htake))
  | exact wpAny_bind (wpAny_bind (m:=Builtin.Tuple.tupleExact _) (wpAny_newObj_type (wpAny_pure ⟨_,rfl,wpAny_pure h⟩) htake))
end
end HT
namespace L2
open PySem PySem.Spec PyProof.Rows
section
variable {X:Cx}{e:Expr}{te:TE}{pos:Pos}
noncomputable def Gq (te:TE):TE:=fun σ H Q=>te σ H fun x H1=>∃(p:Addr)(zs:List Int),x=.ref p/\H1 p=some (.tup (zs.map V.int))/\zs.length=5/\∀q,H1 q=none->Q (.ref q) (upd H1 q (.tup (zs.reverse.map V.int)))
theorem Gp (te:TE)(σ:St)(H:Hp)(Q:VK):Gq te σ H Q=te σ H fun x H1=>∃(p:Addr)(zs:List Int),x=.ref p/\H1 p=some (.tup (zs.map V.int))/\zs.length=5/\∀q,H1 q=none->Q (.ref q) (upd H1 q (.tup (zs.reverse.map V.int))):=rfl
theorem MJ {p2 p3 p4:Pos}{j}(he:PE X e te)(hlt:∀o r,letTemporaryGo e o r=pure ():=by intro _ _;rfl):PE X (.Subscript e (.Slice none none (some (.UnaryOp .USub (.Constant (.int 1) j p3) p4)) p2) pos) (Gq te):=by
 intro pins s σ H Q I h;refine wpAny_Subscript_Slice_step (T := "tuple") PyProof.Rows.slot_tuple_getitem.lookup (thE (he pins s σ H _ I h) fun v s1 x H1 I1 r1 q1=>?_) hlt;obtain⟨p,zs,rfl,e1,hz,q1⟩:=q1;cases r1;refine wpAny_Slice ?_;rw[evalPart_none];refine wpAny_pure ?_;refine wpAny_pure ?_;refine thn (vf (Iu uz zB) pins s1 σ H1 (fun o H'=>o=some (-1)/\H'=H1) I1 ⟨_,rfl,_,rfl,rfl,rfl⟩) fun vs s3 ⟨o3,H3,I3,pu,e3,e4⟩=>?_;subst e3;subst e4;have I4:Inv X pins σ H3 { s3 with heap:=s3.heap.push { cls:=.type "slice",data:=.fields #[.none,.none,vs] } }:=I3.kept (t':=s3.toks) fun b ob q=>get?_push_of_some _ q;obtain⟨its,r,ht,_⟩:=I4.tuple (SqT.of e1)
 match zs,hz with
 | [z0,z1,z2,z3,z4],_=>
  cases r with
  | cons r0 r=>cases r with|cons r1 r=>cases r with|cons r2 r=>cases r with|cons r3 r=>cases r with|cons r4 r=>
   cases r;refine⟨ht.typeIs,?_⟩;refine HT.vA ht (Heap.IsSliceOf.new ..) pu ?_;refine⟨.ref _,_,I4.laid (t':=s3.toks) (o:=.tup ([z4,z3,z2,z1,z0].map V.int)) (fun b ob q=>get?_push_of_some _ q) (le_refl _) ?_,rfl,q1 _ (I4.hok.fresh (le_refl _))⟩;exact⟨by show 5<=sizeLine;decide,_,.cons r4 (.cons r3 (.cons r2 (.cons r1 (.cons r0 .nil)))),IsTup.new _ _⟩
theorem LK {p2 p3 p4:Pos}{j}(he:QE X e te)(hlt:∀o r,letTemporaryGo e o r=pure ():=by intro _ _;rfl):QE X (.Subscript e (.Slice none none (some (.UnaryOp .USub (.Constant (.int 1) j p3) p4)) p2) pos) (Gq te):=⟨MJ he.h hlt⟩
noncomputable def Uq:R2:=fun x y H Q=>∃p q a b c d,x=.ref p/\y=.ref q/\H p=some (.tup [.int a,.int b])/\H q=some (.tup [.int c,.int d])/\Q (.bl (a == c&&b == d)) H
theorem Nh {X:Cx}(hu:X.A.units<cLine):OpR X (compareOp .Eq) Uq:=by
 intro pins s σ H x y v u Q I rx ry h;obtain⟨p,q,a,b,c,d,rfl,rfl,e1,e2,qq⟩:=h;cases rx;cases ry;obtain⟨its1,r1,pl1,hz1⟩:=I.tuple (SqT.of e1);obtain⟨its2,r2,pl2,hz2⟩:=I.tuple (SqT.of e2);cases r1 with
 | cons x1 r1=>
  cases r1 with
  | cons x2 r1=>
   cases r1;cases r2 with
   | cons y1 r2=>
    cases r2 with
    | cons y2 r2=>
     cases r2;obtain⟨t1,rfl⟩:=x1;obtain⟨t2,rfl⟩:=x2;obtain⟨t3,rfl⟩:=y1;obtain⟨t4,rfl⟩:=y2;refine SeqAt.RcAt.tuples (e:=fun j=>if j=0 then a == c else b == d) pl1 pl2 hu (fun j h1 h2=>?_) X.prog X.w X.xe (EP X pins σ Q) ⟨.bl (a == c&&b == d),H,I,?_,qq⟩
     ·have h1':j<2:=h1
      match j,h1' with
      | 0,_=>exact SeqAt.EqAt.int_int (A:=X.A.in1) (s:=s) a t1 c t3
      | 1,_=>exact SeqAt.EqAt.int_int (A:=X.A.in1) (s:=s) b t2 d t4
     show Value.bool _=Value.bool _;congr 1;show((if (0:Nat)=0 then a == c else b == d)&&((if (1:Nat)=0 then a == c else b == d)&&true)&&true)=_;rw[if_pos rfl,if_neg δ,Bool.and_true,Bool.and_true]
end
noncomputable def Cy (s:Int×Int×Int):Int×Int×Int:=(s.1,s.2.1,9+22*s.2.2)
noncomputable def SmS (ss:Sts):Prop:=∀s∈ss,s.1.natAbs<2^55/\s.2.1.natAbs<2^55/\s.2.2.natAbs<1000
theorem SmS.row {ss:Sts}(r:pB ss)(h:ss.length<=60):SmS ss:=fun s hs=>by
 have:=r.small h hs;obtain⟨i,hi,e⟩:=mem_iff_getElem.mp hs;have h1:=r.lh i s (by rw[<- e];exact getElem?_eq_getElem hi);omega
theorem SmS.lab {ss:Sts}(r:pB ss)(h:ss.length<=60):SmS (ss.map Cy):=fun s hs=>by
 obtain⟨u,hu,rfl⟩:=mem_map.mp hs;have:=r.small h hu;obtain⟨i,hi,e⟩:=mem_iff_getElem.mp hu;have h1:=r.lh i u (by rw[<- e];exact getElem?_eq_getElem hi);unfold Cy;dsimp only;omega
theorem K7 {ss:Sts}{ws zs:List Int}(r:SmS ss)(h:ss.length<=60)(hw:ws.length<=60)(bw:∀z∈ws,0<=z/\z<=1000000)(hz:zs.length=5)(bz:∀z∈zs,1<=z/\z<=99):Shw (.list [.list (ss.map stD),.list (ws.map .int),.tuple (zs.map .int)]):=by
 have b0:Bd (1+60*4) 2 (.list (ss.map stD)):=by
  refine vX (fun d hd=>?_) (by rw[length_map];exact h);obtain⟨s,hs,rfl⟩:=mem_map.mp hd;have:=r s hs;exact Vh ω ω ω
 have b1:Bd (1+60*1) 1 (.list (ws.map PyData.int)):=vX (fun d hd=>by
  obtain⟨z,hz,rfl⟩:=mem_map.mp hd;have:=bw z hz;exact qW ω) (by rw[length_map];omega)
 have b2:Bd (1+5*1) 1 (.tuple (zs.map PyData.int)):=yM (fun d hd=>by
  obtain⟨z,hz,rfl⟩:=mem_map.mp hd;have:=bz z hz;exact qW ω) (by rw[length_map];omega)
 refine((vX (n:=241) (k:=2) (m:=3) (ds:=[.list (ss.map stD),.list (ws.map .int),.tuple (zs.map .int)]) (fun d hd=>?_) (le_refl 3)).tell δ δ).shw;simp only[mem_cons,not_mem_nil,or_false] at hd;rcases hd with rfl|rfl|rfl
 ·exact b0
 ·exact b1.mono δ δ
 exact b2.mono δ δ
noncomputable def v8 (ss:Sts)(ws zs:List Int)(lab:Int)(ol:List Nat):Prop:=ol.Perm (fZ ss lab)/\(ol.map (dO ss ws zs)).Pairwise (· < ·)
theorem v8.one {ss:Sts}{ws zs:List Int}{lab:Int}{o u:List Nat}(h:v8 ss ws zs lab o)(k:v8 ss ws zs lab u):o=u:=tO (h.1.trans k.1.symm) h.2 k.2
theorem mZ.RK {ss:Sts}{ws zs:List Int}{ord:List Nat}(h:mZ ss ws zs ord)(lab:Int):v8 ss ws zs lab (iK ss lab ord):=h.not lab
noncomputable def ig (ss:Sts)(ws zs:List Int)(H:Hp)(lab:Int)(t:Addr):Prop:=∃(v:V)(ol:List Nat),v8 ss ws zs lab ol/\H t=some (.tup [.int (fC ss ws zs ws.sum ol),.int lab,v])/\aH (fun _=>True) H v (iW ss zs lab ol)
theorem ig.same {ss:Sts}{ws zs:List Int}{H H':Hp}{lab:Int}{t:Addr}(h:ig ss ws zs H lab t)(s:Same H H'):ig ss ws zs H' lab t:=by
 obtain⟨v,ol,h1,h2,h3⟩:=h;exact⟨v,ol,h1,s _ _ h2,h3.same s⟩
theorem gw {T:Addr}{H H':Hp}(s:aV T H H'){ps:_}(e:H T=some (.tbl ps)){b:Addr}{o:HO}(h:H b=some o)(n:∀qs,o≠.tbl qs):H' b=some o:=s _ _ (fun z=>by
 rw[z,e] at h;exact n ps (Option.some.inj h).symm) h
theorem ig.jX {ss:Sts}{ws zs:List Int}{H H':Hp}{T:Addr}{lab:Int}{t:Addr}{ps:_}(h:ig ss ws zs H lab t)(s:aV T H H')(e:H T=some (.tbl ps)):ig ss ws zs H' lab t:=by
 obtain⟨v,ol,h1,h2,h3⟩:=h;exact⟨v,ol,h1,gw s e h2 (fun qs z=>by cases z),h3.jh (fun b us _ e2=>⟨trivial,gw s e e2 fun qs z=>by cases z⟩) (mC _ _ _ _)⟩
theorem ig.put {ss:Sts}{ws zs:List Int}{H:Hp}{l:Addr}{xs ys:List V}{lab:Int}{t:Addr}(h:ig ss ws zs H lab t)(e:H l=some (.lst xs)):ig ss ws zs (upd H l (.lst ys)) lab t:=by
 obtain⟨v,ol,h1,h2,h3⟩:=h;exact⟨v,ol,h1,by rw[aG (fun z=>by rw[z,e] at h2;cases h2)];exact h2,h3.put (mC _ _ _ _) e⟩
noncomputable def Ks (ss:Sts)(ws zs:List Int)(L:List Int)(c:Int)(lab:Int):Prop:=lab∈L/\(∃ol,v8 ss ws zs lab ol/\c=fC ss ws zs ws.sum ol)/\∀l,l∈L->∀ol,v8 ss ws zs l ol->c<fC ss ws zs ws.sum ol\/(c=fC ss ws zs ws.sum ol/\lab<=l)
theorem Ks.best {ss:Sts}{ws zs:List Int}{L:List Int}{c lab:Int}{ord:List Nat}(h:Ks ss ws zs L c lab)(o:mZ ss ws zs ord):yR ss ws zs ord L lab:=by
 obtain⟨h1,⟨ol,h2,rfl⟩,h3⟩:=h;refine⟨h1,fun l hl=>?_⟩;have:=h3 l hl _ (o.RK l);rw[h2.one (o.RK lab)] at this;exact this
theorem iM:∀ss:Sts,jc (ss.map stD)=true
 | []=>by rw[map_nil,jc]
 | s::ss=>by
  rw[map_cons,jc,iM ss,Bool.and_true];show noL (.tuple [.int s.1,.int s.2.1,.int s.2.2])=true;rw[vh,jc,jc,jc,jc,mD,mD,mD];rfl
noncomputable def rm (ss:Sts)(ws zs:List Int)(H:Hp)(lab:Int)(q:Addr):Prop:=∃ol,v8 ss ws zs lab ol/\H q=some (.tup [.int (fC ss ws zs ws.sum ol),.int lab])
theorem rm.same {ss:Sts}{ws zs:List Int}{H H':Hp}{lab:Int}{q:Addr}(h:rm ss ws zs H lab q)(s:Same H H'):rm ss ws zs H' lab q:=by
 obtain⟨ol,h1,h2⟩:=h;exact⟨ol,h1,s _ _ h2⟩
noncomputable def jV (H:Hp)(p:Addr):Int×Int:=match H p with
 | some (.tup [.int a,.int b])=>(a,b)
 | _=>(0,0)
theorem mQ {H:Hp}{p:Addr}{a b:Int}(h:H p=some (.tup [.int a,.int b])):jV H p=(a,b):=by
 unfold jV;rw[h]
structure Pairs (ss:Sts)(ws zs:List Int)(H:Hp)(ys:List Int)(qs:List Addr):Prop where
 len:qs.length=ys.length
 all:∀(m:Nat) q lab,qs[m]?=some q->ys[m]?=some lab->rm ss ws zs H lab q
section
variable {ss:Sts}{ws zs:List Int}{H:Hp}{ys:List Int}{qs:List Addr}
theorem Pairs.get (h:Pairs ss ws zs H ys qs){m:Nat}(hm:m<qs.length):∃ol,v8 ss ws zs (ys[m]'(by rw[<- h.len];exact hm)) ol/\H qs[m]=some (.tup [.int (fC ss ws zs ws.sum ol),.int (ys[m]'(by rw[<- h.len];exact hm))]):=
 h.all m _ _ (getElem?_eq_getElem hm) (getElem?_eq_getElem _)
theorem Pairs.keys (h:Pairs ss ws zs H ys qs)(hb:∀l∈ys,l.natAbs<1000):∀p∈qs,H p=some (.tup [.int (jV H p).1,.int (jV H p).2])/\-1099511627776<(jV H p).2/\(jV H p).2<1099511627776:=fun p hp=>by
 obtain⟨m,hm,rfl⟩:=mem_iff_getElem.mp hp;obtain⟨ol,_,e⟩:=h.get hm;rw[mQ e];have:=hb _ (getElem_mem (l:=ys) (n:=m) (by rw[<- h.len];exact hm));exact⟨e,by dsimp only;omega,by dsimp only;omega⟩
theorem Pairs.nd (h:Pairs ss ws zs H ys qs)(hy:ys.Pairwise (· < ·))(hb:∀l∈ys,l.natAbs<1000):(qs.map fun p=>(jV H p).1*2199023255552+(jV H p).2).Nodup:=by
 refine pairwise_map.mpr (pairwise_iff_getElem.mpr fun i j hi hj hij=>?_);obtain⟨o1,_,e1⟩:=h.get hi;obtain⟨o2,_,e2⟩:=h.get hj;rw[mQ e1,mQ e2];have b1:=hb _ (getElem_mem (l:=ys) (n:=i) (by rw[<- h.len];exact hi));have b2:=hb _ (getElem_mem (l:=ys) (n:=j) (by rw[<- h.len];exact hj));have:=pairwise_iff_getElem.mp hy i j (by rw[<- h.len];exact hi) (by rw[<- h.len];exact hj) hij;dsimp only;omega
theorem Pairs.due (h:Pairs ss ws zs H ys qs){rs:List Addr}(hp:rs.Perm qs)(hw:rs.Pairwise fun p q=>(jV H p).1<(jV H q).1\/((jV H p).1=(jV H q).1/\(jV H p).2<(jV H q).2)){r:Addr}{t:List Addr}(hr:rs=r::t) :
  ∃c lab,H r=some (.tup [.int c,.int lab])/\Ks ss ws zs ys c lab:=by
 subst hr;obtain⟨m,hm,em⟩:=mem_iff_getElem.mp (hp.mem_iff.mp (.head _));obtain⟨ol,ho,e⟩:=h.get hm;have my:m<ys.length:=by rw[<- h.len];exact hm
 rw[em] at e;refine⟨_,_,e,getElem_mem my,⟨ol,ho,rfl⟩,fun l hl ol2 ho2=>?_⟩;obtain⟨j,hj,rfl⟩:=mem_iff_getElem.mp hl;have jq:j<qs.length:=by rw[h.len];exact hj
 obtain⟨ol3,ho3,e3⟩:=h.get jq;rw[ho2.one ho3];rcases mem_cons.mp (hp.mem_iff.mpr (getElem_mem jq)) with z|z
 ·rw[z,e] at e3;injection e3 with e3;injection e3 with e3;injection e3 with e4 e5;injection e5 with e5 _;injection e4 with e4;injection e5 with e5;exact .inr ⟨e4,Int.le_of_eq e5⟩
 have:=(pairwise_cons.mp hw).1 _ z;rw[mQ e,mQ e3] at this;dsimp only at this;omega
end
theorem yg {l:Addr}{H H':Hp}(s:aV l H H'){xs:List V}(e:H l=some (.lst xs)){b:Addr}{ys:List V}(h:H b=some (.tup ys)):H' b=some (.tup ys):=s _ _ (fun z=>by
 rw[z,e] at h;cases h) h
end L2
local macro_rules | `(tactic| push_cast) => `(tactic| simp only [L2.rd0, L2.rd1, L2.rd2, L2.rd3, L2.rd4, L2.rd5, L2.rd6, L2.rd7, L2.rd8, L2.rd9, reduceIte, reduceCtorEq, Nat.reduceAdd, Nat.reduceSub])
local macro_rules | `(tactic| push_cast [$ls,*]) => `(tactic| simp only [L2.rd0, L2.rd1, L2.rd2, L2.rd3, L2.rd4, L2.rd5, L2.rd6, L2.rd7, L2.rd8, L2.rd9, reduceIte, reduceCtorEq, Nat.reduceAdd, Nat.reduceSub, $ls,*])
namespace K27
open PySem L2 PyProof.Rows
noncomputable abbrev q0_:List Str:=["_law_tape_here","_law_many"]
noncomputable abbrev q1_:List Str:=["_law_stretches_here","_law_prices_here","_law_place"]
noncomputable abbrev q2_:List Str:=["stretches","weights","prices","left"]
noncomputable abbrev q3_:List Str:=["_law_stretches_here","_law_weights_here","_law_prices_here","_law_label"]
noncomputable abbrev q4_:List Str:=["_law_stretches_here","_law_weights_here","_law_prices_here","_law_plan"]
noncomputable abbrev q5_:List Str:=["_law_stretches_here","_law_prices_here","_law_order","_law_label"]
noncomputable abbrev q6_:List Str:=["_law_found","_law_due"]
noncomputable abbrev q7_:List Str:=["_law_script","_law_k"]
noncomputable abbrev q8_:List Str:=["stretches","weights","prices","tests","label"]
noncomputable abbrev q9_:List Str:=["_law_stretches_here","_law_plan","_law_place"]
noncomputable abbrev q10_:List Str:=["stretches","weights","prices"]
noncomputable abbrev q11_:List Str:=["stretches","tests","label"]
noncomputable abbrev q12_:List Str:=["stretch","prices"]
noncomputable def top (i:Nat):Stmt:=PySem.Challenge.pw_caseways_k27_best_rows_of_tests.main.body.getD i (.Pass ⟨0,0,0,0⟩)
noncomputable abbrev BLs:List Str:=["abs","all","bool","dict","enumerate","int","isinstance","len","list","max","min","range","repr","reversed","set","sorted","str","sum","tuple","zip"]
theorem Jz:("abs" : Str)∈BLs:=by decide +kernel
theorem Sg:("all" : Str)∈BLs:=by decide +kernel
theorem vy:("bool" : Str)∈BLs:=by decide +kernel
theorem NP:("dict" : Str)∈BLs:=by decide +kernel
theorem mO:("enumerate" : Str)∈BLs:=by decide +kernel
theorem Ad:("int" : Str)∈BLs:=by decide +kernel
theorem bB:("isinstance" : Str)∈BLs:=by decide +kernel
theorem lJ:("len" : Str)∈BLs:=by decide +kernel
theorem pF:("list" : Str)∈BLs:=by decide +kernel
theorem Sd:("max" : Str)∈BLs:=by decide +kernel
theorem Jy:("min" : Str)∈BLs:=by decide +kernel
theorem iQ:("range" : Str)∈BLs:=by decide +kernel
theorem Cu:("repr" : Str)∈BLs:=by decide +kernel
theorem ye:("reversed" : Str)∈BLs:=by decide +kernel
theorem R9:("set" : Str)∈BLs:=by decide +kernel
theorem jP:("sorted" : Str)∈BLs:=by decide +kernel
theorem Ac:("str" : Str)∈BLs:=by decide +kernel
theorem Jx:("sum" : Str)∈BLs:=by decide +kernel
theorem mL:("tuple" : Str)∈BLs:=by decide +kernel
theorem Jw:("zip" : Str)∈BLs:=by decide +kernel
noncomputable abbrev GI_ (s:Stmt)(x:Str):Prop:=(aj s).names.lookup x=some .globalImplicit
noncomputable abbrev NM_ (N:List Str)(s:Stmt)(i:Nat)(x:Str):Prop:=Nm N (aj s) i x
noncomputable abbrev dG:Stmt:=top 9
theorem DN:bF q7_ ["_law_script","_law_k"] (aj dG):=⟨rfl,rfl,rfl,ψ,rfl,ψ,ψ⟩
noncomputable abbrev N0_:List Str:=["_law_script","_law_k"]
theorem qd:NM_ N0_ dG 0 "_law_script" := .of ψ
theorem qb:NM_ N0_ dG 1 "_law_k" := .of ψ
theorem vC:GI_ dG "len" := by decide +kernel
theorem FQ:Bn "_law_cell_at" := ⟨ψ,ψ⟩
noncomputable abbrev eX:Stmt:=top 10
theorem BR:bF ["_law_script","_law_k","_law_cell"] ["_law_script","_law_k"] (aj eX):=⟨rfl,rfl,rfl,ψ,rfl,ψ,ψ⟩
noncomputable abbrev N1_:List Str:=["_law_script","_law_k","_law_cell"]
theorem Ji:NM_ N1_ eX 0 "_law_script" := .of ψ
theorem pZ:NM_ N1_ eX 1 "_law_k" := .of ψ
theorem mG:NM_ N1_ eX 2 "_law_cell" := .of ψ
theorem qF:GI_ eX "_law_cell_at" := by decide +kernel
theorem qC:GI_ eX "abs" := by decide +kernel
theorem Ag:GI_ eX "int" := by decide +kernel
theorem Ox:Bn "_law_tape" := ⟨ψ,ψ⟩
noncomputable abbrev eY:Stmt:=top 11
theorem lY:bF ["_law_tape_here","_law_many","_law_found","_law_prime","_law_once"] ["_law_tape_here","_law_many"] (aj eY):=⟨rfl,rfl,rfl,ψ,rfl,ψ,ψ⟩
noncomputable abbrev N2_:List Str:=["_law_tape_here","_law_many","_law_found","_law_prime","_law_once"]
theorem cD:NM_ N2_ eY 0 "_law_tape_here" := .of ψ
theorem jw:NM_ N2_ eY 1 "_law_many" := .of ψ
theorem ju:NM_ N2_ eY 2 "_law_found" := .of ψ
theorem xQ:NM_ N2_ eY 3 "_law_prime" := .of ψ
theorem p8:NM_ N2_ eY 4 "_law_once" := .of ψ
theorem vB:GI_ eY "_law_take" := by decide +kernel
theorem bZ:Bn "_law_take" := ⟨ψ,ψ⟩
section
variable {P:Program}{w:World}{K:PySem.W.Frag}{mg:Str->Option Value}{base:Heap}{f:Addr}{fd:FuncData}{bs:List Str}
theorem Np (hB:∀x:Str,x∈BLs->mg x=none) (F:Fun K "_law_cell_at" "_law_cell_at" dG f fd):dW P w K mg base CX0 1 f fd q7_ (GZ K):=by
 refine F.okq DN (fun vs H Q E h=>?_) (fun cdv A outer s H vs Q E hr h=>?_)
 ·obtain⟨a,ns,k,rfl,_⟩:=h;rfl
 obtain⟨a,ns,k,rfl,hS,h0,q⟩:=h;refine⟨_,(aO (bT (pW (bR Ja (aA qb) (cF gj vC (hB "len" lJ) PySem.boot_len lM (ak (aA qd) aB)) (bD _)) (aL CK (aA qd) (aA qb) (fun _ _=>rfl)) aq))),?_⟩;push_cast;refine⟨_,.inl hS,?_⟩;split
 ·rename_i c;rw[length_map] at c;have hk:k.toNat<ns.length:=ω;have ek:k=((k.toNat:Nat):Int):=ω;have z:atI (ns.map V.int) ((k.toNat:Nat):Int)=some (.int ns[k.toNat]):=dh (by rw[getElem?_map,getElem?_eq_getElem hk];rfl);rw[<- ek] at z;unfold Um;exact⟨a,_,k,_,rfl,rfl,hS,z,q _⟩
 exact q _
theorem Nj (hB:∀x:Str,x∈BLs->mg x=none) (CZCellAt:Cal P w K mg base "_law_cell_at" 1 q7_ (GZ K)) (F:Fun K "_law_tape" "_law_tape" eX f fd):dW P w K mg base CX0 2 f fd q7_ (GR K):=by
 refine F.okq BR (fun vs H Q E h=>?_) (fun cdv A outer s H vs Q E hr h=>?_)
 ·obtain⟨a,ns,k,rfl,_⟩:=h;rfl
 obtain⟨a,ns,k,rfl,hS,h0,h1,q⟩:=h;refine⟨_,(aF (bx mG BR.nd (bJ CZCellAt (hr.mono δ) qF FQ (ak (aA Ji) (ak (aA pZ) aB))))
  (aO (bT (cU (ak (aN cI (cF yK qC (hB "abs" Jz) PyProof.Rows.Boot.«abs» Kl (ak (aA mG) aB)) (Ie qT Ag (hB "int" Ad) boot_int Ba (ak (nG U4 (cF yK qC (hB "abs" Jz) PyProof.Rows.Boot.«abs» Kl (ak (aA mG) aB)) (aN lB aq aq) (bD _)) aB))) (ak (aN fQ (aN cI (aN bN (aN bN (aN fQ (aA mG) aq) (aN cI (aN cI aq (aA pZ)) (aA pZ))) aq) aq) aq) (ak aq aB))))))),?_⟩
 push_cast;refine⟨a,ns,k,rfl,hS,h0,fun v=>?_⟩;push_cast;refine⟨⟨δ,δ,δ⟩,?_,δ,.inl δ,.inr ω,.inr δ,δ,aK δ,fun p hp=>q p _ hp (ao hp) ⟨_,_,_,au,?_,?_,?_,Int.le_refl _,Int.le_refl _⟩⟩
 ·right;generalize (if v<0 then -v else v)=u;split <;> decide
 ·refine Int.mul_nonneg ?_ ?_
  ·split <;> omega
  generalize (if v<0 then -v else v)=u;split <;> decide
 ·exact emod_nonneg _ δ
 exact emod_lt_of_pos _ δ
theorem Cj {n:Nat}(hB:∀x:Str,x∈BLs->mg x=none) (hn:n<=10) (CZTake:Cal P w K mg base "_law_take" n q0_ (jo n)) (F:Fun K "_law_take" "_law_take" eY f fd):dW P w K mg base CX0 (n+1) f fd q0_ (jo (n+1)):=by
 refine F.okq lY (fun vs H Q E h=>?_) (fun cdv A outer s H vs Q E hr h=>?_)
 ·obtain⟨p,m,B,rfl,_⟩:=h;rfl
 obtain⟨p,m,B,rfl,⟨a,b,c,hp,ha,hb0,hb1,hc0,hc1⟩,hB0,hm0,hm1,hn1,hn2,q⟩:=h;refine⟨_,(aF (fP (bR Pr (aL bh (aA cD) aq (fun _ _=>rfl)) aq (bD _)) (aF (bx ju lY.nd (aN fQ (aL bh (aA cD) aq (fun _ _=>rfl)) (aA jw)))
  (aF (uZ (aN xu (aL bh (aA cD) aq (fun _ _=>rfl)) (aA jw)) (u9 (aA cD) aq G4))
  (aO (bT (aA ju))))) eN)
  (aF (uZ (aN bN (aL bh (aA cD) aq (fun _ _=>rfl)) aq) (u9 (aA cD) aq G4))
  (aF (bx xQ lY.nd (aL bh (cU (ak aq (ak aq (ak aq (ak aq (ak aq (ak aq (ak aq aB)))))))) (aN fQ (aL bh (aA cD) aq (fun _ _=>rfl)) aq) (fun _ _=>rfl)))
  (aF (bx p8 lY.nd (aN fQ (aN cI (aN bN (aL bh (aA cD) aq (fun _ _=>rfl)) (aN cI aq (aL bh (aA cD) aq (fun _ _=>rfl)))) (aN bN aq (aL bh (aA cD) aq (fun _ _=>rfl)))) (aA xQ)))
  (aF (uZ (aN fQ (aN bN (aN cI (aA p8) (aN bN (aN fQ (aA p8) aq) aq)) (aL bh (aA cD) aq (fun _ _=>rfl))) aq) (u9 (aA cD) aq G4))
  (aF (bx ju lY.nd (aN xu (aN fQ (aN cI (aL bh (aA cD) aq (fun _ _=>rfl)) (aN bN (aN fQ (aL bh (aA cD) aq (fun _ _=>rfl)) aq) aq)) aq) aq))
  (aO (bT (pW (bR Ja (aA jw) (aN lB aq aq) (bD _)) (aN fQ (aA ju) (aA jw)) (aN fQ (aN bN (aN cI (aA ju) aq) (bJ CZTake (hr.mono ω) vB bZ (ak (aA cD) (ak aq aB)))) (aA jw))))))))))),?_⟩
 push_cast [hp];split
 ·refine⟨hm0,⟨hm0,hm1⟩,?_⟩;refine q _ _ (emod_nonneg _ ω) (emod_lt_of_pos _ hm0) aV.upd ⟨_,_,_,au,Int.ediv_nonneg ha ω,hb0,hb1,hc0,ω⟩
 refine⟨aK δ,fun p1 hp1=>?_⟩;have np:p≠p1:=fun z=>by rw[<- z,au] at hp1;cases hp1
 push_cast [hp,aG np,ne_eq,np,not_false_eq_true];obtain⟨v,hv,v0⟩:=Rm (c+1);have m1:∀x:Int,0<=x%40009/\x%40009<40009:=fun x=>⟨emod_nonneg _ δ,emod_lt_of_pos _ δ⟩;have m2:∀x:Int,0<=x%1009/\x%1009<1009:=fun x=>⟨emod_nonneg _ δ,emod_lt_of_pos _ δ⟩;have m3:∀x:Int,0<=x%2147483629/\x%2147483629<2147483629:=fun x=>⟨emod_nonneg _ δ,emod_lt_of_pos _ δ⟩;refine⟨δ,_,hv,.inl δ,.inr ω,v,rfl,v0,δ,.inr ?_,δ,δ,.inr ?_,δ,δ,δ,?_⟩
 ·have:=m1 ((b+39373*(c+1))*(48271+(c+1))%v);omega
 ·have:=m2 (((b+39373*(c+1))*(48271+(c+1))%v*((b+39373*(c+1))*(48271+(c+1))%v%40009+7)+(c+1))%2147483629);omega
 have e3:=m3 ((b+39373*(c+1))*(48271+(c+1))%v*((b+39373*(c+1))*(48271+(c+1))%v%40009+7)+(c+1));generalize ((b+39373*(c+1))*(48271+(c+1))%v*((b+39373*(c+1))*(48271+(c+1))%v%40009+7)+(c+1))%2147483629=y at e3 |-;have sx:aV p H (upd (upd (upd H p (HO.lst [V.int a,V.int b,V.int (c+1)])) p1 (HO.lst [V.int 2147483587,V.int 2147483579,V.int 2147483563,V.int 2147483549,V.int 2147483543,V.int 2147483497,V.int 2147483489])) p (HO.lst [V.int a,V.int y,V.int (c+1)])):=
  (aV.upd.trans (ao hp1).x).trans aV.upd
 have tp:bU (upd (upd (upd H p (HO.lst [V.int a,V.int b,V.int (c+1)])) p1 (HO.lst [V.int 2147483587,V.int 2147483579,V.int 2147483563,V.int 2147483549,V.int 2147483543,V.int 2147483497,V.int 2147483489])) p (HO.lst [V.int a,V.int y,V.int (c+1)])) p (B+1):=
  ⟨a,y,c+1,au,ha,e3.1,e3.2,ω,ω⟩
 generalize upd (upd (upd H p (HO.lst [V.int a,V.int b,V.int (c+1)])) p1 (HO.lst [V.int 2147483587,V.int 2147483579,V.int 2147483563,V.int 2147483549,V.int 2147483543,V.int 2147483497,V.int 2147483489])) p (HO.lst [V.int a,V.int y,V.int (c+1)])=H2 at sx tp |-;split
 ·refine⟨hm0,q _ _ (emod_nonneg _ ω) (emod_lt_of_pos _ hm0) sx ?_⟩;obtain⟨a',b',c',z1,z2,z3,z4,z5,z6⟩:=tp;exact⟨a',b',c',z1,z2,z3,z4,z5,ω⟩
 rename_i hm;have hm':1000000<=m:=by
  rw[show(10:Int)^Int.toNat 6=1000000 from by decide] at hm;omega
 have hn3:=hn2 hm';refine⟨.inr δ,p,99991,B+1,rfl,tp,ω,δ,δ,ω,fun z=>absurd z δ,fun r H3 r0 r1 s3 t3=>?_⟩;push_cast;refine⟨hm0,q _ _ (emod_nonneg _ ω) (emod_lt_of_pos _ hm0) (sx.trans s3) ?_⟩;obtain⟨a',b',c',z1,z2,z3,z4,z5,z6⟩:=t3;exact⟨a',b',c',z1,z2,z3,z4,z5,ω⟩
theorem Dz:dW P w K mg base CX0 0 f fd q0_ (jo 0):=by
 have no:∀vs H Q E,¬jo 0 vs H Q E:=fun vs H Q E h=>by
  obtain⟨p,m,B,_,_,_,_,_,h1,_⟩:=h;omega
 exact⟨fun vs H Q E h=>absurd h (no vs H Q E),fun A outer s H args us vs Q E _ _ _ _ h=>absurd h (no vs H Q E)⟩
noncomputable abbrev cR:Stmt:=top 17
theorem La:bF q6_ ["_law_found","_law_due"] (aj cR):=⟨rfl,rfl,rfl,ψ,rfl,ψ,ψ⟩
noncomputable abbrev N3_:List Str:=["_law_found","_law_due"]
theorem dI:NM_ N3_ cR 0 "_law_found" := .of ψ
theorem dj:NM_ N3_ cR 1 "_law_due" := .of ψ
theorem Aj:GI_ cR "all" := by decide +kernel
theorem jA:GI_ cR "bool" := by decide +kernel
theorem Ai:GI_ cR "int" := by decide +kernel
theorem aP:GI_ cR "isinstance" := by decide +kernel
theorem qG:GI_ cR "len" := by decide +kernel
theorem jz:GI_ cR "list" := by decide +kernel
theorem lK:GI_ cR "str" := by decide +kernel
theorem je:GI_ cR "tuple" := by decide +kernel
theorem Ah:GI_ cR "zip" := by decide +kernel
theorem Dm:Bn "_law_same" := ⟨ψ,ψ⟩
theorem Nk {n:Nat}(hB:∀x:Str,x∈BLs->mg x=none) (CZSame:Cal P w K mg base "_law_same" n q6_ (jK n)) (F:Fun K "_law_same" "_law_same" cR f fd):dW P w K mg base CX0 (n+1) f fd q6_ (jK (n+1)):=by
 refine F.okq La (fun vs H Q E h=>?_) (fun cdv A outer s H vs Q E hr h=>?_)
 ·obtain⟨x,y,ok,d,rfl,_⟩:=h;rfl
 obtain⟨x,y,ok,d,rfl,tx,ty,hd,q⟩:=h;refine⟨_,(aF (fP (uY (cF Fw aP (hB "isinstance" bB) boot_isinstance bC (ak (aA dj) (ak (dR (ak (iI "list" jz (hB "list" pF) boot_list vP) (ak (iI "tuple" je (hB "tuple" mL) boot_tuple mY) aB))) aB)))) (aF (fP (HW (Pb (bR (jt hr.cj) (cF cW aP (hB "isinstance" bB) boot_isinstance bC (ak (aA dI) (ak (iI "list" jz (hB "list" pF) boot_list vP) aB))) (cF cW aP (hB "isinstance" bB) boot_isinstance bC (ak (aA dj) (ak (iI "list" jz (hB "list" pF) boot_list vP) aB))) (bD _)) (HS (bR (jt hr.cj) (cF cW aP (hB "isinstance" bB) boot_isinstance bC (ak (aA dI) (ak (iI "tuple" je (hB "tuple" mL) boot_tuple mY) aB))) (cF cW aP (hB "isinstance" bB) boot_isinstance bC (ak (aA dj) (ak (iI "tuple" je (hB "tuple" mL) boot_tuple mY) aB))) (bD _))))) (aO (bT w6)) eN)
  (aF (fP (bR (jt hr.cj) (cF gO qG (hB "len" lJ) PySem.boot_len lM (ak (aA dI) aB)) (cF gO qG (hB "len" lJ) PySem.boot_len lM (ak (aA dj) aB)) (bD _)) (aO (bT w6)) eN)
  (aO (bT (cF (Fz rfl) Aj (hB "all" Sg) PyProof.Rows.Boot.«all» TX (ak (eZ (NX:=["_law_found","_law_due"]) (kX:=(aj cR).names) ["_law_one","_law_other"] [none,none] rfl rfl ⟨rfl,ψ,ψ,ψ,ψ⟩ rfl (Lz Ah (hB "zip" Jw) (ak (aA dI) (ak (aA dj) aB))) (fun _ _ _ _ _=>(iZ (n:=2) rfl (bM (cg 0 (show List.Nodup (["_law_one","_law_other"]:List Str) from by decide +kernel) rfl (Or.inl rfl)) (bM (cg 1 (show List.Nodup (["_law_one","_law_other"]:List Str) from by decide +kernel) rfl (Or.inl rfl)) gh)))) (fun _ _ _ _ _=>gF) (fun _ _ _ _ _=>(bJ CZSame (hr.mono ω) rfl Dm (ak (dJ 0) (ak (dJ 1) aB))))) aB)))))) eN)
  (aF (fP (HW (Pb (bR RQ (aA dj) Q7 (bD _)) (HS (uY (cF cW aP (hB "isinstance" bB) boot_isinstance bC (ak (aA dj) (ak (iI "str" lK (hB "str" Ac) boot_str Az) aB))))))) (aO (bT (vd (nG (eO hr.cj) (aA dI) (aA dj) (bD _)) (zq (nG (eO hr.cj) (cF cW aP (hB "isinstance" bB) boot_isinstance bC (ak (aA dI) (ak (iI "str" lK (hB "str" Ac) boot_str Az) aB))) (cF cW aP (hB "isinstance" bB) boot_isinstance bC (ak (aA dj) (ak (iI "str" lK (hB "str" Ac) boot_str Az) aB))) (bD _)))))) eN)
  (aF (fP (uY (cF cW aP (hB "isinstance" bB) boot_isinstance bC (ak (aA dj) (ak (iI "bool" jA (hB "bool" vy) boot_bool vQ) aB)))) (aO (bT (vd (cF cW aP (hB "isinstance" bB) boot_isinstance bC (ak (aA dI) (ak (iI "bool" jA (hB "bool" vy) boot_bool vQ) aB))) (zq (nG (eO hr.cj) (aA dI) (aA dj) (bD _)))))) eN)
  (aO (bT (vd (cF cW aP (hB "isinstance" bB) boot_isinstance bC (ak (aA dI) (ak (iI "int" Ai (hB "int" Ad) boot_int Ba) aB))) (vd (Q6 (cF cW aP (hB "isinstance" bB) boot_isinstance bC (ak (aA dI) (ak (iI "bool" jA (hB "bool" vy) boot_bool vQ) aB)))) (zq (nG (eO hr.cj) (aA dI) (aA dj) (bD _)))))))))),?_⟩
 cases tx with
 | non=>cases ty;push_cast;exact⟨aK δ,fun t ht=>q _ (ao ht)⟩
 | bl b=>cases ty;push_cast;exact⟨aK δ,fun t ht=>q _ (ao ht)⟩
 | int i=>cases ty;push_cast;exact⟨aK δ,fun t ht=>q _ (ao ht)⟩
 | str x=>cases ty;push_cast;exact⟨aK δ,fun t ht=>q _ (ao ht)⟩
 | lst o1 e1 z1 ts1=>
  rename_i p1 xs1 ds;cases ty with
  | lst o2 e2 z2 ts2=>
   rename_i p2 xs2;have l1:=ts1.length;have l2:=ts2.length;push_cast [e1,e2];refine⟨aK δ,fun t ht=>?_⟩;have s1:=ao (o:=HO.tup [V.ty "list",V.ty "tuple"]) ht;have e1:=s1 _ _ e1;have e2:=s1 _ _ e2;generalize upd H t (HO.tup [V.ty "list",V.ty "tuple"])=H1 at s1 e1 e2 |-;push_cast [e1,e2];rw[decide_eq_true (show(xs1.length:Int)=(xs2.length:Int) by omega),Bool.not_true,if_neg δ];refine fK fun R hR=>?_;push_cast [e1,e2];obtain⟨Pc,hPc⟩:∃Pv:Nat->List V->L2.St->Hp->Prop,Pv=fun(i:Nat) acc τ H'=>∃(o0 o1:Option V),Same H1 H'/\acc=(List.replicate i true).map V.bl/\τ=[o0,o1]:=⟨_,rfl⟩;refine Ow hR (xs:=xs1) (ys:=xs2) (aK z1) ω Pc (by rw[hPc];exact⟨_,_,Same.refl _,rfl,rfl⟩) ?_ ?_ ?_ ?_
   ·intro i acc τ H2 pc;rw[hPc] at pc;obtain⟨_,_,_,rfl,_⟩:=pc;simp
   ·intro i acc τ H2 pc;rw[hPc] at pc;obtain⟨_,_,s2,_,_⟩:=pc;exact⟨s2 _ _ e1,s2 _ _ e2⟩
   ·intro i x y acc τ H2 r hx hy pc hr2;rw[hPc] at pc;obtain⟨o0,o1,s2,rfl,rfl⟩:=pc;obtain⟨dx,hdx,tx⟩:=ts1.get hx;obtain⟨dy,hdy,ty⟩:=ts2.get hy;rw[hdx] at hdy;cases hdy;have s3:=ao (o:=HO.tup [x,y]) hr2;have s13:=(s1.trans s2).trans s3;push_cast;refine⟨x,y,ok,dx,rfl,tx.same s13,ty.same s13,by have:=(t7 (mem_of_getElem? hdx)).1;omega,fun H4 s4=>?_⟩;rw[hPc];refine⟨_,_,(s2.trans s3).trans s4,?_,rfl⟩;rw[List.replicate_succ',map_append];rfl
   intro acc τ H2 d2 pc hd2;rw[hPc] at pc;obtain⟨o0,o1,s2,rfl,rfl⟩:=pc;have s3:=s1.trans (s2.trans (ao (o:=HO.lst ((List.replicate xs1.length true).map V.bl)) hd2));have e3:upd H2 d2 (HO.lst ((List.replicate xs1.length true).map V.bl)) d2=_:=au;generalize upd H2 d2 (HO.lst ((List.replicate xs1.length true).map V.bl))=H3 at s3 e3 |-;push_cast [e3];refine⟨_,rfl,?_⟩;rw[show(List.replicate xs1.length true).all id=true by simp];exact q _ s3
 | tup o1 e1 z1 ts1=>
  rename_i p1 xs1 ds;cases ty with
  | tup o2 e2 z2 ts2=>
   rename_i p2 xs2;have l1:=ts1.length;have l2:=ts2.length;push_cast [e1,e2];refine⟨aK δ,fun t ht=>?_⟩;have s1:=ao (o:=HO.tup [V.ty "list",V.ty "tuple"]) ht;have e1:=s1 _ _ e1;have e2:=s1 _ _ e2;generalize upd H t (HO.tup [V.ty "list",V.ty "tuple"])=H1 at s1 e1 e2 |-;push_cast [e1,e2];rw[decide_eq_true (show(xs1.length:Int)=(xs2.length:Int) by omega),Bool.not_true,if_neg δ];refine fK fun R hR=>?_;push_cast [e1,e2];obtain⟨Pc,hPc⟩:∃Pv:Nat->List V->L2.St->Hp->Prop,Pv=fun(i:Nat) acc τ H'=>∃(o0 o1:Option V),Same H1 H'/\acc=(List.replicate i true).map V.bl/\τ=[o0,o1]:=⟨_,rfl⟩;refine Ov hR (xs:=xs1) (ys:=xs2) (aK z1) ω Pc (by rw[hPc];exact⟨_,_,Same.refl _,rfl,rfl⟩) ?_ ?_ ?_ ?_
   ·intro i acc τ H2 pc;rw[hPc] at pc;obtain⟨_,_,_,rfl,_⟩:=pc;simp
   ·intro i acc τ H2 pc;rw[hPc] at pc;obtain⟨_,_,s2,_,_⟩:=pc;exact⟨s2 _ _ e1,s2 _ _ e2⟩
   ·intro i x y acc τ H2 r hx hy pc hr2;rw[hPc] at pc;obtain⟨o0,o1,s2,rfl,rfl⟩:=pc;obtain⟨dx,hdx,tx⟩:=ts1.get hx;obtain⟨dy,hdy,ty⟩:=ts2.get hy;rw[hdx] at hdy;cases hdy;have s3:=ao (o:=HO.tup [x,y]) hr2;have s13:=(s1.trans s2).trans s3;push_cast;refine⟨x,y,ok,dx,rfl,tx.same s13,ty.same s13,by have:=(t7 (mem_of_getElem? hdx)).2;omega,fun H4 s4=>?_⟩;rw[hPc];refine⟨_,_,(s2.trans s3).trans s4,?_,rfl⟩;rw[List.replicate_succ',map_append];rfl
   intro acc τ H2 d2 pc hd2;rw[hPc] at pc;obtain⟨o0,o1,s2,rfl,rfl⟩:=pc;have s3:=s1.trans (s2.trans (ao (o:=HO.lst ((List.replicate xs1.length true).map V.bl)) hd2));have e3:upd H2 d2 (HO.lst ((List.replicate xs1.length true).map V.bl)) d2=_:=au;generalize upd H2 d2 (HO.lst ((List.replicate xs1.length true).map V.bl))=H3 at s3 e3 |-;push_cast [e3];refine⟨_,rfl,?_⟩;rw[show(List.replicate xs1.length true).all id=true by simp];exact q _ s3
theorem same_none:dW P w K mg base CX0 0 f fd q6_ (jK 0):=by
 have no:∀vs H Q E,¬jK 0 vs H Q E:=fun vs H Q E h=>by
  obtain⟨x,y,ok,d,_,_,_,h1,_⟩:=h;omega
 exact⟨fun vs H Q E h=>absurd h (no vs H Q E),fun A outer s H args us vs Q E _ _ _ _ h=>absurd h (no vs H Q E)⟩
noncomputable abbrev aQ:Stmt:=top 12
theorem bQ:bF ["_law_tape_here","_law_many","_law_low","_law_labels","_law_found","_law_k","_law_far","_law_wide","_law_label"] ["_law_tape_here","_law_many"] (aj aQ):=⟨rfl,rfl,rfl,ψ,rfl,ψ,ψ⟩
noncomputable abbrev N4_:List Str:=["_law_tape_here","_law_many","_law_low","_law_labels","_law_found","_law_k","_law_far","_law_wide","_law_label"]
theorem bH:NM_ N4_ aQ 0 "_law_tape_here" := .of ψ
theorem rO:NM_ N4_ aQ 1 "_law_many" := .of ψ
theorem eF:NM_ N4_ aQ 2 "_law_low" := .of ψ
theorem fL:NM_ N4_ aQ 3 "_law_labels" := .of ψ
theorem eE:NM_ N4_ aQ 4 "_law_found" := .of ψ
theorem rN:NM_ N4_ aQ 5 "_law_k" := .of ψ
theorem jZ:NM_ N4_ aQ 6 "_law_far" := .of ψ
theorem dZ:NM_ N4_ aQ 7 "_law_wide" := .of ψ
theorem dY:NM_ N4_ aQ 8 "_law_label" := .of ψ
theorem aU:GI_ aQ "_law_take" := by decide +kernel
theorem oV:GI_ aQ "max" := by decide +kernel
theorem mU:GI_ aQ "range" := by decide +kernel
theorem vU:Bn "_law_stretches" := ⟨ψ,ψ⟩
theorem RX (hB:∀x:Str,x∈BLs->mg x=none) (CZTake:Cal P w K mg base "_law_take" 2 q0_ (jo 2)) (F:Fun K "_law_stretches" "_law_stretches" aQ f fd):dW P w K mg base CX0 3 f fd q0_ O8:=by
 refine F.okq bQ (fun vs H Q E h=>?_) (fun cdv A outer s H vs Q E hr h=>?_)
 ·obtain⟨p,m,B,rfl,_⟩:=h;rfl
 obtain⟨p,m,B,rfl,tp,hB0,hB1,hm1,hm2,q⟩:=h;refine⟨_,(aF (bx eF bQ.nd (aL bh (cU (ak aq (ak (aN nH (bJ CZTake (hr.mono δ) aU bZ (ak (aA bH) (ak aq aB))) aq) (ak (aN nH (bJ CZTake (hr.mono δ) aU bZ (ak (aA bH) (ak (aN lB aq aq) aB))) (aN lB aq aq)) (ak (aN nH aq (aN RL aq aq)) aB))))) (bJ CZTake (hr.mono δ) aU bZ (ak (aA bH) (ak aq aB))) (fun _ _=>rfl)))
  (aF (bx fL bQ.nd (aN bN aq (bJ CZTake (hr.mono δ) aU bZ (ak (aA bH) (ak aq aB)))))
  (aF (bx eE bQ.nd (cU aB))
  (aF (iu PassesOwn.never rfl (iH mU (hB "range" iQ) (ak (aA rO) aB)) (gD rN bQ.nd)
  (aF (bx jZ bQ.nd (aL bh (cU (ak (aN lB aq aq) (ak (aN lB aq aq) aB))) (bJ CZTake (hr.mono δ) aU bZ (ak (aA bH) (ak aq aB))) (fun _ _=>rfl)))
  (aF (bx dZ bQ.nd (cU (ak aq (ak aq (ak aq (ak (aN bN aq (bJ CZTake (hr.mono δ) aU bZ (ak (aA bH) (ak aq aB)))) (ak (aN bN aq (bJ CZTake (hr.mono δ) aU bZ (ak (aA bH) (ak aq aB)))) (ak (aN bN aq (bJ CZTake (hr.mono δ) aU bZ (ak (aA bH) (ak (aA jZ) aB)))) aB))))))))
  (aF (bx dZ bQ.nd (aL bh (aA dZ) (cF (Fq rfl) oV (hB "max" Sd) boot_max TV (ak aq (ak (aN nH (bJ CZTake (hr.mono δ) aU bZ (ak (aA bH) (ak aq aB))) aq) aB))) (fun _ _=>rfl)))
  (aF (bx dY bQ.nd (bJ CZTake (hr.mono δ) aU bZ (ak (aA bH) (ak (aA fL) aB))))
  (aF (fP (HW (zm (bR (RN hr.cj) (aA eE) (cU aB) (bD _)) (uX (bR (eO hr.cj) (aL bh (aL bh (aA eE) (Pj uz aq) (fun _ _=>rfl)) aq (fun _ _=>rfl)) (aA dY) (bD _))))) (aO (bx dY bQ.nd (aN fQ (aN bN (aN bN (aA dY) aq) (bJ CZTake (hr.mono δ) aU bZ (ak (aA bH) (ak (aN nH (aA fL) aq) aB)))) (aA fL)))) eN)
  (aF (iY (mz (aA eE) (dR (ak (aA eF) (ak (aN nH (aN bN (aA eF) (aA dZ)) aq) (ak (aA dY) aB))))))
  (aO (bx eF bQ.nd (aN bN (aA eF) (aA dZ)))))))))))
  (aO (bT (aA eE))))))),?_⟩
 refine aY fun k hk=>?_;push_cast;refine⟨p,100,B,rfl,tp,by show B+2<=1000100;omega,δ,δ,δ,fun z=>absurd z δ,fun r1 H1 r10 r11 s1 tp1=>?_⟩;push_cast;refine⟨⟨δ,δ,δ⟩,?_⟩;refine⟨p,10^9,B+2,rfl,tp1,by show B+2+2<=1000100;omega,δ,δ,δ,fun z=>by decide,fun r2 H2 r20 r21 s2 tp2=>?_⟩;push_cast [Int.one_mul];refine⟨⟨δ,δ,δ⟩,?_⟩;refine⟨⟨δ,δ,δ⟩,aK δ,fun l0 hl0=>?_⟩;have s3:=ao (o:=HO.lst [V.int 0,V.int (r1-50),V.int (r2-10^Int.toNat 8),V.int (0-2^Int.toNat 39)]) hl0;have tp3:=tp2.same s3;have n3:=tp2.ne hl0;have e3:upd H2 l0 (HO.lst [V.int 0,V.int (r1-50),V.int (r2-10^Int.toNat 8),V.int (0-2^Int.toNat 39)]) l0=_:=au;generalize upd H2 l0 (HO.lst [V.int 0,V.int (r1-50),V.int (r2-10^Int.toNat 8),V.int (0-2^Int.toNat 39)])=H3 at s3 tp3 e3 |-;refine⟨p,4,B+2+2,rfl,tp3,by show B+2+2+2<=1000100;omega,δ,δ,δ,fun z=>absurd z δ,fun r4 H4 r40 r41 s4 tp4=>?_⟩;obtain⟨lo,hlo,elo⟩:=jr (is:=[0,r1-50,r2-10^Int.toNat 8,0-2^Int.toNat 39]) r40 r41;replace elo:atI [V.int 0,V.int (r1-50),V.int (r2-10^Int.toNat 8),V.int (0-2^Int.toNat 39)] r4=some (.int lo):=elo;have e4:=s4 _ _ n3 e3;have blo:-(10^12)<=lo/\lo<=10^9:=by
  simp only[mem_cons,not_mem_nil,or_false] at hlo;have:(10:Int)^Int.toNat 8=100000000:=by decide
  have:(2:Int)^Int.toNat 39=549755813888:=by decide
  rcases hlo with z|z|z|z <;> omega
 have sx4:aV p H H4:=((s1.trans s2).trans s3.x).trans s4;push_cast [e4,elo];subst hk;refine aY fun k hk=>?_;push_cast;refine⟨p,4,B+2+2+2,rfl,tp4,by show B+2+2+2+2<=1000100;omega,δ,δ,δ,fun z=>absurd z δ,fun r5 H5 r50 r51 s5 tp5=>?_⟩;push_cast;subst hk;refine aY fun k hk=>?_;push_cast;refine⟨aK δ,fun l hl=>?_⟩;have sx5:=sx4.trans s5;have hlp:l≠p:=tp5.ne hl;have Hl:H l=none:=(qO sx5 tp5 hl).2;have s6:=ao (o:=HO.lst []) hl;have tp6:=tp5.same s6;have e6:upd H5 l (HO.lst []) l=_:=au;generalize upd H5 l (HO.lst [])=H6 at s6 tp6 e6 |-;have sx6:=sx5.trans s6.x;subst hk;obtain⟨OD,hOD⟩:∃OD:Addr->Prop,OD=fun a=>a≠p/\a≠l:=⟨_,rfl⟩;have kd:∀{H H':Hp},aV p H H'->∀a o,OD a->H a=some o->OD a/\H' a=some o:=fun {H H'} sx a o h e=>by
  refine⟨h,sx a o ?_ e⟩;rw[hOD] at h;exact h.1
 refine aY fun k hk=>?_;refine kO fun R hR=>?_;push_cast [qz];refine⟨ω,ω,?_⟩;obtain⟨Pv,hPv⟩:∃Pv:Nat->L2.St->Hp->Prop,Pv=fun(i:Nat) σ H'=>∃(xs:List V)(ss:List (Int×Int×Int)) (lo:Int) (o5 o6 o7 o8:Option V),aV p H H'/\bU H' p (B+8+18*(i:Int))/\H' l=some (.lst xs)/\aJ OD H' xs (ss.map stD)/\ss.length=i/\pB ss /\
  (∀s,ss[ss.length-1]?=some s->lo=s.2.1+1)/\-(10^12)<=lo/\lo<=10^9+(10^12+10)*(i:Int)/\σ=[some (.ref p),some (.int m),some (.int lo),some (.int (2+r5)),some (.ref l),o5,o6,o7,o8]:=⟨_,rfl⟩
 refine J1 hR Pv (by rw[hPv];exact⟨[],[],lo,_,_,_,_,sx6,tp6.le (by show B+2+2+2+2<=B+8+18*((0:Nat):Int);omega),e6,.nil,rfl,pB.nil,fun s h=>(by cases h),blo.1,by show lo<=10^9+(10^12+10)*((0:Nat):Int);omega,rfl⟩) ?_ ?_
 ·intro i σ H7 hi pv;rw[hPv] at pv;obtain⟨xs,ss,lo,o5,o6,o7,o8,sx7,tp7,e7,ts7,hsl,row,hlast,bl1,bl2,rfl⟩:=pv;have hi60:i<60:=ω;refine aY fun k2 hk2=>?_;push_cast;refine⟨⟨δ,δ,δ⟩,⟨δ,δ,δ⟩,aK δ,fun l1 hl1=>?_⟩;have s8:=ao (o:=HO.lst [V.int (10^Int.toNat 9),V.int (10^Int.toNat 12)]) hl1;have tp8:=tp7.same s8;have n8:=tp7.ne hl1;have e8:=s8 _ _ e7;have ts8:=ts7.same s8;have e81:upd H7 l1 (HO.lst [V.int (10^Int.toNat 9),V.int (10^Int.toNat 12)]) l1=_:=au;generalize upd H7 l1 (HO.lst [V.int (10^Int.toNat 9),V.int (10^Int.toNat 12)])=H8 at s8 tp8 e8 ts8 e81 |-;have sx8:=sx7.trans s8.x;refine⟨p,2,B+8+18*(i:Int),rfl,tp8,by show B+8+18*(i:Int)+2<=1000100;omega,δ,δ,δ,fun z=>absurd z δ,fun r9 H9 r90 r91 s9 tp9=>?_⟩;obtain⟨far,hfar,efar⟩:=jr (is:=[10^Int.toNat 9,10^Int.toNat 12]) r90 r91;replace efar:atI [V.int (10^Int.toNat 9),V.int (10^Int.toNat 12)] r9=some (.int far):=efar;have e91:=s9 _ _ n8 e81;have e9:=s9 _ _ hlp e8;have ts9:=ts8.keep (kd s9);have sx9:=sx8.trans s9;have bfar:10^9<=far/\far<=10^12:=by
   simp only[mem_cons,not_mem_nil,or_false] at hfar;have:(10:Int)^Int.toNat 9=1000000000:=by decide
   have:(10:Int)^Int.toNat 12=1000000000000:=by decide
   rcases hfar with z|z <;> omega
  push_cast [e91,efar];subst hk2;refine aY fun k2 hk2=>?_;push_cast;refine⟨p,4,B+8+18*(i:Int)+2,rfl,tp9,by show B+8+18*(i:Int)+2+2<=1000100;omega,δ,δ,δ,fun z=>absurd z δ,fun u1 H10 u10 u11 s10 tp10=>?_⟩;push_cast;refine⟨p,30,B+8+18*(i:Int)+2+2,rfl,tp10,by show B+8+18*(i:Int)+2+2+2<=1000100;omega,δ,δ,δ,fun z=>absurd z δ,fun u2 H11 u20 u21 s11 tp11=>?_⟩;push_cast;refine⟨p,far,B+8+18*(i:Int)+2+2+2,rfl,tp11,by show B+8+18*(i:Int)+2+2+2+2<=1000100;omega,ω,ω,δ,fun _=>by decide,fun u3 H12 u30 u31 s12 tp12=>?_⟩;push_cast;refine⟨aK δ,fun l2 hl2=>?_⟩;have e12:=s12 _ _ hlp (s11 _ _ hlp (s10 _ _ hlp e9));have ts12:=((ts9.keep (kd s10)).keep (kd s11)).keep (kd s12);have sx12:=((sx9.trans s10).trans s11).trans s12;have s13:=ao (o:=HO.lst [V.int 1,V.int 1,V.int 1,V.int (2+u1),V.int (2+u2),V.int (1+u3)]) hl2;have tp13:=tp12.same s13;have n13:=tp12.ne hl2;have e13:=s13 _ _ e12;have ts13:=ts12.same s13;have e132:upd H12 l2 (HO.lst [V.int 1,V.int 1,V.int 1,V.int (2+u1),V.int (2+u2),V.int (1+u3)]) l2=_:=au;generalize upd H12 l2 (HO.lst [V.int 1,V.int 1,V.int 1,V.int (2+u1),V.int (2+u2),V.int (1+u3)])=H13 at s13 tp13 e13 ts13 e132 |-;have sx13:=sx12.trans s13.x;subst hk2;refine aY fun k2 hk2=>?_;push_cast;refine⟨p,11,B+8+18*(i:Int)+2+2+2+2,rfl,tp13,by show B+8+18*(i:Int)+2+2+2+2+2<=1000100;omega,δ,δ,δ,fun z=>absurd z δ,fun u4 H14 u40 u41 s14 tp14=>?_⟩;have e14:=s14 _ _ hlp e13;have ts14:=ts13.keep (kd s14);have sx14:=sx13.trans s14;have e142:=s14 _ _ n13 e132;have bu:0<=(if u4-5>0 then u4-5 else 0)/\(if u4-5>0 then u4-5 else 0)<6:=by split <;> omega
  obtain⟨wide,hwide,ewide⟩:=jr (is:=[1,1,1,2+u1,2+u2,1+u3]) bu.1 bu.2;replace ewide:atI [V.int 1,V.int 1,V.int 1,V.int (2+u1),V.int (2+u2),V.int (1+u3)] (if u4-5>0 then u4-5 else 0)=some (.int wide):=ewide;have bwide:1<=wide/\wide<=10^12:=by
   simp only[mem_cons,not_mem_nil,or_false] at hwide;rcases hwide with z|z|z|z|z|z <;> omega
  push_cast [e142,ewide];subst hk2;refine aY fun k2 hk2=>?_;push_cast;refine⟨p,2+r5,B+8+18*(i:Int)+2+2+2+2+2,rfl,tp14,by show B+8+18*(i:Int)+2+2+2+2+2+2<=1000100;omega,ω,ω,δ,fun z=>absurd z ω,fun lab H15 lab0 lab1 s15 tp15=>?_⟩;have e15:=s15 _ _ hlp e14;have ts15:=ts14.keep (kd s15);have sx15:=sx14.trans s15;push_cast;subst hk2;refine aY fun k2 hk2=>?_;have rest:∀(b:Int) H16 o5 o6,0<=b->b<=9->aV p H H16->H16 l=some (.lst xs)->aJ OD H16 xs (ss.map stD)->bU H16 p (B+8+18*(i:Int)+14)->k2 [some (.ref p),some (.int m),some (.int lo),some (.int (2+r5)),some (.ref l),o5,o6,some (.int wide),some (.int b)] H16:=by
   intro b H16 o5 o6 b0 b9 sx16 e16 ts16 tp16;subst hk2;refine aY fun k3 hk3=>?_;push_cast [e16];refine⟨aK δ,fun t ht=>?_⟩;have s17:=ao (o:=HO.tup [V.int lo,V.int (lo+wide-1),V.int b]) ht;have e17:=s17 _ _ e16;have tp17:=tp16.same s17;have ts17:=ts16.same s17;have nt:t≠p:=tp16.ne ht;have nl:t≠l:=(aD e16 ht).symm;have et:upd H16 t (HO.tup [V.int lo,V.int (lo+wide-1),V.int b]) t=_:=au;generalize upd H16 t (HO.tup [V.int lo,V.int (lo+wide-1),V.int b])=H17 at s17 e17 tp17 ts17 et |-;have hxl:=ts17.length;rw[length_map] at hxl;push_cast [e17];refine⟨lt_of_lt_of_le (show xs.length<1000000 by omega) (aK (le_refl _)),?_⟩;have sx18:aV p H (upd H17 l (HO.lst (xs++[V.ref t]))):=DP (sx16.trans s17.x) Hl;have tp18:bU (upd H17 l (HO.lst (xs++[V.ref t]))) p (B+8+18*(i:Int)+14):=tp17.upd hlp;have e18:upd H17 l (HO.lst (xs++[V.ref t])) l=_:=au;have kk:∀a o,OD a->H17 a=some o->OD a/\upd H17 l (HO.lst (xs++[V.ref t])) a=some o:=fun a o h e=>by
    refine⟨h,?_⟩;rw[hOD] at h;rw[aG h.2];exact e
   have tt:aH OD H17 (.ref t) (stD (lo,lo+wide-1,b)):=.tup (by rw[hOD];exact⟨nt,nl⟩) et (by show 3<=1000000;decide) (.cons (.int _) (.cons (.int _) (.cons (.int _) .nil)));have ts18:=(ts17.keep kk).append (.cons (tt.keep kk) .nil);generalize upd H17 l (HO.lst (xs++[V.ref t]))=H18 at sx18 tp18 e18 ts18 |-;subst hk3;push_cast;rw[hPv];refine⟨_,ss++[(lo,lo+wide-1,b)],lo+wide,_,_,_,_,sx18,tp18.le (by show B+8+18*(i:Int)+14<=B+8+18*((i+1:Nat):Int);omega),e18,by rw[map_append];exact ts18,by rw[length_append,length_singleton,hsl],row.snoc ω ⟨b0,b9⟩ ⟨bl1,by rw[hsl];omega⟩ hlast,fun s hs=>?_,ω,by show lo+wide<=10^9+(10^12+10)*((i+1:Nat):Int);omega,rfl⟩;rw[length_append,length_singleton,add_sub_cancel,getElem?_append_right (le_refl _),sub_self] at hs;cases hs;show lo+wide=lo+wide-1+1;omega
  refine Vd fun kt ke hkt hke=>?_;push_cast;refine⟨aK δ,fun l3 hl3=>?_⟩;have s16:=ao (o:=HO.lst []) hl3;refine⟨_,_,xs,rfl,rfl,s16 _ _ e15,au,?_⟩;have e16:=s16 _ _ e15;have ts16:=ts15.same s16;have sx16:=sx15.trans s16.x;have tp16:=tp15.same s16;generalize upd H15 l3 (HO.lst [])=H16 at s16 e16 ts16 sx16 tp16 |-;have hxl:=ts16.length;rw[length_map] at hxl;cases hx:xs.isEmpty with
  | true=>
   push_cast;subst hke;push_cast;exact rest lab H16 _ _ lab0 ω sx16 e16 ts16 (tp16.le (by show B+8+18*(i:Int)+2+2+2+2+2+2<=_;omega))
  | false=>
   have hpos:1<=xs.length:=by
    cases xs with
    | nil=>cases hx
    | cons a b=>simp
   obtain⟨j,x,hxj,hxl2⟩:=NZ xs hpos;obtain⟨ax,sx,rfl,okx,hsx,ex⟩:=ts16.st hxj;push_cast [e16,hxl2,ex];split
   ·subst hkt;push_cast;refine⟨p,2+r5-1,B+8+18*(i:Int)+2+2+2+2+2+2,rfl,tp16,by show B+8+18*(i:Int)+2+2+2+2+2+2+2<=1000100;omega,ω,ω,δ,fun z=>absurd z ω,fun u6 H17 u60 u61 s17 tp17=>?_⟩;push_cast;refine⟨ω,?_⟩;have h1:=emod_nonneg (lab+1+u6) (show(2+r5:Int)≠0 by omega);have h2:=emod_lt_of_pos (lab+1+u6) (show(0:Int)<2+r5 by omega);exact rest _ H17 _ _ h1 ω (sx16.trans s17) (s17 _ _ hlp e16) (ts16.keep (kd s17)) (tp17.le (by show B+8+18*(i:Int)+2+2+2+2+2+2+2<=_;omega))
   subst hke;push_cast;exact rest lab H16 _ _ lab0 ω sx16 e16 ts16 (tp16.le (by show B+8+18*(i:Int)+2+2+2+2+2+2<=_;omega))
 intro σ H7 pv;rw[hPv] at pv;obtain⟨xs,ss,lo,o5,o6,o7,o8,sx7,tp7,e7,ts7,hsl,row,hlast,bl1,bl2,rfl⟩:=pv;show k _ _;subst hk;push_cast;have hxl:=ts7.length;rw[length_map] at hxl;refine q l ss H7 sx7 (tp7.le ω) (.lst hlp e7 ω (ts7.keep fun a o h e=>?_)) ω row;rw[hOD] at h;exact⟨h.1,e⟩
noncomputable abbrev iG:Stmt:=top 15
theorem pO:bF ["_law_stretches_here","_law_plan","_law_place","_law_found"] ["_law_stretches_here","_law_plan","_law_place"] (aj iG):=⟨rfl,rfl,rfl,ψ,rfl,ψ,ψ⟩
noncomputable abbrev N5_:List Str:=["_law_stretches_here","_law_plan","_law_place","_law_found"]
theorem Cp:NM_ N5_ iG 0 "_law_stretches_here" := .of ψ
theorem cP:NM_ N5_ iG 1 "_law_plan" := .of ψ
theorem pD:NM_ N5_ iG 2 "_law_place" := .of ψ
theorem vm:NM_ N5_ iG 3 "_law_found" := .of ψ
theorem Ew:GI_ iG "int" := by decide +kernel
theorem TY:Bn "_law_way" := ⟨ψ,ψ⟩
theorem RW (hB:∀x:Str,x∈BLs->mg x=none) (F:Fun K "_law_way" "_law_way" iG f fd):dW P w K mg base CX0 1 f fd q9_ O7:=by
 refine F.okq pO (fun vs H Q E h=>?_) (fun cdv A outer s H vs Q E hr h=>?_)
 ·obtain⟨s,p,k,ok,ss,pl,left,rfl,_⟩:=h;rfl
 obtain⟨s,p,k,ok,ss,pl,left,rfl,hn,ts,tp,pok,hk60,hsz,q⟩:=h;refine⟨_,(aF (bx vm pO.nd (cU aB))
  (aF (wY PassesOwn.never (bR Eg (aL bh (aA cP) aq (fun _ _=>rfl)) (dR (ak cT (ak cT aB))) (by with_unfolding_all rfl)) (aF (iY (mz (aA vm) (aL bh (aA cP) aq (fun _ _=>rfl))))
  (aO (fP (bR (eO hr.cj) (aL bh (aA cP) aq (fun _ _=>rfl)) cT (bD _)) (aO (bx cP pO.nd (pW (bR Ja (aA pD) (aL bh (aA cP) aq (fun _ _=>rfl)) (bD _)) (aL bh (aA cP) aq (fun _ _=>rfl)) (aL bh (aA cP) aq (fun _ _=>rfl))))) (aO (fP (bR (eO hr.cj) (aL bh (aA cP) aq (fun _ _=>rfl)) cT (bD _)) (aO (bx cP pO.nd (pW (bR (eO hr.cj) (aL bh (aL bh (aA Cp) (aA pD) (fun _ _=>rfl)) aq (fun _ _=>rfl)) (aL bh (aA cP) aq (fun _ _=>rfl)) (bD _)) (dR (ak cT (ak (aL bh (aA cP) aq (fun _ _=>rfl)) aB))) (aL bh (aA cP) aq (fun _ _=>rfl))))) (aO (bx cP pO.nd (pW (bR (eO hr.cj) (aA pD) (aL bh (aA cP) aq (fun _ _=>rfl)) (bD _)) (dR (ak cT (ak (aL bh (aL bh (aA Cp) (aA pD) (fun _ _=>rfl)) aq (fun _ _=>rfl)) aB))) (aL bh (aA cP) aq (fun _ _=>rfl)))))))))))
  (aO (bT (aN bN (aA vm) (aN cI (cU (ak cT aB)) (Ie qT Ew (hB "int" Ad) boot_int Ba (ak (nG (eO hr.cj) (aL bh (aA cP) aq (fun _ _=>rfl)) cT (bD _)) aB)))))))),?_⟩
 refine aY fun k1 hk1=>?_;push_cast;refine⟨aK δ,fun a ha=>?_⟩;have s0:=ao (o:=HO.lst []) ha;have ea:upd H a (HO.lst []) a=_:=au;generalize upd H a (HO.lst [])=H0 at s0 ea |-;subst hk1;refine aY fun k1 hk1=>?_;have ts0:=ts;cases ts with
 | lst os es zs tss=>
  rename_i sa sxs;obtain⟨OD,hOD⟩:∃OD:Addr->Prop,OD=fun x=>ok x/\x≠a:=⟨_,rfl⟩;have up:∀b o,ok b->H b=some o->OD b/\H0 b=some o:=fun b o h e=>by
   rw[hOD];exact⟨⟨h,aD e ha⟩,s0 _ _ e⟩
  have tsO:aH OD H0 (.ref sa) (.list (ss.map stD)):=ts0.keep up;have tpO:aH OD H0 p (plD pl):=tp.keep up;obtain⟨Pv,hPv⟩:∃Pv:Nat->L2.St->Hp->Prop,Pv=fun m σ H'=>∃(r:Pl)(v:V)(dn:List Nat),m=bG r/\Same H H'/\H' a=some (.lst (dn.map fun i=>V.str (bV i)))/\aH OD H' (.ref sa) (.list (ss.map stD))/\aH OD H' v (plD r)/\cY ss k pl=dn++cY ss k r/\dn.length+bG r<=4000/\σ=[some (.ref sa),some v,some (.int (k:Int)),some (.ref a)]:=⟨_,rfl⟩;refine⟨Pv,⟨bG pl,?_⟩,?_⟩
  ·rw[hPv];exact⟨pl,p,[],rfl,s0,ea,tsO,tpO,rfl,by simpa using hsz,rfl⟩
  intro m σ H1 pv;rw[hPv] at pv;obtain⟨r,v,dn,rfl,s1,e1,tS1,tv1,hway,hlen,rfl⟩:=pv;have app:∀{H2:Hp}{x:V}{d:PyData}(o:HO),aH OD H2 x d->aH OD (upd H2 a o) x d:=fun o t=>t.keep fun b o' hb e=>⟨hb,by rw[hOD] at hb;rw[aG hb.2];exact e⟩;have sapp:∀{H2:Hp}(o:HO),Same H H2->Same H (upd H2 a o):=fun o s b o' hb=>by rw[aG (aD hb ha)];exact s b o' hb
  have pp:∀r:Pl,1<=bG r:=fun r=>by cases r <;> simp [bG]
  have app:∀{H2:Hp}{x:V}{d:PyData}(o:HO),aH OD H2 x d->aH OD (upd H2 a o) x d:=fun o t=>t.keep fun b o' hb e=>⟨hb,by rw[hOD] at hb;rw[aG hb.2];exact e⟩;have sapp:∀{H2:Hp}(o:HO),Same H H2->Same H (upd H2 a o):=fun o s b o' hb=>by rw[aG (aD hb ha)];exact s b o' hb
  have pp:∀r:Pl,1<=bG r:=fun r=>by cases r <;> simp [bG]
  have app:∀{H2:Hp}{x:V}{d:PyData}(o:HO),aH OD H2 x d->aH OD (upd H2 a o) x d:=fun o t=>t.keep fun b o' hb e=>⟨hb,by rw[hOD] at hb;rw[aG hb.2];exact e⟩;have sapp:∀{H2:Hp}(o:HO),Same H H2->Same H (upd H2 a o):=fun o s b o' hb=>by rw[aG (aD hb ha)];exact s b o' hb
  have pp:∀r:Pl,1<=bG r:=fun r=>by cases r <;> simp [bG]
  have app:∀{H2:Hp}{x:V}{d:PyData}(o:HO),aH OD H2 x d->aH OD (upd H2 a o) x d:=fun o t=>t.keep fun b o' hb e=>⟨hb,by rw[hOD] at hb;rw[aG hb.2];exact e⟩;have sapp:∀{H2:Hp}(o:HO),Same H H2->Same H (upd H2 a o):=fun o s b o' hb=>by rw[aG (aD hb ha)];exact s b o' hb
  have pp:∀r:Pl,1<=bG r:=fun r=>by cases r <;> simp [bG]
  cases r with
  | pick l=>
   cases tv1 with
   | tup o e z tt=>
    cases tt with
    | cons t1 tt=>
     cases t1;rename_i pa xr;push_cast [e,rdW];refine⟨aK δ,fun t ht=>⟨rfl,rfl,?_⟩⟩;rw[if_neg ψ];have s2:=ao (o:=HO.tup [V.str "pick",V.str "table"]) ht;have e2:=s2 _ _ e;have ea2:=s2 _ _ e1;generalize upd H1 t (HO.tup [V.str "pick",V.str "table"])=H2 at s2 e2 ea2 |-;subst hk1;push_cast [e2,rdW,ea2];refine⟨aK δ,fun t3 ht3=>?_⟩;have s3:=ao (o:=HO.lst [V.str "table"]) ht3;have e3:=s3 _ _ e2;have ea3:=s3 _ _ ea2;have et3:upd H2 t3 (HO.lst [V.str "table"]) t3=_:=au;generalize upd H2 t3 (HO.lst [V.str "table"])=H3 at s3 e3 ea3 et3 |-;push_cast [e3,rdW,ea3,et3];refine⟨δ,δ,aK δ,fun t4 ht4=>?_⟩;rw[show(List.replicate (Int.toNat 0) [V.str "table"]).flatten=([]:List V) from rfl];have s4:=ao (o:=HO.lst []) ht4;have ea4:=s4 _ _ ea3;generalize upd H3 t4 (HO.lst [])=H4 at s4 ea4 |-;push_cast [ea4];have hl1:dn.length+1<=4000:=hlen;refine⟨aK (by rw[length_map];omega),fun t5 ht5=>?_⟩;have s14:=((s1.trans s2).trans s3).trans s4;have h5:H t5=none:=s14.none ht5;refine q _ _ (s14.trans (ao ht5)) (hn.new h5) h5 ?_;rw[hway,map_append]
     first|exact au|(rw[show cY ss k (.pick l)=[] from rfl,map_nil,append_nil];exact au)
  | tab=>
   cases tv1 with
   | tup o e z tt=>
    cases tt with
    | cons t1 tt=>
     cases t1;rename_i pa xr;push_cast [e,rdW];refine⟨aK δ,fun t ht=>⟨rfl,rfl,?_⟩⟩;rw[if_neg ψ];have s2:=ao (o:=HO.tup [V.str "pick",V.str "table"]) ht;have e2:=s2 _ _ e;have ea2:=s2 _ _ e1;generalize upd H1 t (HO.tup [V.str "pick",V.str "table"])=H2 at s2 e2 ea2 |-;subst hk1;push_cast [e2,rdW,ea2];refine⟨aK δ,fun t3 ht3=>?_⟩;have s3:=ao (o:=HO.lst [V.str "table"]) ht3;have e3:=s3 _ _ e2;have ea3:=s3 _ _ ea2;have et3:upd H2 t3 (HO.lst [V.str "table"]) t3=_:=au;generalize upd H2 t3 (HO.lst [V.str "table"])=H3 at s3 e3 ea3 et3 |-;push_cast [e3,rdW,ea3,et3];refine⟨δ,δ,aK δ,fun t4 ht4=>?_⟩;rw[show(List.replicate (Int.toNat 1) [V.str "table"]).flatten=[V.str "table"] from rfl];have s4:=ao (o:=HO.lst [V.str "table"]) ht4;have ea4:=s4 _ _ ea3;generalize upd H3 t4 (HO.lst [V.str "table"])=H4 at s4 ea4 |-;push_cast [ea4];have hl1:dn.length+1<=4000:=hlen;refine⟨aK (by rw[length_map];omega),fun t5 ht5=>?_⟩;have s14:=((s1.trans s2).trans s3).trans s4;have h5:H t5=none:=s14.none ht5;refine q _ _ (s14.trans (ao ht5)) (hn.new h5) h5 ?_;rw[hway,map_append]
     first|exact au|(rw[show cY ss k (.pick l)=[] from rfl,map_nil,append_nil];exact au)
  | one j r=>
   cases tv1 with
   | tup o e z tt=>
    cases tt with
    | cons t1 tt=>
     cases t1;cases tt with
     | cons t2 tt=>
      cases t2;cases tt with
      | cons t3 tt=>
       cases tt;rename_i pa x3;push_cast [e,rdW];refine⟨aK δ,fun t ht=>⟨rfl,rfl,?_⟩⟩;rw[if_pos ψ];have s2:=ao (o:=HO.tup [V.str "pick",V.str "table"]) ht;have e2:=s2 _ _ e;have ea2:=s2 _ _ e1;have tS2:=tS1.same s2;have t32:=t3.same s2;have s02:=s1.trans s2;generalize upd H1 t (HO.tup [V.str "pick",V.str "table"])=H2 at s2 e2 ea2 tS2 t32 s02 |-;refine⟨fun σ' H'=>∃m',m'<bG (.one j r)/\Pv m' σ' H',fun σ' H' h=>h,?_⟩;push_cast [e2,rdW,ea2];have na:pa≠a:=by rw[hOD] at o;exact o.2
       have e3:upd H2 a (HO.lst (dn.map (fun i=>V.str (bV i))++[V.str "is"])) pa=_:=(aG na).trans e2;have ea3:upd H2 a (HO.lst (dn.map (fun i=>V.str (bV i))++[V.str "is"])) a=_:=au;have tS3:=app (.lst (dn.map (fun i=>V.str (bV i))++[V.str "is"])) tS2;have t33:=app (.lst (dn.map (fun i=>V.str (bV i))++[V.str "is"])) t32;have s03:=sapp (.lst (dn.map (fun i=>V.str (bV i))++[V.str "is"])) s02;generalize upd H2 a (HO.lst (dn.map (fun i=>V.str (bV i))++[V.str "is"]))=H3 at e3 ea3 tS3 t33 s03 |-;refine⟨by rw[length_map];exact lt_of_lt_of_le (show dn.length<4001 by omega) (aK δ),?_⟩;have nxt:∀(r':Pl)(v':V) H4,bG r'<bG (.one j r)->Same H3 H4->aH OD H4 v' (plD r')->cY ss k (.one j r)=0::cY ss k r'->∃m',m'<bG (.one j r)/\Pv m' [some (V.ref sa),some v',some (V.int (k:Int)),some (V.ref a)] H4:=fun r' v' H4 hp s4 t4 hw=>by
        refine⟨bG r',hp,?_⟩;rw[hPv];refine⟨r',v',dn++[0],rfl,s03.trans s4,?_,tS3.same s4,t4,?_,?_,rfl⟩
        ·rw[s4 _ _ ea3,map_append];rfl
        ·rw[hway,hw,append_assoc];rfl
        rw[length_append,length_singleton];omega
       push_cast [e3,rdW];have okt:∀b,H3 b=none->OD b:=fun b hb=>by
        rw[hOD];exact⟨hn.new (s03.none hb),(aD ea3 hb).symm⟩
       have tSx:=tS3;cases tSx with
       | lst os3 es3 zs3 tss3=>
       obtain⟨pk,xk,yk⟩:=tss3.stN hk60;by_cases c:k=j
       ·rw[if_pos ω];push_cast [es3,xk,yk];refine⟨aK δ,fun t4 ht4=>?_⟩;have s4:=ao (o:=HO.tup [V.str "pick",V.int (cO ss k).2.2]) ht4;exact nxt (.pick (cO ss k).2.2) _ _ (by have:=pp r;show 1<bG r+1;omega) s4 (.tup (okt _ ht4) au (by show 2<=1000000;decide) (.cons (.str _) (.cons (.int _) .nil))) (by show 0::(if k=j then [] else _)=_;rw[if_pos c];rfl)
       rw[if_neg ω];exact nxt r x3 H3 (by show bG r<bG r+1;omega) (Same.refl _) t33 (by show 0::(if k=j then [] else _)=_;rw[if_neg c])
  | wit j r=>
   cases tv1 with
   | tup o e z tt=>
    cases tt with
    | cons t1 tt=>
     cases t1;cases tt with
     | cons t2 tt=>
      cases t2;cases tt with
      | cons t3 tt=>
       cases tt;rename_i pa x3;push_cast [e,rdW];refine⟨aK δ,fun t ht=>⟨rfl,rfl,?_⟩⟩;rw[if_pos ψ];have s2:=ao (o:=HO.tup [V.str "pick",V.str "table"]) ht;have e2:=s2 _ _ e;have ea2:=s2 _ _ e1;have tS2:=tS1.same s2;have t32:=t3.same s2;have s02:=s1.trans s2;generalize upd H1 t (HO.tup [V.str "pick",V.str "table"])=H2 at s2 e2 ea2 tS2 t32 s02 |-;refine⟨fun σ' H'=>∃m',m'<bG (.wit j r)/\Pv m' σ' H',fun σ' H' h=>h,?_⟩;push_cast [e2,rdW,ea2];have na:pa≠a:=by rw[hOD] at o;exact o.2
       have e3:upd H2 a (HO.lst (dn.map (fun i=>V.str (bV i))++[V.str "within"])) pa=_:=(aG na).trans e2;have ea3:upd H2 a (HO.lst (dn.map (fun i=>V.str (bV i))++[V.str "within"])) a=_:=au;have tS3:=app (.lst (dn.map (fun i=>V.str (bV i))++[V.str "within"])) tS2;have t33:=app (.lst (dn.map (fun i=>V.str (bV i))++[V.str "within"])) t32;have s03:=sapp (.lst (dn.map (fun i=>V.str (bV i))++[V.str "within"])) s02;generalize upd H2 a (HO.lst (dn.map (fun i=>V.str (bV i))++[V.str "within"]))=H3 at e3 ea3 tS3 t33 s03 |-;refine⟨by rw[length_map];exact lt_of_lt_of_le (show dn.length<4001 by omega) (aK δ),?_⟩;have nxt:∀(r':Pl)(v':V) H4,bG r'<bG (.wit j r)->Same H3 H4->aH OD H4 v' (plD r')->cY ss k (.wit j r)=1::cY ss k r'->∃m',m'<bG (.wit j r)/\Pv m' [some (V.ref sa),some v',some (V.int (k:Int)),some (V.ref a)] H4:=fun r' v' H4 hp s4 t4 hw=>by
        refine⟨bG r',hp,?_⟩;rw[hPv];refine⟨r',v',dn++[1],rfl,s03.trans s4,?_,tS3.same s4,t4,?_,?_,rfl⟩
        ·rw[s4 _ _ ea3,map_append];rfl
        ·rw[hway,hw,append_assoc];rfl
        rw[length_append,length_singleton];omega
       push_cast [e3,rdW];have okt:∀b,H3 b=none->OD b:=fun b hb=>by
        rw[hOD];exact⟨hn.new (s03.none hb),(aD ea3 hb).symm⟩
       have tSx:=tS3;cases tSx with
       | lst os3 es3 zs3 tss3=>
       obtain⟨pk,xk,yk⟩:=tss3.stN hk60;by_cases c:k=j
       ·rw[if_pos ω];push_cast [es3,xk,yk];refine⟨aK δ,fun t4 ht4=>?_⟩;have s4:=ao (o:=HO.tup [V.str "pick",V.int (cO ss k).2.2]) ht4;exact nxt (.pick (cO ss k).2.2) _ _ (by have:=pp r;show 1<bG r+1;omega) s4 (.tup (okt _ ht4) au (by show 2<=1000000;decide) (.cons (.str _) (.cons (.int _) .nil))) (by show 1::(if k=j then [] else _)=_;rw[if_pos c];rfl)
       rw[if_neg ω];exact nxt r x3 H3 (by show bG r<bG r+1;omega) (Same.refl _) t33 (by show 1::(if k=j then [] else _)=_;rw[if_neg c])
  | msk l r=>
   cases tv1 with
   | tup o e z tt=>
    cases tt with
    | cons t1 tt=>
     cases t1;cases tt with
     | cons t2 tt=>
      cases t2;cases tt with
      | cons t3 tt=>
       cases tt;rename_i pa x3;push_cast [e,rdW];refine⟨aK δ,fun t ht=>⟨rfl,rfl,?_⟩⟩;rw[if_pos ψ];have s2:=ao (o:=HO.tup [V.str "pick",V.str "table"]) ht;have e2:=s2 _ _ e;have ea2:=s2 _ _ e1;have tS2:=tS1.same s2;have t32:=t3.same s2;have s02:=s1.trans s2;generalize upd H1 t (HO.tup [V.str "pick",V.str "table"])=H2 at s2 e2 ea2 tS2 t32 s02 |-;refine⟨fun σ' H'=>∃m',m'<bG (.msk l r)/\Pv m' σ' H',fun σ' H' h=>h,?_⟩;push_cast [e2,rdW,ea2];have na:pa≠a:=by rw[hOD] at o;exact o.2
       have e3:upd H2 a (HO.lst (dn.map (fun i=>V.str (bV i))++[V.str "mask"])) pa=_:=(aG na).trans e2;have ea3:upd H2 a (HO.lst (dn.map (fun i=>V.str (bV i))++[V.str "mask"])) a=_:=au;have tS3:=app (.lst (dn.map (fun i=>V.str (bV i))++[V.str "mask"])) tS2;have t33:=app (.lst (dn.map (fun i=>V.str (bV i))++[V.str "mask"])) t32;have s03:=sapp (.lst (dn.map (fun i=>V.str (bV i))++[V.str "mask"])) s02;generalize upd H2 a (HO.lst (dn.map (fun i=>V.str (bV i))++[V.str "mask"]))=H3 at e3 ea3 tS3 t33 s03 |-;refine⟨by rw[length_map];exact lt_of_lt_of_le (show dn.length<4001 by omega) (aK δ),?_⟩;have nxt:∀(r':Pl)(v':V) H4,bG r'<bG (.msk l r)->Same H3 H4->aH OD H4 v' (plD r')->cY ss k (.msk l r)=3::cY ss k r'->∃m',m'<bG (.msk l r)/\Pv m' [some (V.ref sa),some v',some (V.int (k:Int)),some (V.ref a)] H4:=fun r' v' H4 hp s4 t4 hw=>by
        refine⟨bG r',hp,?_⟩;rw[hPv];refine⟨r',v',dn++[3],rfl,s03.trans s4,?_,tS3.same s4,t4,?_,?_,rfl⟩
        ·rw[s4 _ _ ea3,map_append];rfl
        ·rw[hway,hw,append_assoc];rfl
        rw[length_append,length_singleton];omega
       push_cast [e3,rdW];have okt:∀b,H3 b=none->OD b:=fun b hb=>by
        rw[hOD];exact⟨hn.new (s03.none hb),(aD ea3 hb).symm⟩
       have tSx:=tS3;cases tSx with
       | lst os3 es3 zs3 tss3=>
       obtain⟨pk,xk,yk⟩:=tss3.stN hk60;push_cast [es3,xk,yk,e3];by_cases c:(cO ss k).2.2=l
       ·rw[if_pos c];refine⟨aK δ,fun t4 ht4=>?_⟩;have s4:=ao (o:=HO.tup [V.str "pick",V.int l]) ht4;exact nxt (.pick l) _ _ (by have:=pp r;show 1<bG r+1;omega) s4 (.tup (okt _ ht4) au (by show 2<=1000000;decide) (.cons (.str _) (.cons (.int _) .nil))) (by show 3::(if (cO ss k).2.2=l then [] else _)=_;rw[if_pos c];rfl)
       rw[if_neg c];exact nxt r x3 H3 (by show bG r<bG r+1;omega) (Same.refl _) t33 (by show 3::(if (cO ss k).2.2=l then [] else _)=_;rw[if_neg c])
  | low j r1 r2=>
   cases tv1 with
   | tup o e z tt=>
    cases tt with
    | cons t1 tt=>
     cases t1;cases tt with
     | cons t2 tt=>
      cases t2;cases tt with
      | cons t3 tt=>
       cases tt with
       | cons t4 tt=>
       cases tt;rename_i pa x3 x4;push_cast [e,rdW];refine⟨aK δ,fun t ht=>⟨rfl,rfl,?_⟩⟩;rw[if_pos ψ];have s2:=ao (o:=HO.tup [V.str "pick",V.str "table"]) ht;have e2:=s2 _ _ e;have ea2:=s2 _ _ e1;have tS2:=tS1.same s2;have t32:=t3.same s2;have t42:=t4.same s2;have s02:=s1.trans s2;generalize upd H1 t (HO.tup [V.str "pick",V.str "table"])=H2 at s2 e2 ea2 tS2 t32 s02 t42 |-;refine⟨fun σ' H'=>∃m',m'<bG (.low j r1 r2)/\Pv m' σ' H',fun σ' H' h=>h,?_⟩;push_cast [e2,rdW,ea2];have na:pa≠a:=by rw[hOD] at o;exact o.2
       have e3:upd H2 a (HO.lst (dn.map (fun i=>V.str (bV i))++[V.str "below"])) pa=_:=(aG na).trans e2;have ea3:upd H2 a (HO.lst (dn.map (fun i=>V.str (bV i))++[V.str "below"])) a=_:=au;have tS3:=app (.lst (dn.map (fun i=>V.str (bV i))++[V.str "below"])) tS2;have t33:=app (.lst (dn.map (fun i=>V.str (bV i))++[V.str "below"])) t32;have t43:=app (.lst (dn.map (fun i=>V.str (bV i))++[V.str "below"])) t42;have s03:=sapp (.lst (dn.map (fun i=>V.str (bV i))++[V.str "below"])) s02;generalize upd H2 a (HO.lst (dn.map (fun i=>V.str (bV i))++[V.str "below"]))=H3 at e3 ea3 tS3 t33 s03 t43 |-;refine⟨by rw[length_map];exact lt_of_lt_of_le (show dn.length<4001 by omega) (aK δ),?_⟩;have nxt:∀(r':Pl)(v':V) H4,bG r'<bG (.low j r1 r2)->Same H3 H4->aH OD H4 v' (plD r')->cY ss k (.low j r1 r2)=2::cY ss k r'->∃m',m'<bG (.low j r1 r2)/\Pv m' [some (V.ref sa),some v',some (V.int (k:Int)),some (V.ref a)] H4:=fun r' v' H4 hp s4 t4 hw=>by
        refine⟨bG r',hp,?_⟩;rw[hPv];refine⟨r',v',dn++[2],rfl,s03.trans s4,?_,tS3.same s4,t4,?_,?_,rfl⟩
        ·rw[s4 _ _ ea3,map_append];rfl
        ·rw[hway,hw,append_assoc];rfl
        rw[length_append,length_singleton];omega
       push_cast [e3,rdW];have p1:=pp r1;have p2:=pp r2;by_cases c:k<j
       ·rw[if_pos ω];exact nxt r1 x3 H3 (by show bG r1<bG r1+bG r2+1;omega) (Same.refl _) t33 (by show 2::(if k<j then _ else _)=_;rw[if_pos c])
       rw[if_neg ω];exact⟨x4,rfl,nxt r2 x4 H3 (by show bG r2<bG r1+bG r2+1;omega) (Same.refl _) t43 (by show 2::(if k<j then _ else _)=_;rw[if_neg c])⟩
noncomputable abbrev cG:Stmt:=top 16
theorem jL:bF ["_law_stretches_here","_law_weights_here","_law_prices_here","_law_plan","_law_price","_law_total","_law_place","_law_weight"] ["_law_stretches_here","_law_weights_here","_law_prices_here","_law_plan"] (aj cG):=⟨rfl,rfl,rfl,ψ,rfl,ψ,ψ⟩
noncomputable abbrev N6_:List Str:=["_law_stretches_here","_law_weights_here","_law_prices_here","_law_plan","_law_price","_law_total","_law_place","_law_weight"]
theorem Jo:NM_ N6_ cG 0 "_law_stretches_here" := .of ψ
theorem Jm:NM_ N6_ cG 1 "_law_weights_here" := .of ψ
theorem Jl:NM_ N6_ cG 2 "_law_prices_here" := .of ψ
theorem Jk:NM_ N6_ cG 3 "_law_plan" := .of ψ
theorem Jj:NM_ N6_ cG 4 "_law_price" := .of ψ
theorem mH:NM_ N6_ cG 5 "_law_total" := .of ψ
theorem xX:NM_ N6_ cG 6 "_law_place" := .of ψ
theorem xW:NM_ N6_ cG 7 "_law_weight" := .of ψ
theorem yp:GI_ cG "_law_way" := by decide +kernel
theorem yo:GI_ cG "dict" := by decide +kernel
theorem nR:GI_ cG "enumerate" := by decide +kernel
theorem Al:GI_ cG "sum" := by decide +kernel
theorem Ak:GI_ cG "zip" := by decide +kernel
theorem Oz:Bn "_law_cost" := ⟨ψ,ψ⟩
theorem Jb (hB:∀x:Str,x∈BLs->mg x=none) (CZWay:Cal P w K mg base "_law_way" 1 q9_ O7) (F:Fun K "_law_cost" "_law_cost" cG f fd):dW P w K mg base CX0 4 f fd q4_ GX:=by
 refine F.okq jL (fun vs H Q E h=>?_) (fun cdv A outer s H vs Q E hr h=>?_)
 ·obtain⟨s,p,wa,z,ok,ss,ws,zs,pl,rfl,_⟩:=h;rfl
 obtain⟨s,p,wa,z,ok,ss,ws,zs,pl,rfl,hn,ts,tp,hw,hwl,hz,h5,few,h60,hsz,pok,q⟩:=h;refine⟨_,(aF (bx Jj jL.nd (Ur rfl yo (hB "dict" NP) Ak (hB "zip" Jw) (ak (cU (ak cT (ak cT (ak cT (ak cT (ak cT aB)))))) (ak (aA Jl) aB))))
  (aF (bx mH jL.nd aq)
  (aF (iu PassesOwn.never rfl (wZ nR (hB "enumerate" mO) (ak (aA Jm) aB)) (iZ (n:=2) rfl (bM (gD xX jL.nd) (bM (gD xW jL.nd) gh)))
  (aO (bx mH jL.nd (aN bN (aA mH) (aN cI (aA xW) (cF (uf rfl) Al (hB "sum" Jx) boot_sum Kh (ak (eZ (NX:=["_law_stretches_here","_law_weights_here","_law_prices_here","_law_plan","_law_price","_law_total","_law_place","_law_weight"]) (kX:=(aj cG).names) ["_law_word","_law_price"] [none,some 4] rfl rfl ⟨rfl,ψ,ψ,ψ,ψ⟩ rfl (dm (bJ CZWay (hr.mono δ) yp TY (ak (aA Jo) (ak (aA Jk) (ak (aA xX) aB))))) (fun _ _ _ _ _=>(cg 0 (show List.Nodup (["_law_word","_law_price"]:List Str) from by decide +kernel) rfl (Or.inl rfl))) (fun _ _ _ _ _=>gF) (fun _ _ _ _ _=>(Us hr.PN (dJ 1) (dJ 0) (fun _ _=>rfl)))) aB)))))))
  (aO (bT (aA mH)))))),?_⟩
 refine aY fun k hk=>?_;push_cast [rdA];refine⟨aK δ,fun l0 hl0=>?_⟩;have s0:=ao (o:=HO.lst [V.str "is",V.str "within",V.str "below",V.str "mask",V.str "table"]) hl0;have e0:upd H l0 (HO.lst [V.str "is",V.str "within",V.str "below",V.str "mask",V.str "table"]) l0=_:=au;generalize upd H l0 (HO.lst [V.str "is",V.str "within",V.str "below",V.str "mask",V.str "table"])=H0 at s0 e0 |-;refine⟨l0,z,jC zs,zs.map V.int,rfl,.inr (SqL.of e0),SqT.of (s0 _ _ hz),Fb ω,by show 0<5;decide,by show 5<=15;decide,fun p1 hp1=>?_⟩;have s1:=ao (o:=HO.dK (fX [] (jC zs))) hp1;have e1:upd H0 p1 (HO.dK (fX [] (jC zs))) p1=_:=au;generalize upd H0 p1 (HO.dK (fX [] (jC zs)))=H1 at s1 e1 |-;have s01:=s0.trans s1;have hw1:=s01 _ _ hw;subst hk;refine aY fun k hk=>?_;push_cast;subst hk;refine aY fun k hk=>?_;refine kO fun R hR=>?_;push_cast [tX,CT,hw1,CQ];obtain⟨Pv,hPv⟩:∃Pv:Nat->L2.St->Hp->Prop,Pv=fun(i:Nat) σ H'=>∃(o1 o2:Option V),Same H1 H'/\σ=[some s,some (.ref wa),some (.ref z),some p,some (.ref p1),some (.int ((List.range i).map fun k=>ws.getD k 0*jU zs (cY ss k pl)).sum),o1,o2]:=⟨_,rfl⟩;refine Vf hR (xs:=ws.map V.int) Pv (by rw[hPv];exact⟨_,_,Same.refl _,rfl⟩) ?_ ?_ ?_
 ·intro i σ H2 pv;rw[hPv] at pv;obtain⟨_,_,s2,_⟩:=pv;exact s2 _ _ hw1
 ·intro i x σ H2 p2 hx pv hp2;rw[hPv] at pv;obtain⟨o1,o2,s2,rfl⟩:=pv;have hi:i<ws.length:=by
   have:=(List.getElem?_eq_some_iff.mp hx).1;rwa [length_map] at this
  have hxi:x=V.int (ws.getD i 0):=by
   rw[getElem?_map,getElem?_eq_getElem hi] at hx;cases hx;rw[List.getD_eq_getElem?_getD,getElem?_eq_getElem hi];rfl
  subst hxi;have s3:=ao (o:=HO.tup [V.int (i:Nat),V.int (ws.getD i 0)]) hp2;have e3:upd H2 p2 (HO.tup [V.int (i:Nat),V.int (ws.getD i 0)]) p2=_:=au;generalize upd H2 p2 (HO.tup [V.int (i:Nat),V.int (ws.getD i 0)])=H3 at s3 e3 |-;have s23:=s2.trans s3;have s03:=s01.trans s23;push_cast [e3];refine fK fun R2 hR2=>?_;push_cast;refine⟨s,p,i,ok,ss,pl,_,rfl,hn.same s03,ts.same s03,tp.same s03,pok,ω,hsz,fun wy H4 s4 nwy hwy ewy=>?_⟩;push_cast [ewy];have e14:=(s23.trans s4) _ _ e1;have hwle:=jG ss i pl;have hw5:=m5 ss i pl;refine Ka (fun i=>zs.getD i 0) (fun τ=>∃o0,τ=[o0,some (.ref p1)]) hR2 ewy ω ⟨_,rfl⟩ ?_ ?_
  ·rintro j z' τ acc Pn hz' ⟨o0,rfl⟩ h1;have hz5:=hw5 z' (mem_of_getElem? hz');push_cast [rdA];refine⟨p1,V.int (zs.getD z' 0),rfl,(J3 (zs:=zs) hz5) ▸ Bo.k (k:=Sum.inr (bV z')) e14,?_⟩;exact h1 _ ⟨_,rfl⟩
  intro d5 hd5;have s5:=ao (o:=HO.lst (((cY ss i pl).map fun i=>zs.getD i 0).map V.int)) hd5;have e5:upd H4 d5 (HO.lst (((cY ss i pl).map fun i=>zs.getD i 0).map V.int)) d5=_:=au;generalize upd H4 d5 (HO.lst (((cY ss i pl).map fun i=>zs.getD i 0).map V.int))=H5 at s5 e5 |-;push_cast [e5];refine⟨_,rfl,?_⟩;have hpay:=Cg few (cY ss i pl);have hb:-(2^64)<jU zs (cY ss i pl)/\jU zs (cY ss i pl)<2^64:=by
   have:((cY ss i pl).length:Int)<=4000:=by omega
   omega
  refine⟨.inr hb,?_⟩;rw[hPv];refine⟨some (V.int (i:Nat)),some (V.int (ws.getD i 0)),(s23.trans s4).trans s5,?_⟩;rw[range_succ,map_append,List.sum_append];simp only[map_cons,map_nil,sum_cons,List.sum_nil,add_zero];rfl
 intro σ H2 pv;rw[hPv] at pv;obtain⟨o1,o2,s2,rfl⟩:=pv;subst hk;push_cast;rw[length_map,hwl];have:=q H2 (s01.trans s2);rw[gq] at this;exact this
noncomputable abbrev cB:Stmt:=top 14
theorem tH:bF ["_law_tape_here","_law_many","_law_most"] ["_law_tape_here","_law_many"] (aj cB):=⟨rfl,rfl,rfl,ψ,rfl,ψ,ψ⟩
noncomputable abbrev N7_:List Str:=["_law_tape_here","_law_many","_law_most"]
theorem zO:NM_ N7_ cB 0 "_law_tape_here" := .of ψ
theorem zN:NM_ N7_ cB 1 "_law_many" := .of ψ
theorem zM:NM_ N7_ cB 2 "_law_most" := .of ψ
theorem qJ:GI_ cB "_law_take" := by decide +kernel
theorem qI:GI_ cB "range" := by decide +kernel
theorem qH:GI_ cB "tuple" := by decide +kernel
theorem FP:Bn "_law_prices" := ⟨ψ,ψ⟩
noncomputable abbrev b8:Stmt:=top 13
theorem pN:bF ["_law_tape_here","_law_many","_law_most"] ["_law_tape_here","_law_many"] (aj b8):=⟨rfl,rfl,rfl,ψ,rfl,ψ,ψ⟩
theorem xM:NM_ N7_ b8 0 "_law_tape_here" := .of ψ
theorem xK:NM_ N7_ b8 1 "_law_many" := .of ψ
theorem xJ:NM_ N7_ b8 2 "_law_most" := .of ψ
theorem oU:GI_ b8 "_law_take" := by decide +kernel
theorem oR:GI_ b8 "range" := by decide +kernel
theorem Bb:Bn "_law_weights" := ⟨ψ,ψ⟩
theorem Ei (hB:∀x:Str,x∈BLs->mg x=none) (CZTake:Cal P w K mg base "_law_take" 2 q0_ (jo 2)) (F:Fun K "_law_prices" "_law_prices" cB f fd):dW P w K mg base CX0 3 f fd q0_ sZ:=by
 refine F.okq tH (fun vs H Q E h=>?_) (fun cdv A outer s H vs Q E hr h=>?_)
 ·obtain⟨p,B,rfl,_⟩:=h;rfl
 obtain⟨p,B,rfl,tp,hB0,hB1,q⟩:=h;refine⟨_,(aF (bx zM tH.nd (aL bh (cU (ak aq (ak aq (ak aq aB)))) (bJ CZTake (hr.mono δ) qJ bZ (ak (aA zO) (ak aq aB))) (fun _ _=>rfl)))
  (aO (bT (Ie su qH (hB "tuple" mL) boot_tuple mY (ak (eZ (NX:=["_law_tape_here","_law_many","_law_most"]) (kX:=(aj cB).names) ["_law_k","_law_tape_here","_law_most"] [none,some 0,some 2] rfl rfl ⟨rfl,ψ,ψ,ψ,ψ⟩ rfl (iH qI (hB "range" iQ) (ak (aA zN) aB)) (fun _ _ _ _ _=>(cg 0 (show List.Nodup (["_law_k","_law_tape_here","_law_most"]:List Str) from by decide +kernel) rfl (Or.inl rfl))) (fun _ _ _ _ _=>gF) (fun _ _ _ _ _=>(aN bN aq (bJ CZTake (hr.mono δ) rfl bZ (ak (dJ 1) (ak (dJ 2) aB)))))) aB))))),?_⟩
 refine aY fun k hk=>?_;push_cast;refine⟨aK δ,fun l0 hl0=>?_⟩;have s3:=ao (o:=HO.lst [V.int 1,V.int 5,V.int 99]) hl0;have tp3:=tp.same s3;have n3:=tp.ne hl0;have e3:upd H l0 (HO.lst [V.int 1,V.int 5,V.int 99]) l0=_:=au;generalize upd H l0 (HO.lst [V.int 1,V.int 5,V.int 99])=H3 at s3 tp3 e3 |-;refine⟨p,3,B,rfl,tp3,by show B+2<=1000100;omega,δ,δ,δ,fun z=>absurd z δ,fun r4 H4 r40 r41 s4 tp4=>?_⟩;obtain⟨mo,hmo,emo⟩:=jr (is:=[1,5,99]) r40 r41;replace emo:atI [V.int 1,V.int 5,V.int 99] r4=some (.int mo):=emo;have e4:=s4 _ _ n3 e3;have bmo:1<=mo/\mo<=99:=by
  simp only[mem_cons,not_mem_nil,or_false] at hmo;omega
 push_cast [e4,emo];subst hk;push_cast;refine fK fun R hR=>?_;push_cast [qz];refine⟨δ,δ,?_⟩;obtain⟨Pc,hPc⟩:∃Pv:Nat->List V->L2.St->Hp->Prop,Pv=fun(i:Nat) acc τ H'=>∃(o0:Option V)(zs:List Int),aV p H4 H'/\bU H' p (B+2+2*(i:Int))/\acc=zs.map V.int/\zs.length=i/\(∀z∈zs,1<=z/\z<=99)/\τ=[o0,some (.ref p),some (.int mo)]:=⟨_,rfl⟩;refine Kc hR (aK δ) Pc (by rw[hPc];exact⟨none,[],aV.refl _ _,tp4.le (by show B+2<=B+2+2*0;omega),rfl,rfl,fun z hz=>absurd hz not_mem_nil,rfl⟩) ?_ ?_ ?_
 ·intro i acc τ H5 pc;rw[hPc] at pc;obtain⟨_,zs,_,_,rfl,h1,_⟩:=pc;rw[length_map];omega
 ·intro i acc τ H5 hi pc;rw[hPc] at pc;obtain⟨o0,zs,s5,tp5,rfl,hl5,hb5,rfl⟩:=pc;push_cast;refine⟨p,mo,_,rfl,tp5,by show B+2+2*(i:Int)+2<=1000100;omega,ω,ω,δ,fun z=>absurd z ω,fun r6 H6 r60 r61 s6 tp6=>?_⟩;push_cast;rw[hPc];refine⟨_,zs++[1+r6],s5.trans s6,tp6.le (by show B+2+2*(i:Int)+2<=B+2+2*((i+1:Nat):Int);omega),by rw[map_append];rfl,by rw[length_append,hl5];rfl,fun z hz=>?_,rfl⟩;rcases mem_append.mp hz with hz|hz
  ·exact hb5 z hz
  rw[mem_singleton.mp hz];omega
 intro acc τ H5 d pc hd;rw[hPc] at pc;obtain⟨o0,zs,s5,tp5,rfl,hl5,hb5,rfl⟩:=pc;have s6:=ao (o:=HO.lst (zs.map V.int)) hd;have tp6:=tp5.same s6;have sx6:aV p H (upd H5 d (.lst (zs.map V.int))):=((s3.x.trans s4).trans s5).trans s6.x;refine⟨d,rfl,_,.inl ⟨SqL.of au,fun t ht=>?_⟩⟩;have s7:=ao (o:=HO.tup (zs.map V.int)) ht;obtain⟨n7,h7⟩:=qO sx6 tp6 ht;exact q _ zs _ (sx6.trans s7.x) ((tp6.same s7).le (by show B+2+2*(5:Int)<=B+20;omega)) n7 h7 au hl5 hb5
theorem zE (hB:∀x:Str,x∈BLs->mg x=none) (CZTake:Cal P w K mg base "_law_take" 2 q0_ (jo 2)) (F:Fun K "_law_weights" "_law_weights" b8 f fd):dW P w K mg base CX0 3 f fd q0_ sW:=by
 refine F.okq pN (fun vs H Q E h=>?_) (fun cdv A outer s H vs Q E hr h=>?_)
 ·obtain⟨p,m,B,rfl,_⟩:=h;rfl
 obtain⟨p,m,B,rfl,tp,hB0,hB1,hm60,q⟩:=h;refine⟨_,(aF (bx xJ pN.nd (aL bh (cU (ak aq (ak aq (ak aq (ak (aN bN (aN lB aq aq) aq) aB))))) (bJ CZTake (hr.mono δ) oU bZ (ak (aA xM) (ak aq aB))) (fun _ _=>rfl)))
  (aO (bT (eZ (NX:=["_law_tape_here","_law_many","_law_most"]) (kX:=(aj b8).names) ["_law_k","_law_tape_here","_law_most"] [none,some 0,some 2] rfl rfl ⟨rfl,ψ,ψ,ψ,ψ⟩ rfl (iH oR (hB "range" iQ) (ak (aA xK) aB)) (fun _ _ _ _ _=>(cg 0 (show List.Nodup (["_law_k","_law_tape_here","_law_most"]:List Str) from by decide +kernel) rfl (Or.inl rfl))) (fun _ _ _ _ _=>gF) (fun _ _ _ _ _=>(bJ CZTake (hr.mono δ) rfl bZ (ak (dJ 1) (ak (dJ 2) aB)))))))),?_⟩
 refine aY fun k hk=>?_;push_cast;refine⟨⟨δ,δ,δ⟩,aK δ,fun l0 hl0=>?_⟩;have s3:=ao (o:=HO.lst [V.int 2,V.int 10,V.int 1000,V.int (10^Int.toNat 6+1)]) hl0;have tp3:=tp.same s3;have n3:=tp.ne hl0;have e3:upd H l0 (HO.lst [V.int 2,V.int 10,V.int 1000,V.int (10^Int.toNat 6+1)]) l0=_:=au;generalize upd H l0 (HO.lst [V.int 2,V.int 10,V.int 1000,V.int (10^Int.toNat 6+1)])=H3 at s3 tp3 e3 |-;refine⟨p,4,B,rfl,tp3,by show B+2<=1000100;omega,δ,δ,δ,fun z=>absurd z δ,fun r4 H4 r40 r41 s4 tp4=>?_⟩;obtain⟨mo,hmo,emo⟩:=jr (is:=[2,10,1000,10^Int.toNat 6+1]) r40 r41;replace emo:atI [V.int 2,V.int 10,V.int 1000,V.int (10^Int.toNat 6+1)] r4=some (.int mo):=emo;have e4:=s4 _ _ n3 e3;have bmo:2<=mo/\mo<=1000001:=by
  simp only[mem_cons,not_mem_nil,or_false] at hmo;have:(10:Int)^Int.toNat 6=1000000:=by decide
  omega
 push_cast [e4,emo];subst hk;push_cast;refine fK fun R hR=>?_;push_cast [qz];refine⟨ω,ω,?_⟩;obtain⟨Pc,hPc⟩:∃Pv:Nat->List V->L2.St->Hp->Prop,Pv=fun(i:Nat) acc τ H'=>∃(o0:Option V)(zs:List Int),aV p H4 H'/\bU H' p (B+2+2*(i:Int))/\acc=zs.map V.int/\zs.length=i/\(∀z∈zs,0<=z/\z<=1000000)/\τ=[o0,some (.ref p),some (.int mo)]:=⟨_,rfl⟩;refine Kc hR (aK ω) Pc (by rw[hPc];exact⟨none,[],aV.refl _ _,tp4.le (by show B+2<=B+2+2*0;omega),rfl,rfl,fun z hz=>absurd hz not_mem_nil,rfl⟩) ?_ ?_ ?_
 ·intro i acc τ H5 pc;rw[hPc] at pc;obtain⟨_,zs,_,_,rfl,h1,_⟩:=pc;rw[length_map];omega
 ·intro i acc τ H5 hi pc;rw[hPc] at pc;obtain⟨o0,zs,s5,tp5,rfl,hl5,hb5,rfl⟩:=pc;push_cast;refine⟨p,mo,_,rfl,tp5,by show B+2+2*(i:Int)+2<=1000100;omega,ω,ω,δ,fun z=>by decide,fun r6 H6 r60 r61 s6 tp6=>?_⟩;rw[hPc];refine⟨_,zs++[r6],s5.trans s6,tp6.le (by show B+2+2*(i:Int)+2<=B+2+2*((i+1:Nat):Int);omega),by rw[map_append];rfl,by rw[length_append,hl5];rfl,fun z hz=>?_,rfl⟩;rcases mem_append.mp hz with hz|hz
  ·exact hb5 z hz
  rw[mem_singleton.mp hz];omega
 intro acc τ H5 d pc hd;rw[hPc] at pc;obtain⟨o0,zs,s5,tp5,rfl,hl5,hb5,rfl⟩:=pc;have s6:=ao (o:=HO.lst (zs.map V.int)) hd;have sx5:aV p H H5:=(s3.x.trans s4).trans s5;obtain⟨n7,h7⟩:=qO sx5 tp5 hd;exact q _ zs _ (sx5.trans s6.x) ((tp5.same s6).le ω) n7 h7 au ω hb5
end
noncomputable abbrev cu:Stmt:=top 2
theorem uK:bF q12_ ["stretch","prices"] (aj cu):=⟨rfl,rfl,rfl,ψ,rfl,ψ,ψ⟩
noncomputable abbrev N8_:List Str:=["stretch","prices"]
theorem kj:NM_ N8_ cu 0 "stretch" := .of ψ
theorem kh:NM_ N8_ cu 1 "prices" := .of ψ
theorem vW:Bn "word_of_test" := ⟨ψ,ψ⟩
noncomputable abbrev aM:Stmt:=top 3
theorem dF:bF ["stretches","weights","prices","left","ranked","k","word","other"] ["stretches","weights","prices","left"] (aj aM):=⟨rfl,rfl,rfl,ψ,rfl,ψ,ψ⟩
noncomputable abbrev N9_:List Str:=["stretches","weights","prices","left","ranked","k","word","other"]
theorem oN:NM_ N9_ aM 0 "stretches" := .of ψ
theorem oM:NM_ N9_ aM 1 "weights" := .of ψ
theorem fW:NM_ N9_ aM 2 "prices" := .of ψ
theorem oK:NM_ N9_ aM 3 "left" := .of ψ
theorem fV:NM_ N9_ aM 4 "ranked" := .of ψ
theorem eG:NM_ N9_ aM 5 "k" := .of ψ
theorem fU:NM_ N9_ aM 6 "word" := .of ψ
theorem jg:NM_ N9_ aM 7 "other" := .of ψ
theorem jB:GI_ aM "sorted" := by decide +kernel
theorem iy:GI_ aM "word_of_test" := by decide +kernel
theorem qU:Bn "tests_in_order" := ⟨ψ,ψ⟩
noncomputable abbrev eH:Stmt:=top 4
theorem lZ:bF ["stretches","tests","label","plan","word","k"] ["stretches","tests","label"] (aj eH):=⟨rfl,rfl,rfl,ψ,rfl,ψ,ψ⟩
noncomputable abbrev N10_:List Str:=["stretches","tests","label","plan","word","k"]
theorem Jq:NM_ N10_ eH 0 "stretches" := .of ψ
theorem Jp:NM_ N10_ eH 1 "tests" := .of ψ
theorem xZ:NM_ N10_ eH 2 "label" := .of ψ
theorem mJ:NM_ N10_ eH 3 "plan" := .of ψ
theorem xY:NM_ N10_ eH 4 "word" := .of ψ
theorem ql:NM_ N10_ eH 5 "k" := .of ψ
theorem oY:GI_ eH "reversed" := by decide +kernel
theorem O1:Bn "row_by" := ⟨ψ,ψ⟩
theorem st5 {zs:List Int}(h:zs.length=5):∃a b c d e,zs=[a,b,c,d,e]:=by
 match zs,h with
 | [a,b,c,d,e],_=>exact⟨a,b,c,d,e,rfl⟩
section
variable {P:Program}{w:World}{K:PySem.W.Frag}{mg:Str->Option Value}{base:Heap}{f:Addr}{fd:FuncData}{bs:List Str}
theorem Jc (F:Fun K "word_of_test" "word_of_test" cu f fd):dW P w K mg base CX0 1 f fd q12_ Bw:=by
 refine F.okq uK (fun vs H Q E h=>?_) (fun cdv A outer s H vs Q E hr h=>?_)
 ·obtain⟨a,t,ss,zs,k,rfl,_⟩:=h;rfl
 obtain⟨a,t,ss,zs,k,rfl,ea,⟨et,hz,hb⟩,q⟩:=h;refine⟨_,(aF (fP (HW (zm (bR (eO hr.cj) (aL bh (aA kj) aq (fun _ _=>rfl)) (aL bh (aA kj) aq (fun _ _=>rfl)) (bD _)) (uX (bR Pq (aL bh (aA kh) aq (fun _ _=>rfl)) (aL bh (aA kh) aq (fun _ _=>rfl)) (bD _))))) (aO (bT cT)) eN)
  (aO (bT cT))),?_⟩
 obtain⟨z0,z1,z2,z3,z4,rfl⟩:=st5 hz;replace et:H t=some (.tup [.int z0,.int z1,.int z2,.int z3,.int z4]):=et;push_cast [ea,et];split
 ·rename_i c1;split
  ·rename_i c2;rw[(lU (ss:=ss) (k:=k) (show isT ss [z0,z1,z2,z3,z4] k=true by unfold isT;rw[decide_eq_true c1,decide_eq_true (show [z0,z1,z2,z3,z4].getD 0 0<=[z0,z1,z2,z3,z4].getD 1 0 from c2)];rfl)).1] at q;exact q
  rename_i c2;rw[(iB (ss:=ss) (k:=k) (show ¬isT ss [z0,z1,z2,z3,z4] k=true by unfold isT;rw[decide_eq_false (show ¬ [z0,z1,z2,z3,z4].getD 0 0<=[z0,z1,z2,z3,z4].getD 1 0 from c2),Bool.and_false];decide)).1] at q;exact q
 rename_i c1;rw[(iB (ss:=ss) (k:=k) (show ¬isT ss [z0,z1,z2,z3,z4] k=true by unfold isT;rw[decide_eq_false c1,Bool.false_and];decide)).1] at q;exact q
theorem Eh (hB:∀x:Str,x∈BLs->mg x=none) (CWordOfTest:Cal P w K mg base "word_of_test" 1 q12_ Bw) (F:Fun K "tests_in_order" "tests_in_order" aM f fd):dW P w K mg base CX0 2 f fd q2_ wF:=by
 refine F.okq dF (fun vs H Q E h=>?_) (fun cdv A outer s H vs Q E hr h=>?_)
 ·obtain⟨sa,wa,t,la,xs,ok,ss,ws,zs,rfl,_⟩:=h;rfl
 obtain⟨sa,wa,t,la,xs,ok,ss,ws,zs,rfl,es,ts,h60,ew,hwl,h5,el,q⟩:=h;refine⟨_,(aF (bx fV dF.nd (cU aB))
  (aF (iu PassesOwn.never rfl (dm (aA oK)) (gD eG dF.nd)
  (aF (bx fU dF.nd (bJ CWordOfTest (hr.mono δ) iy vW (ak (aL bh (aA oN) (aA eG) (fun _ _=>rfl)) (ak (aA fW) aB))))
  (aF (bx jg dF.nd (pW (bR (eO hr.cj) (aA fU) cT (bD _)) (aL bh (aA fW) aq (fun _ _=>rfl)) (aL bh (aA fW) aq (fun _ _=>rfl))))
  (aO (iY (mz (aA fV) (dR (ak (aN cI (Pj uz (aL bh (aA oM) (aA eG) (fun _ _=>rfl))) (aA jg)) (ak (aA eG) (ak (aA fU) aB))))))))))
  (aO (bT (eZ (NX:=["stretches","weights","prices","left","ranked","k","word","other"]) (kX:=(aj aM).names) ["rank","k","word"] [none,none,none] rfl rfl ⟨rfl,ψ,ψ,ψ,ψ⟩ rfl (dm (cF Ax jB (hB "sorted" jP) PyProof.Rows.boot_sorted uh (ak (aA fV) aB))) (fun _ _ _ _ _=>(iZ (n:=3) rfl (bM (cg 0 (show List.Nodup (["rank","k","word"]:List Str) from by decide +kernel) rfl (Or.inl rfl)) (bM (cg 1 (show List.Nodup (["rank","k","word"]:List Str) from by decide +kernel) rfl (Or.inl rfl)) (bM (cg 2 (show List.Nodup (["rank","k","word"]:List Str) from by decide +kernel) rfl (Or.inl rfl)) gh))))) (fun _ _ _ _ _=>gF) (fun _ _ _ _ _=>(dR (ak (dJ 2) (ak (dJ 1) aB))))))))),?_⟩
 obtain⟨et,hz,hb⟩:=id h5;refine aY fun k hk=>?_;push_cast;refine⟨zero_le _,fun r hr0=>?_⟩;have s1:=ao (o:=HO.lst []) hr0;have e1:upd H r (HO.lst []) r=some (.lst (([]:List Addr).map V.ref)):=au;have nr:∀{a:Addr}{o:HO},H a=some o->a≠r:=fun h=>aD h hr0;generalize upd H r (HO.lst [])=H1 at s1 e1 |-;subst hk;refine aY fun k hk=>?_;have el1:=s1 _ _ el;refine kO fun R hR=>?_;push_cast [el1];obtain⟨Pv,hPv⟩:∃Pv:Nat->L2.St->Hp->Prop,Pv=fun(i:Nat) σ H'=>∃(ps:List Addr)(o5 o6 o7:Option V),aV r H H'/\H' r=some (.lst (ps.map V.ref))/\ps.length=i/\(∀(j:Nat)(p:Addr),ps[j]?=some p->p≠r/\H' p=some (.tup [.int (nM ss ws zs j),.int (j:Int),.str (cX ss zs j)]))/\σ=[some (.ref sa),some (.ref wa),some (.ref t),some (.ref la),some (.ref r),o5,o6,o7]:=⟨_,rfl⟩;refine yt hR (xs:=nv (List.range ss.length)) Pv (by rw[hPv];exact⟨[],_,_,_,s1.x,e1,rfl,fun j p h=>(nomatch h),rfl⟩) (fun i σ H' _ pv=>?_) ?_ ?_
 ·rw[hPv] at pv;obtain⟨_,_,_,_,s',_⟩:=pv;exact SqL.of (s' _ _ (nr el) el)
 ·intro i x σ H2 hx pv;rw[hPv] at pv;obtain⟨ps,o5,o6,o7,s2,er2,hps,hp2,rfl⟩:=pv;obtain⟨k0,hk0,rfl⟩:=zL hx;have hin:=(List.getElem?_eq_some_iff.mp hk0).1;rw[length_range] at hin;have hki:k0=i:=by
   rw[List.getElem?_range hin] at hk0;exact(Option.some.inj hk0).symm
  subst hki;have es2:=s2 _ _ (nr es) es;have ew2:=s2 _ _ (nr ew) ew;have et2:=s2 _ _ (nr et) et;obtain⟨p0,x0,y0⟩:=ts.stN hin;have y2:=s2 _ _ (nr y0) y0;have w0:=wg (zs:=ws) (i:=k0) ω;have z0:=wg (zs:=zs) (i:=0) ω;have z1:=wg (zs:=zs) (i:=1) ω;refine aY fun k2 hk2=>?_;push_cast [es2,x0];refine⟨p0,t,ss,zs,k0,rfl,y2,⟨et2,hz,hb⟩,?_⟩;subst hk2;have fin:∀o6,3<=sizeLine/\∀p,H2 p=none->apq (upd H2 p (HO.tup [.int (nM ss ws zs k0),.int (k0:Int),.str (cX ss zs k0)]) r) r (.ref p) (upd H2 p (HO.tup [.int (nM ss ws zs k0),.int (k0:Int),.str (cX ss zs k0)])) fun _ H'=>Pv (k0+1) [some (.ref sa),some (.ref wa),some (.ref t),some (.ref la),some (.ref r),some (.int (k0:Int)),some (.str (cX ss zs k0)),o6] H':=by
   intro o6;refine⟨aK δ,fun p hp=>?_⟩;have npr:p≠r:=(aD er2 hp).symm;rw[aG npr.symm,er2,Ds];refine⟨lt_of_lt_of_le (by rw[length_map];omega) (aK (le_refl 1000000)),?_⟩;rw[hPv];refine⟨ps++[p],_,_,_,s2.trans ((ao hp).x.trans aV.upd),by rw[au,map_append];rfl,by rw[length_append,length_singleton];omega,fun j p' hj=>?_,rfl⟩;rcases lt_or_ge j ps.length with h|h
   ·rw[getElem?_append_left h] at hj;obtain⟨n1,n2⟩:=hp2 j p' hj;exact⟨n1,by rw[aG n1,aG (aD n2 hp)];exact n2⟩
   rw[getElem?_append_right h] at hj;have hj0:j-ps.length=0:=by
    have:=(List.getElem?_eq_some_iff.mp hj).1;simp at this;omega
   rw[hj0] at hj;cases hj;have:j=k0:=by omega
   subst this;exact⟨npr,by rw[aG npr,au]⟩
  have bz0:=h5.bd (i:=0) δ;have bz1:=h5.bd (i:=1) δ;refine aY fun k2 hk2=>?_;have kT:-(ws.getD k0 0)*lA ss zs k0=nM ss ws zs k0:=rfl;by_cases c:isT ss zs k0=true
  ·obtain⟨q1,q2,_⟩:=lU c;rw[q2] at kT;rw[q1] at fin |-;push_cast [et2,z1];subst hk2;push_cast [ew2,w0,er2];refine⟨_,z1,?_⟩;push_cast [kT];exact⟨.inr ⟨ω,ω⟩,fin _⟩
  obtain⟨q1,q2,_⟩:=iB c;rw[q2] at kT;rw[q1] at fin |-;push_cast [et2,z0];subst hk2;push_cast [ew2,w0,er2];rw[if_neg ψ];refine⟨_,z0,?_⟩;push_cast [kT];exact⟨.inr ⟨ω,ω⟩,fin _⟩
 intro σ H2 pv;rw[hPv] at pv;obtain⟨ps,o5,o6,o7,s2,er2,hps,hp2,rfl⟩:=pv;rw[jb,length_range] at hps;show k _ _;subst hk;push_cast;refine fK fun R2 hR2=>?_;push_cast;have hkey:∀(j:Nat)(p:Addr),ps[j]?=some p->cV H2 p=(nM ss ws zs j,(j:Int)):=fun j p hj=>Er (hp2 j p hj).2;have hj60:∀(j:Nat)(p:Addr),ps[j]?=some p->j<ss.length:=fun j p hj=>by
  have:=(List.getElem?_eq_some_iff.mp hj).1;omega
 have hall:=Hi hkey;have hrk:ps.map (rkT (cV H2))=(List.range ss.length).map (dO ss ws zs):=by
  have e1:ps.map (rkT (cV H2))=(ps.map (cV H2)).map fun x=>64*x.1+x.2:=by rw[map_map];rfl
  rw[e1,hall,map_map,hps];rfl
 have hno:ps.map (fun p=>(cV H2 p).2.toNat)=List.range ss.length:=by
  have e1:ps.map (fun p=>(cV H2 p).2.toNat)=(ps.map (cV H2)).map fun x=>x.2.toNat:=by rw[map_map];rfl
  rw[e1,hall,map_map,hps];have:((fun x:Int×Int=>x.2.toNat)∘fun(j:Nat)=>(nM ss ws zs j,(j:Int)))=id:=by
   funext j;rfl
  rw[this,List.map_id]
 refine⟨r,ps,cV H2,rfl,er2,ω,fun p hp=>?_,by rw[hrk];exact wW ω,fun dd qs hdd hqp hqs=>?_⟩
 ·obtain⟨j,hj⟩:=List.mem_iff_getElem?.mp hp;have:=hj60 j p hj;rw[hkey j p hj];exact⟨⟨_,(hp2 j p hj).2⟩,Int.natCast_nonneg _,by show(j:Int)<64;omega⟩
 have hord:(qs.map fun p=>(cV H2 p).2.toNat).Perm (List.range ss.length):=by
  have:=hqp.map fun p=>(cV H2 p).2.toNat;rw[hno] at this;exact this
 have hq1:∀q∈qs,∃j:Nat,j<ss.length/\(cV H2 q).2.toNat=j/\rkT (cV H2) q=dO ss ws zs j/\H2 q=some (.tup [.int (nM ss ws zs j),.int (j:Int),.str (cX ss zs j)]):=fun q hq=>by
  obtain⟨j,hj⟩:=List.mem_iff_getElem?.mp (hqp.mem_iff.mp hq);refine⟨j,hj60 j q hj,?_,?_,(hp2 j q hj).2⟩
  ·rw[hkey j q hj];rfl
  unfold rkT;rw[hkey j q hj];rfl
 have hrank:(qs.map fun p=>(cV H2 p).2.toNat).map (dO ss ws zs)=qs.map (rkT (cV H2)):=by
  rw[map_map];refine map_congr_left fun q hq=>?_;obtain⟨j,_,e1,e2,_⟩:=hq1 q hq;show dO ss ws zs (cV H2 q).2.toNat=_;rw[e1,e2]
 have s3:=ao (o:=HO.lst (qs.map V.ref)) hdd;have e3:upd H2 dd (HO.lst (qs.map V.ref)) dd=_:=au;generalize upd H2 dd (HO.lst (qs.map V.ref))=H3 at s3 e3 |-;push_cast [e3];have hql:qs.length=ss.length:=by rw[hqp.length_eq,hps]
 obtain⟨ord,hordE⟩:∃ord,ord=qs.map fun p=>(cV H2 p).2.toNat:=⟨_,rfl⟩;rw[<- hordE] at hord hrank;obtain⟨Pc,hPc⟩:∃Pv:Nat->List V->L2.St->Hp->Prop,Pv=fun(i:Nat) acc τ H'=>∃(o1 o2 o3:Option V),Same H3 H'/\aJ (fun _=>True) H' acc ((ord.take i).map (Br ss zs))/\τ=[o1,o2,o3]:=⟨_,rfl⟩;refine jE hR2 (xs:=qs.map V.ref) (aK (by rw[length_map];omega)) Pc (by rw[hPc];exact⟨none,none,none,Same.refl _,.nil,rfl⟩) ?_ ?_ ?_ ?_
 ·intro i acc τ H4 pc;rw[hPc] at pc;obtain⟨_,_,_,_,t4,_⟩:=pc;have:=t4.length;rw[length_map,length_take] at this;omega
 ·intro i acc τ H4 pc;rw[hPc] at pc;obtain⟨_,_,_,s4,_,_⟩:=pc;exact SqL.of (s4 _ _ e3)
 ·intro i x acc τ H4 hx pc;rw[hPc] at pc;obtain⟨o1,o2,o3,s4,t4,rfl⟩:=pc;rw[getElem?_map] at hx;obtain⟨q0,hq0,rfl⟩:=map_eq_some_iff.mp hx;obtain⟨j,hj,e1,_,eq0⟩:=hq1 q0 (mem_of_getElem? hq0);have eq4:=s4 _ _ (s3 _ _ eq0);push_cast [eq4];refine⟨aK δ,fun p4 hp4=>?_⟩;rw[hPc];refine⟨_,_,_,s4.trans (ao hp4),?_,rfl⟩;have ho:ord[i]?=some j:=by rw[hordE,getElem?_map,hq0,<- e1];rfl
  rw[take_add_one,ho,map_append];exact(t4.same (ao hp4)).append (.cons (.tup trivial au (by show 2<=1000000;decide) (.cons (.str _) (.cons (.int _) .nil))) .nil)
 intro acc τ H4 d4 pc hd4;rw[hPc] at pc;obtain⟨o1,o2,o3,s4,t4,rfl⟩:=pc;have hol:ord.length=ss.length:=by rw[hordE,length_map];exact hql
 rw[take_of_length_le (by rw[length_map];omega)] at t4;have htl:=t4.length;rw[length_map] at htl;exact q d4 ord _ ((BV s2 hr0).trans (s3.trans (s4.trans (ao hd4)))) hord (by rw[hrank];exact hqs) (.lst trivial au ω (t4.same (ao hd4)))
theorem Jd (hB:∀x:Str,x∈BLs->mg x=none) (F:Fun K "row_by" "row_by" eH f fd):dW P w K mg base CX0 1 f fd q11_ Bx:=by
 refine F.okq lZ (fun vs H Q E h=>?_) (fun cdv A outer s H vs Q E hr h=>?_)
 ·obtain⟨sa,p,lab,xs,ok,ss,zs,ord,rfl,_⟩:=h;rfl
 obtain⟨sa,p,lab,xs,ok,ss,zs,ord,rfl,es,ts,hlt,h60,tp,q⟩:=h;refine⟨_,(aF (bx mJ lZ.nd (dR (ak cT (ak (aA xZ) aB))))
  (aF (iu PassesOwn.never rfl (Q0 oY (hB "reversed" ye) (ak (aA Jp) aB)) (iZ (n:=2) rfl (bM (gD xY lZ.nd) (bM (gD ql lZ.nd) gh)))
  (aO (fP (bR (jt hr.cj) (aL bh (aL bh (aA Jq) (aA ql) (fun _ _=>rfl)) aq (fun _ _=>rfl)) (aA xZ) (bD _)) (aO (bx mJ lZ.nd (dR (ak (aA xY) (ak (aA ql) (ak (aA mJ) aB)))))) eN)))
  (aO (bT (aA mJ))))),?_⟩
 refine aY fun k hk=>?_;push_cast;refine⟨aK δ,fun p1 hp1=>?_⟩;have s1:=ao (o:=HO.tup [V.str "pick",V.int lab]) hp1;have t1:aH (fun _=>True) (upd H p1 (HO.tup [V.str "pick",V.int lab])) (.ref p1) (iW ss zs lab []):=.tup trivial au (by show 2<=1000000;decide) (.cons (.str _) (.cons (.int _) .nil));generalize upd H p1 (HO.tup [V.str "pick",V.int lab])=H1 at s1 t1 |-;subst hk;refine aY fun k hk=>?_;refine kO fun R hR=>?_;push_cast [S9];cases tp with
 | lst o ep zp tsp=>
  rename_i ys;have hyl:=tsp.length;rw[length_map] at hyl;have ep1:=s1 _ _ ep;have es1:=s1 _ _ es;refine⟨ys,SqL.of ep1,?_⟩;obtain⟨Pv,hPv⟩:∃Pv:Nat->L2.St->Hp->Prop,Pv=fun(i:Nat) σ H'=>∃(v:V)(o4 o5:Option V),Same H1 H'/\aH (fun _=>True) H' v (iW ss zs lab ((ord.drop (ord.length-i)).filter fun k=>decide ((cO ss k).2.2≠lab)))/\σ=[some (.ref sa),some (.ref p),some (.int lab),some v,o4,o5]:=⟨_,rfl⟩;refine Ve hR (xs:=ys) Pv (by rw[hPv];exact⟨_,_,_,Same.refl _,by rw[sub_zero,drop_length];exact t1,rfl⟩) (fun i σ H' pv=>?_) ?_ ?_
  ·rw[hPv] at pv;obtain⟨_,_,_,s',_⟩:=pv;exact SqL.of (s' _ _ ep1)
  ·intro i x σ H2 hx pv;rw[hPv] at pv;obtain⟨v,o4,o5,s2,tv,rfl⟩:=pv;have hi:i<ys.length:=by
    have:=(List.getElem?_eq_some_iff.mp hx).1;rwa [length_reverse] at this
   rw[getElem?_reverse hi] at hx;have s12:=s1.trans s2;obtain⟨d,hd,td⟩:=(tsp.same s12).get hx;rw[getElem?_map] at hd;obtain⟨k0,hk0,rfl⟩:=map_eq_some_iff.mp hd;rw[hyl] at hk0;have hdr:=t6 ω hk0;obtain⟨a0,x0,y0⟩:=(ts.same s12).stN (hlt k0 (mem_of_getElem? hk0));have es2:=s12 _ _ es;cases td with
   | tup o9 e9 z9 t9=>
    cases t9 with
    | cons u1 t9=>
     cases u1;cases t9 with
     | cons u2 t9=>
      cases u2;cases t9;push_cast [e9,es2,x0,y0];by_cases c:(cO ss k0).2.2=lab
      ·rw[decide_eq_true c,if_neg δ,hPv];refine⟨_,_,_,s2,?_,rfl⟩;rw[hdr,filter_cons,if_neg (by simp [c])];exact tv
      rw[decide_eq_false c,if_pos (show(!false)=true from rfl)];refine⟨aK δ,fun p4 hp4=>?_⟩;rw[hPv];refine⟨_,_,_,s2.trans (ao hp4),?_,rfl⟩;rw[hdr,filter_cons,if_pos (by simp [c])];exact .tup trivial au (by show 3<=1000000;decide) (.cons (.str _) (.cons (.int _) (.cons (tv.same (ao hp4)) .nil)))
  intro σ H2 pv;rw[hPv] at pv;obtain⟨v,o4,o5,s2,tv,rfl⟩:=pv;show k _ _;subst hk;push_cast;rw[hyl,sub_self,drop_zero] at tv;exact q v _ (s1.trans s2) tv
noncomputable abbrev gC:Stmt:=top 18
theorem K9:bF q1_ ["_law_stretches_here","_law_prices_here","_law_place"] (aj gC):=⟨rfl,rfl,rfl,ψ,rfl,ψ,ψ⟩
noncomputable abbrev N11_:List Str:=["_law_stretches_here","_law_prices_here","_law_place"]
theorem xP:NM_ N11_ gC 0 "_law_stretches_here" := .of ψ
theorem mF:NM_ N11_ gC 1 "_law_prices_here" := .of ψ
theorem xO:NM_ N11_ gC 2 "_law_place" := .of ψ
theorem vR:Bn "_law_test" := ⟨ψ,ψ⟩
noncomputable abbrev bY:Stmt:=top 19
theorem iV:bF ["_law_stretches_here","_law_prices_here","_law_order","_law_label","_law_plan","_law_place"] ["_law_stretches_here","_law_prices_here","_law_order","_law_label"] (aj bY):=⟨rfl,rfl,rfl,ψ,rfl,ψ,ψ⟩
noncomputable abbrev N12_:List Str:=["_law_stretches_here","_law_prices_here","_law_order","_law_label","_law_plan","_law_place"]
theorem xV:NM_ N12_ bY 0 "_law_stretches_here" := .of ψ
theorem xU:NM_ N12_ bY 1 "_law_prices_here" := .of ψ
theorem xT:NM_ N12_ bY 2 "_law_order" := .of ψ
theorem xR:NM_ N12_ bY 3 "_law_label" := .of ψ
theorem gY:NM_ N12_ bY 4 "_law_plan" := .of ψ
theorem jx:NM_ N12_ bY 5 "_law_place" := .of ψ
theorem oW:GI_ bY "_law_test" := by decide +kernel
theorem Bc:Bn "_law_ordered" := ⟨ψ,ψ⟩
noncomputable abbrev aR:Stmt:=top 20
theorem cZ:bF ["_law_stretches_here","_law_weights_here","_law_prices_here","_law_label","_law_left","_law_found","_law_best","_law_place","_law_one","_law_other"] ["_law_stretches_here","_law_weights_here","_law_prices_here","_law_label"] (aj aR):=⟨rfl,rfl,rfl,ψ,rfl,ψ,ψ⟩
noncomputable abbrev N13_:List Str:=["_law_stretches_here","_law_weights_here","_law_prices_here","_law_label","_law_left","_law_found","_law_best","_law_place","_law_one","_law_other"]
theorem iw:NM_ N13_ aR 0 "_law_stretches_here" := .of ψ
theorem j9:NM_ N13_ aR 1 "_law_weights_here" := .of ψ
theorem j8:NM_ N13_ aR 2 "_law_prices_here" := .of ψ
theorem fO:NM_ N13_ aR 4 "_law_left" := .of ψ
theorem j7:NM_ N13_ aR 5 "_law_found" := .of ψ
theorem cM:NM_ N13_ aR 6 "_law_best" := .of ψ
theorem fM:NM_ N13_ aR 7 "_law_place" := .of ψ
theorem j6:NM_ N13_ aR 8 "_law_one" := .of ψ
theorem j4:NM_ N13_ aR 9 "_law_other" := .of ψ
theorem gZ:GI_ aR "_law_test" := by decide +kernel
theorem jj:GI_ aR "enumerate" := by decide +kernel
theorem vV:Bn "_law_best_order" := ⟨ψ,ψ⟩
theorem Je (hB:∀x:Str,x∈BLs->mg x=none) (F:Fun K "_law_test" "_law_test" gC f fd):dW P w K mg base CX0 1 f fd q1_ uH:=by
 refine F.okq K9 (fun vs H Q E h=>?_) (fun cdv A outer s H vs Q E hr h=>?_)
 ·obtain⟨sa,t,xs,ok,ss,zs,k,rfl,_⟩:=h;rfl
 obtain⟨sa,t,xs,ok,ss,zs,k,rfl,es,ts,hk,⟨et,hz,hb⟩,q⟩:=h;refine⟨_,(aF (fP (HW (zm (bR (eO hr.cj) (aL bh (aL bh (aA xP) (aA xO) (fun _ _=>rfl)) aq (fun _ _=>rfl)) (aL bh (aL bh (aA xP) (aA xO) (fun _ _=>rfl)) aq (fun _ _=>rfl)) (bD _)) (uX (bR Pq (aL bh (aA mF) aq (fun _ _=>rfl)) (aL bh (aA mF) aq (fun _ _=>rfl)) (bD _))))) (aO (bT (dR (ak cT (ak (aL bh (aA mF) aq (fun _ _=>rfl)) aB))))) eN)
  (aO (bT (dR (ak cT (ak (aL bh (aA mF) aq (fun _ _=>rfl)) aB)))))),?_⟩
 obtain⟨z0,z1,z2,z3,z4,rfl⟩:=st5 hz;replace et:H t=some (.tup [.int z0,.int z1,.int z2,.int z3,.int z4]):=et;obtain⟨a0,x0,y0⟩:=ts.stN hk;push_cast [es,x0,y0,et];split
 ·rename_i c1;split
  ·rename_i c2;obtain⟨q1,_,q3⟩:=lU (ss:=ss) (k:=k) (show isT ss [z0,z1,z2,z3,z4] k=true by unfold isT;rw[decide_eq_true c1,decide_eq_true (show [z0,z1,z2,z3,z4].getD 0 0<=[z0,z1,z2,z3,z4].getD 1 0 from c2)];rfl);rw[q1,q3] at q;exact⟨aK δ,q⟩
  rename_i c2;obtain⟨q1,_,q3⟩:=iB (ss:=ss) (k:=k) (show ¬isT ss [z0,z1,z2,z3,z4] k=true by unfold isT;rw[decide_eq_false (show ¬ [z0,z1,z2,z3,z4].getD 0 0<=[z0,z1,z2,z3,z4].getD 1 0 from c2),Bool.and_false];decide);rw[q1,q3] at q;exact⟨aK δ,q⟩
 rename_i c1;obtain⟨q1,_,q3⟩:=iB (ss:=ss) (k:=k) (show ¬isT ss [z0,z1,z2,z3,z4] k=true by unfold isT;rw[decide_eq_false c1,Bool.false_and];decide);rw[q1,q3] at q;exact⟨aK δ,q⟩
theorem zH (hB:∀x:Str,x∈BLs->mg x=none) (CZTest:Cal P w K mg base "_law_test" 1 q1_ uH) (F:Fun K "_law_ordered" "_law_ordered" bY f fd):dW P w K mg base CX0 2 f fd q5_ tu:=by
 refine F.okq iV (fun vs H Q E h=>?_) (fun cdv A outer s H vs Q E hr h=>?_)
 ·obtain⟨sa,t,oa,lab,xs,ok,ss,zs,ord,rfl,_⟩:=h;rfl
 obtain⟨sa,t,oa,lab,xs,ok,ss,zs,ord,rfl,es,ts,hlt,h60,h5,eo,q⟩:=h;refine⟨_,(aF (bx gY iV.nd (dR (ak cT (ak (aA xR) aB))))
  (aF (iu PassesOwn.never rfl (dm (Ia (aA xT))) (gD jx iV.nd)
  (aO (bx gY iV.nd (dR (ak (aL bh (bJ CZTest (hr.mono δ) oW vR (ak (aA xV) (ak (aA xU) (ak (aA jx) aB)))) aq (fun _ _=>rfl)) (ak (aA jx) (ak (aA gY) aB)))))))
  (aO (bT (aA gY))))),?_⟩
 refine aY fun k hk=>?_;push_cast;refine⟨aK δ,fun p1 hp1=>?_⟩;have s1:=ao (o:=HO.tup [V.str "pick",V.int lab]) hp1;have t1:aH (fun _=>True) (upd H p1 (HO.tup [V.str "pick",V.int lab])) (.ref p1) (iW ss zs lab []):=.tup trivial au (by show 2<=1000000;decide) (.cons (.str _) (.cons (.int _) .nil));generalize upd H p1 (HO.tup [V.str "pick",V.int lab])=H1 at s1 t1 |-;subst hk;refine aY fun k hk=>?_;refine kO fun R hR=>?_;have eo1:=s1 _ _ eo;push_cast [Bt,BX,eo1,BW];intro p2 hp2;have s2:=s1.trans (ao (o:=HO.lst (nv ord).reverse) hp2);have t2:=t1.same (ao (o:=HO.lst (nv ord).reverse) hp2);have e2:upd H1 p2 (HO.lst (nv ord).reverse) p2=_:=au;generalize upd H1 p2 (HO.lst (nv ord).reverse)=H2 at s2 e2 t2 |-
 try push_cast [e2]
 obtain⟨Pv,hPv⟩:∃Pv:Nat->L2.St->Hp->Prop,Pv=fun(i:Nat) σ H'=>∃(v:V)(o5:Option V),Same H2 H'/\aH (fun _=>True) H' v (iW ss zs lab (ord.drop (ord.length-i)))/\σ=[some (.ref sa),some (.ref t),some (.ref oa),some (.int lab),some v,o5]:=⟨_,rfl⟩;refine yt hR (xs:=(nv ord).reverse) Pv (by rw[hPv];exact⟨_,_,Same.refl _,by rw[sub_zero,drop_length];exact t2,rfl⟩) (fun i σ H' _ pv=>?_) ?_ ?_
 ·rw[hPv] at pv;obtain⟨_,_,s',_⟩:=pv;exact SqL.of (s' _ _ e2)
 ·intro i x σ H3 hx pv;rw[hPv] at pv;obtain⟨v,o5,s3,tv,rfl⟩:=pv;have hi:i<(nv ord).length:=by
   have:=(List.getElem?_eq_some_iff.mp hx).1;rwa [length_reverse] at this
  rw[getElem?_reverse hi,jb] at hx;rw[jb] at hi;obtain⟨k0,hk0,rfl⟩:=zL hx;have hdr:=t6 hi hk0;have s23:=s2.trans s3;push_cast;refine⟨sa,t,xs,ok,ss,zs,k0,rfl,s23 _ _ es,ts.same s23,hlt k0 (mem_of_getElem? hk0),⟨s23 _ _ h5.1,h5.2⟩,fun p4 hp4=>?_⟩;have s4:=ao (o:=HO.tup [V.str (cX ss zs k0),V.int (b7 ss zs k0)]) hp4;have e4:upd H3 p4 (HO.tup [V.str (cX ss zs k0),V.int (b7 ss zs k0)]) p4=_:=au;generalize upd H3 p4 (HO.tup [V.str (cX ss zs k0),V.int (b7 ss zs k0)])=H4 at s4 e4 |-;push_cast [e4];refine⟨aK δ,fun p5 hp5=>?_⟩;rw[hPv];refine⟨_,_,s3.trans (s4.trans (ao hp5)),?_,rfl⟩;rw[hdr];exact .tup trivial au (by show 3<=1000000;decide) (.cons (.str _) (.cons (.int _) (.cons (tv.same (s4.trans (ao hp5))) .nil)))
 intro σ H3 pv;rw[hPv] at pv;obtain⟨v,o5,s3,tv,rfl⟩:=pv;show k _ _;subst hk;push_cast;rw[length_reverse,jb,sub_self,drop_zero] at tv;exact q v _ (s2.trans s3) tv
theorem Nq (hB:∀x:Str,x∈BLs->mg x=none) (CZTest:Cal P w K mg base "_law_test" 1 q1_ uH) (F:Fun K "_law_best_order" "_law_best_order" aR f fd):dW P w K mg base CX0 2 f fd q3_ BK:=by
 refine F.okq cZ (fun vs H Q E h=>?_) (fun cdv A outer s H vs Q E hr h=>?_)
 ·obtain⟨sa,wa,t,lab,xs,ok,ss,ws,zs,rfl,_⟩:=h;rfl
 obtain⟨sa,wa,t,lab,xs,ok,ss,ws,zs,rfl,es,ts,h60,ew,hwl,h5,q⟩:=h;refine⟨_,(aF (HX (i:=4) (j:=5) rfl cZ.nd rfl rfl δ rfl rfl (ak (eZ (NX:=["_law_stretches_here","_law_weights_here","_law_prices_here","_law_label","_law_left","_law_found","_law_best","_law_place","_law_one","_law_other"]) (kX:=(aj aR).names) ["_law_k","_law_one","_law_label"] [none,none,some 3] rfl rfl ⟨rfl,ψ,ψ,ψ,ψ⟩ rfl (wZ jj (hB "enumerate" mO) (ak (aA iw) aB)) (fun _ _ _ _ _=>(iZ (n:=2) rfl (bM (cg 0 (show List.Nodup (["_law_k","_law_one","_law_label"]:List Str) from by decide +kernel) rfl (Or.inl rfl)) (bM (cg 1 (show List.Nodup (["_law_k","_law_one","_law_label"]:List Str) from by decide +kernel) rfl (Or.inl rfl)) gh)))) (fun _ _ _ _ _=>(Ig (bR (jt hr.cj) (aL bh (dJ 1) aq (fun _ _=>rfl)) (dJ 2) (bD _)))) (fun _ _ _ _ _=>(dJ 0))) (ak (cU aB) aB)) (by rfl))
  (aF (wY PassesOwn.never (bR (jt hr.cj) (aA fO) (cU aB) (bD _)) (aF (bx cM cZ.nd (aL bh (aA fO) aq (fun _ _=>rfl)))
  (aF (iu PassesOwn.never rfl (dm (pU Qs (aA fO) (u0 aq) u5)) (gD fM cZ.nd)
  (aF (bx j6 cZ.nd (aN cI (aL bh (aA j9) (aA fM) (fun _ _=>rfl)) (aL bh (bJ CZTest (hr.mono δ) gZ vR (ak (aA iw) (ak (aA j8) (ak (aA cM) aB)))) aq (fun _ _=>rfl))))
  (aF (bx j4 cZ.nd (aN cI (aL bh (aA j9) (aA cM) (fun _ _=>rfl)) (aL bh (bJ CZTest (hr.mono δ) gZ vR (ak (aA iw) (ak (aA j8) (ak (aA fM) aB)))) aq (fun _ _=>rfl))))
  (aO (bx cM cZ.nd (pW (bR Pr (aA j6) (aA j4) (bD _)) (aA fM) (aA cM)))))))
  (aF (iY (mz (aA j7) (aA cM)))
  (aO (iY (LQ (aA fO) (aA cM))))))))
  (aO (bT (aA j7))))),?_⟩
 refine aY fun k hk=>?_;push_cast;refine fK fun R hR=>?_;push_cast [tX,CT,es,CQ];obtain⟨Pc,hPc⟩:∃Pv:Nat->List V->L2.St->Hp->Prop,Pv=fun(i:Nat) acc τ H'=>∃(o1 o2:Option V),Same H H'/\acc=nv ((List.range i).filter fun k=>decide ((cO ss k).2.2≠lab))/\τ=[o1,o2,some (.int lab)]:=⟨_,rfl⟩;have hxl:=ts.length;rw[length_map] at hxl;refine Tz hR (xs:=xs) (aK ω) Pc (by rw[hPc];exact⟨none,none,Same.refl _,rfl,rfl⟩) ?_ ?_ ?_ ?_
 ·intro i acc τ H2 pc;rw[hPc] at pc;obtain⟨_,_,_,rfl,_⟩:=pc;rw[jb];have:=length_filter_le (fun k=>decide ((cO ss k).2.2≠lab)) (List.range i);rw[length_range] at this;exact this
 ·intro i acc τ H2 pc;rw[hPc] at pc;obtain⟨_,_,s2,_,_⟩:=pc;exact SqL.of (s2 _ _ es)
 ·intro i x acc τ H2 p2 hx pc hp2;rw[hPc] at pc;obtain⟨o1,o2,s2,rfl,rfl⟩:=pc;have hi:i<ss.length:=by
   have:=(List.getElem?_eq_some_iff.mp hx).1;omega
  have s3:=s2.trans (ao (o:=HO.tup [V.int (i:Int),x]) hp2);have e3:upd H2 p2 (HO.tup [V.int (i:Int),x]) p2=_:=au;generalize upd H2 p2 (HO.tup [V.int (i:Int),x])=H3 at s3 e3 |-;obtain⟨a0,x0,y0⟩:=(ts.same s3).stN hi;have hx0:x=.ref a0:=by
   have:atI xs (i:Int)=xs[i]?:=by
    unfold atI ixN;rw[if_pos ω,if_pos ω];show xs[(i:Int).toNat]?=_;rw[toNat_natCast]
   rw[this,hx] at x0;exact Option.some.inj x0
  subst hx0;push_cast [e3,y0];by_cases c:(cO ss i).2.2=lab
  ·rw[decide_eq_true c,if_neg δ,hPc];refine⟨_,_,s3,?_,rfl⟩;rw[range_succ,List.filter_append,filter_cons,if_neg (by simp [c])];simp
  rw[decide_eq_false c,if_pos (show(!false)=true from rfl),hPc];refine⟨_,_,s3,?_,rfl⟩;rw[range_succ,List.filter_append,Jf,filter_cons,if_pos (by simp [c])];rfl
 intro acc τ H2 d2 pc hd2;rw[hPc] at pc;rw[hxl] at pc;obtain⟨o1,o2,s2,rfl,rfl⟩:=pc;have hd0:=CV s2 hd2;have s3:=s2.trans (ao (o:=HO.lst (nv (fZ ss lab))) hd2);have e3:upd H2 d2 (HO.lst (nv (fZ ss lab))) d2=_:=au;change 0<=sizeLine/\∀(p:Addr),upd H2 d2 (HO.lst (nv (fZ ss lab))) p=none->k _ (upd (upd H2 d2 (HO.lst (nv (fZ ss lab)))) p (HO.lst []));generalize upd H2 d2 (HO.lst (nv (fZ ss lab)))=H3 at s3 e3 |-;refine⟨zero_le _,fun fo hfo=>?_⟩;have hf0:=CV s3 hfo;have nfd:fo≠d2:=(aD e3 hfo).symm;have s4:=s3.trans (ao (o:=HO.lst []) hfo);have e4:=ao (o:=HO.lst []) hfo _ _ e3;have f4:upd H3 fo (HO.lst []) fo=some (.lst (nv [])):=au;generalize upd H3 fo (HO.lst [])=H4 at s4 e4 f4 |-;subst hk;refine aY fun k hk=>?_;obtain⟨Wv,hWv⟩:∃Wv:Nat->L2.St->Hp->Prop,Wv=fun(m:Nat) σ H'=>∃(left found:List Nat)(o6 o7 o8 o9:Option V),m=left.length/\Same H H'/\H' d2=some (.lst (nv left))/\H' fo=some (.lst (nv found))/\(found++left).Perm (fZ ss lab)/\left.Pairwise (· < ·)/\(found.map (dO ss ws zs)).Pairwise (· < ·)/\(∀a∈found,∀b∈left,dO ss ws zs a<dO ss ws zs b)/\σ=[some (.ref sa),some (.ref wa),some (.ref t),some (.int lab),some (.ref d2),some (.ref fo),o6,o7,o8,o9]:=⟨_,rfl⟩;refine Kw Wv (fZ ss lab).length (by rw[hWv];exact⟨_,[],_,_,_,_,rfl,s4,e4,f4,List.Perm.refl _,yj ss lab,.nil,fun a ha=>(nomatch ha),rfl⟩) ?_;intro m σ H5 wv;rw[hWv] at wv;obtain⟨left,found,o6,o7,o8,o9,rfl,s5,e5,f5,hperm,hup,hrk,hsep,rfl⟩:=wv;have hin:∀b∈left,b<ss.length:=fun b hb=>(jQ.mp (hperm.mem_iff.mp (mem_append_right _ hb))).1;push_cast [e5];refine⟨zero_le _,fun p6 hp6=>?_⟩;have s6:=s5.trans (ao (o:=HO.lst []) hp6);have e6:=ao (o:=HO.lst []) hp6 _ _ e5;have f6:=ao (o:=HO.lst []) hp6 _ _ f5;rw[e6];generalize upd H5 p6 (HO.lst [])=H6 at s6 e6 f6 |-;show(nv left).all fu=true/\([]:List V).all fu=true/\_;refine⟨Nt left,rfl,_,rfl,?_⟩;by_cases c0:left=[]
 ·subst c0;rw[show eqL (nv []) []=true from rfl,if_neg δ];subst hk;rw[append_nil] at hperm;push_cast;exact q fo found _ s6 hperm hrk f6
 rw[R0 c0,if_pos (show(!false)=true from rfl)];refine⟨Wv (left.length-1),fun σ' H' z=>⟨left.length-1,by have:=List.length_pos_iff.mpr c0;omega,z⟩,?_⟩;obtain⟨b0,rest,rfl⟩:=List.exists_cons_of_ne_nil c0;have h0:atI (nv (b0::rest)) 0=some (.int (b0:Int)):=by
  rw[show nv (b0::rest)=V.int (b0:Int)::nv rest from rfl,Dr]
 push_cast [e6,h0];refine kO fun R2 hR2=>?_;push_cast [e6];intro p7 hp7;have hcut:nW (nv (b0::rest)) (some 1) none=nv rest:=(J9 (nv (b0::rest)) 1 (by rw[jb,length_cons];omega)).trans rfl;rw[hcut];have s7:=s6.trans (ao (o:=HO.lst (nv rest)) hp7);have d7:=ao (o:=HO.lst (nv rest)) hp7 _ _ e6;have f7:=ao (o:=HO.lst (nv rest)) hp7 _ _ f6;have e7:upd H6 p7 (HO.lst (nv rest)) p7=_:=au;generalize upd H6 p7 (HO.lst (nv rest))=H7 at s7 d7 f7 e7 |-
 try push_cast [e7]
 have bz0:=h5.bd (i:=0) δ;have bz1:=h5.bd (i:=1) δ;obtain⟨Pv,hPv⟩:∃Pv:Nat->L2.St->Hp->Prop,Pv=fun(i:Nat) σ H'=>∃(b:Nat)(o7 o8 o9:Option V),Same H7 H'/\v9 ss ws zs (b0::rest.take i) b/\σ=[some (.ref sa),some (.ref wa),some (.ref t),some (.int lab),some (.ref d2),some (.ref fo),some (.int (b:Int)),o7,o8,o9]:=⟨_,rfl⟩;refine yt hR2 (xs:=nv rest) Pv (by rw[hPv];exact⟨b0,_,_,_,Same.refl _,⟨by simp,fun k hk=>.inl (by simpa using hk)⟩,rfl⟩) (fun i σ H' _ pv=>?_) ?_ ?_
 ·rw[hPv] at pv;obtain⟨_,_,_,_,s',_⟩:=pv;exact SqL.of (s' _ _ e7)
 ·intro i x σ H8 hx pv;rw[hPv] at pv;obtain⟨b,o7,o8,o9,s8,hbest,rfl⟩:=pv;obtain⟨k0,hk0,rfl⟩:=zL hx;have s78:=s7.trans s8;have hb1:b<ss.length:=hin b (by
   rcases mem_cons.mp hbest.1 with z|z
   ·rw[z];simp
   exact mem_cons_of_mem _ (List.mem_of_mem_take z))
  have hk1:k0<ss.length:=hin k0 (mem_cons_of_mem _ (mem_of_getElem? hk0));have wk:=wg (zs:=ws) (i:=k0) ω;have wb:=wg (zs:=ws) (i:=b) ω;have ew8:=s78 _ _ ew;refine aY fun k2 hk2=>?_;push_cast [ew8,wk];refine⟨sa,t,xs,ok,ss,zs,b,rfl,s78 _ _ es,ts.same s78,hb1,⟨s78 _ _ h5.1,h5.2⟩,fun p9 hp9=>?_⟩;have s9:=s8.trans (ao (o:=HO.tup [V.str (cX ss zs b),V.int (b7 ss zs b)]) hp9);have e9:upd H8 p9 (HO.tup [V.str (cX ss zs b),V.int (b7 ss zs b)]) p9=_:=au;generalize upd H8 p9 (HO.tup [V.str (cX ss zs b),V.int (b7 ss zs b)])=H9 at s9 e9 |-;have s79:=s7.trans s9;have ew9:=s79 _ _ ew;push_cast [e9];have pb:=xg (ss:=ss) h5 b;have pk:=xg (ss:=ss) h5 k0;refine⟨.inr ⟨ω,ω⟩,?_⟩;subst hk2;refine aY fun k2 hk2=>?_;push_cast [ew9,wb];refine⟨sa,t,xs,ok,ss,zs,k0,rfl,s79 _ _ es,ts.same s79,hk1,⟨s79 _ _ h5.1,h5.2⟩,fun p10 hp10=>?_⟩;have s10:=s9.trans (ao (o:=HO.tup [V.str (cX ss zs k0),V.int (b7 ss zs k0)]) hp10);have e10:upd H9 p10 (HO.tup [V.str (cX ss zs k0),V.int (b7 ss zs k0)]) p10=_:=au;generalize upd H9 p10 (HO.tup [V.str (cX ss zs k0),V.int (b7 ss zs k0)])=H10 at s10 e10 |-;push_cast [e10];refine⟨.inr ⟨ω,ω⟩,?_⟩;subst hk2;have hst:=hbest.step (p:=k0) bz0.1 bz1.1 (fun a ha=>Kz hup (n:=i+1) (k:=k0) (by simpa using hk0) (by simpa using ha)) ω;have hap:(b0::rest.take i)++[k0]=b0::rest.take (i+1):=by rw[take_add_one,hk0];rfl
  rw[hap] at hst;push_cast;split
  ·rename_i c;rw[if_pos c] at hst;rw[hPv];exact⟨k0,_,_,_,s10,hst,rfl⟩
  rename_i c;rw[if_neg c] at hst;rw[hPv];exact⟨b,_,_,_,s10,hst,rfl⟩
 intro σ H8 pv;rw[hPv] at pv;obtain⟨b,o7,o8,o9,s8,hbest,rfl⟩:=pv;rw[jb,take_length] at hbest;have f8:=s8 _ _ f7;have d8:=s8 _ _ d7;push_cast [f8];have hfl:found.length<=60:=by
  have h1:=hperm.length_eq;have h2:(fZ ss lab).length<=(List.range ss.length).length:=length_filter_le _ _;rw[length_append] at h1;rw[length_range] at h2;omega
 refine⟨lt_of_lt_of_le (by rw[jb];omega) (aK (le_refl 1000000)),?_⟩;have s9:Same H (upd H8 fo (HO.lst (nv found++[V.int (b:Int)]))):=tK (s7.trans s8) hf0;have d9:upd H8 fo (HO.lst (nv found++[V.int (b:Int)])) d2=some (.lst (nv (b0::rest))):=by rw[aG nfd.symm];exact d8
 have f9:upd H8 fo (HO.lst (nv found++[V.int (b:Int)])) fo=some (.lst (nv (found++[b]))):=by rw[au,Jf];rfl
 generalize upd H8 fo (HO.lst (nv found++[V.int (b:Int)]))=H9 at s9 d9 f9 |-;push_cast [Gr,Hf,d9,CP];have hbm:b∈b0::rest:=hbest.1;have hnd:(b0::rest).Nodup:=hup.imp fun h=>ne_of_lt h;refine⟨d2,(b0::rest).map fun(k:Nat)=>(k:Int),(b:Int),rfl,rfl,by rw[d9,Ck],List.mem_map_of_mem (f:=fun(k:Nat)=>(k:Int)) hbm,by rw[length_map];have h1:=hperm.length_eq;have h2:(fZ ss lab).length<=(List.range ss.length).length:=length_filter_le _ _;rw[length_append] at h1;rw[length_range] at h2;omega,?_⟩;rw[qy,<- Ck,hWv];refine⟨(b0::rest).erase b,found++[b],_,_,_,_,by rw[List.length_erase_of_mem hbm,length_cons],tK s9 hd0,au,by rw[aG nfd];exact f9,?_,hup.sublist List.erase_sublist,?_,?_,rfl⟩
 ·rw[append_assoc];exact(List.Perm.append_left found (List.perm_cons_erase hbm).symm).trans hperm
 ·rw[map_append,List.pairwise_append];refine⟨hrk,List.pairwise_singleton _ _,fun x hx y hy=>?_⟩;obtain⟨a,ha,rfl⟩:=mem_map.mp hx;simp only[map_cons,map_nil,mem_singleton] at hy;rw[hy];exact hsep a ha b hbm
 intro a ha c hc;have hcm:=List.mem_of_mem_erase hc;rcases mem_append.mp ha with h|h
 ·exact hsep a h c hcm
 rw[mem_singleton.mp h];rcases hbest.2 c hcm with z|z
 ·rw[z] at hc;exact absurd hc hnd.not_mem_erase
 exact z
theorem OJ:Bn "TESTS" := ⟨ψ,ψ⟩
noncomputable abbrev bL:Stmt:=top 5
theorem fD:bF ["stretches","weights","prices","tests","label","waiting","cost","word","k"] ["stretches","weights","prices","tests","label"] (aj bL):=⟨rfl,rfl,rfl,ψ,rfl,ψ,ψ⟩
noncomputable abbrev N14_:List Str:=["stretches","weights","prices","tests","label","waiting","cost","word","k"]
theorem zX:NM_ N14_ bL 0 "stretches" := .of ψ
theorem zW:NM_ N14_ bL 1 "weights" := .of ψ
theorem zV:NM_ N14_ bL 2 "prices" := .of ψ
theorem qj:NM_ N14_ bL 3 "tests" := .of ψ
theorem zU:NM_ N14_ bL 4 "label" := .of ψ
theorem lF:NM_ N14_ bL 5 "waiting" := .of ψ
theorem lE:NM_ N14_ bL 6 "cost" := .of ψ
theorem qi:NM_ N14_ bL 7 "word" := .of ψ
theorem lD:NM_ N14_ bL 8 "k" := .of ψ
theorem qK:GI_ bL "TESTS" := by decide +kernel
theorem vD:GI_ bL "sum" := by decide +kernel
theorem FW:Bn "row_cost" := ⟨ψ,ψ⟩
noncomputable abbrev bW:Stmt:=top 6
theorem ni:bF ["stretches","weights","prices","left","tests","labels"] ["stretches","weights","prices","left"] (aj bW):=⟨rfl,rfl,rfl,ψ,rfl,ψ,ψ⟩
noncomputable abbrev N15_:List Str:=["stretches","weights","prices","left","tests","labels"]
theorem zT:NM_ N15_ bW 0 "stretches" := .of ψ
theorem zR:NM_ N15_ bW 1 "weights" := .of ψ
theorem zQ:NM_ N15_ bW 2 "prices" := .of ψ
theorem qg:NM_ N15_ bW 3 "left" := .of ψ
theorem zP:NM_ N15_ bW 4 "tests" := .of ψ
theorem qe:NM_ N15_ bW 5 "labels" := .of ψ
theorem oX:GI_ bW "sorted" := by decide +kernel
theorem jk:GI_ bW "tests_in_order" := by decide +kernel
theorem FT:Bn "rows_for" := ⟨ψ,ψ⟩
theorem zG (hB:∀x:Str,x∈BLs->mg x=none) {aTests:Addr}(cgTests:mg "TESTS" = some (.ref aTests)) (ktTests:KTup K aTests ([("is" : Str),("within" : Str),("below" : Str),("mask" : Str),("table" : Str)].map V.str)) (F:Fun K "row_cost" "row_cost" bL f fd):dW P w K mg base CX0 1 f fd q8_ sY:=by
 refine F.okq fD (fun vs H Q E h=>?_) (fun cdv A outer s H vs Q E hr h=>?_)
 ·obtain⟨sa,wa,t,p,lab,xs,ok,ss,ws,zs,ord,rfl,_⟩:=h;rfl
 obtain⟨sa,wa,t,p,lab,xs,ok,ss,ws,zs,ord,rfl,es,ts,ew,hwl,⟨et,hz,hzb⟩,hlt,h60,tp,q⟩:=h;refine⟨_,(aF (bx lF fD.nd (cF (uf rfl) vD (hB "sum" Jx) boot_sum Kh (ak (eZ (NX:=["stretches","weights","prices","tests","label","waiting","cost","word","k"]) (kX:=(aj bL).names) ["word","k","weights"] [none,none,some 1] rfl rfl ⟨rfl,ψ,ψ,ψ,ψ⟩ rfl (dm (aA qj)) (fun _ _ _ _ _=>(iZ (n:=2) rfl (bM (cg 0 (show List.Nodup (["word","k","weights"]:List Str) from by decide +kernel) rfl (Or.inl rfl)) (bM (cg 1 (show List.Nodup (["word","k","weights"]:List Str) from by decide +kernel) rfl (Or.inl rfl)) gh)))) (fun _ _ _ _ _=>gF) (fun _ _ _ _ _=>(aL bh (dJ 2) (dJ 1) (fun _ _=>rfl)))) aB)))
  (aF (bx lE fD.nd aq)
  (aF (iu PassesOwn.never rfl (dm (aA qj)) (iZ (n:=2) rfl (bM (gD qi fD.nd) (bM (gD lD fD.nd) gh)))
  (aO (fP (bR (jt hr.cj) (aL bh (aL bh (aA zX) (aA lD) (fun _ _=>rfl)) aq (fun _ _=>rfl)) (aA zU) (bD _)) (aF (HY lE fD.nd (aN cI (aL bh (aA zV) (Ma hr.un1 (Mf (v:=V.ref aTests) qK cgTests rfl OJ) (aA qi)) (fun _ _=>rfl)) (aA lF)) S7)
  (aO (HY lF fD.nd (aL bh (aA zW) (aA lD) (fun _ _=>rfl)) S6))) eN)))
  (aO (bT (aA lE)))))),?_⟩
 have tp0:=tp;cases tp with
 | lst o ep zp tsp=>
  rename_i ys;have hyl:=tsp.length;rw[length_map] at hyl;refine aY fun k hk=>?_;push_cast;refine fK fun R hR=>?_;push_cast [ep];obtain⟨Pc,hPc⟩:∃Pv:Nat->List V->L2.St->Hp->Prop,Pv=fun(i:Nat) acc τ H'=>∃(o0 o1:Option V),H'=H/\acc=((ord.take i).map fun k=>ws.getD k 0).map V.int/\τ=[o0,o1,some (.ref wa)]:=⟨_,rfl⟩;refine jE hR (xs:=ys) (aK ω) Pc (by rw[hPc];exact⟨_,_,rfl,rfl,rfl⟩) ?_ ?_ ?_ ?_
  ·intro i acc τ H2 pc;rw[hPc] at pc;obtain⟨_,_,_,rfl,_⟩:=pc;rw[length_map,length_map];exact length_take_le _ _
  ·intro i acc τ H2 pc;rw[hPc] at pc;obtain⟨_,_,rfl,_⟩:=pc;exact SqL.of ep
  ·intro i x acc τ H2 hx pc;rw[hPc] at pc;obtain⟨o0,o1,rfl,rfl,rfl⟩:=pc;obtain⟨d,hd,td⟩:=tsp.get hx;rw[getElem?_map] at hd;obtain⟨k0,hk0,rfl⟩:=map_eq_some_iff.mp hd;have hk0l:k0<ws.length:=by rw[hwl];exact hlt k0 (mem_of_getElem? hk0)
   have hat:atI (ws.map V.int) (k0:Int)=some (V.int (ws.getD k0 0)):=dh (by rw[getElem?_map,getElem?_eq_getElem hk0l];simp [hk0l]);cases td with
   | tup o9 e9 z9 t9=>
    cases t9 with
    | cons u1 t9=>
     cases u1;cases t9 with
     | cons u2 t9=>
      cases u2;cases t9;push_cast [e9,ew,hat];rw[hPc];refine⟨_,_,rfl,?_,rfl⟩;rw[take_add_one,hk0,map_append,map_append];rfl
  intro acc τ H2 d2 pc hd2;rw[hPc] at pc;obtain⟨o0,o1,rfl,rfl,rfl⟩:=pc;rw[hyl,take_length];have s2:=ao (o:=HO.lst ((ord.map fun k=>ws.getD k 0).map V.int)) hd2;have e2:upd H2 d2 (HO.lst ((ord.map fun k=>ws.getD k 0).map V.int)) d2=_:=au;generalize upd H2 d2 (HO.lst ((ord.map fun k=>ws.getD k 0).map V.int))=H3 at s2 e2 |-;push_cast [e2];refine⟨_,rfl,?_⟩;clear hR hPc;have esum:(ord.map fun k=>ws.getD k 0).sum=sumK ws ord:=rfl;rw[esum];subst hk;refine aY fun k hk=>?_;push_cast;subst hk;refine aY fun k hk=>?_;refine kO fun R hR=>?_;have ep3:=s2 _ _ ep;have es3:=s2 _ _ es;have ew3:=s2 _ _ ew;have et3:=s2 _ _ et;push_cast [ep3];obtain⟨Pv,hPv⟩:∃Pv:Nat->L2.St->Hp->Prop,Pv=fun(i:Nat) σ H'=>∃(W C:Int)(o7 o8:Option V),H'=H3/\fC ss ws zs (sumK ws ord) (iK ss lab ord)=C+fC ss ws zs W (iK ss lab (ord.drop i))/\σ=[some (.ref sa),some (.ref wa),some (.ref t),some (.ref p),some (.int lab),some (.int W),some (.int C),o7,o8]:=⟨_,rfl⟩;refine yt (xs:=ys) hR Pv ?_ ?_ ?_ ?_
  ·rw[hPv];exact⟨_,_,_,_,rfl,by rw[drop_zero,Int.zero_add],rfl⟩
  ·intro i σ H' _ pv;rw[hPv] at pv;obtain⟨_,_,_,_,rfl,_⟩:=pv;exact SqL.of ep3
  ·intro i x σ H4 hx pv;rw[hPv] at pv;obtain⟨W,C,o7,o8,rfl,hco,rfl⟩:=pv;obtain⟨d,hd,td⟩:=(tsp.same s2).get hx;rw[getElem?_map] at hd;obtain⟨k0,hk0,rfl⟩:=map_eq_some_iff.mp hd;have hk0s:=hlt k0 (mem_of_getElem? hk0);have hk0l:k0<ws.length:=by rw[hwl];exact hk0s
   have hat:atI (ws.map V.int) (k0:Int)=some (V.int (ws.getD k0 0)):=dh (by rw[getElem?_map,getElem?_eq_getElem hk0l];simp [hk0l]);have hdr:ord.drop i=k0::ord.drop (i+1):=by
    obtain⟨li,e⟩:=List.getElem?_eq_some_iff.mp hk0;rw[drop_eq_getElem_cons li,e]
   obtain⟨a0,x0,y0⟩:=(ts.same s2).stN hk0s;cases td with
   | tup o9 e9 z9 t9=>
    cases t9 with
    | cons u1 t9=>
     cases u1;cases t9 with
     | cons u2 t9=>
      cases u2;cases t9;push_cast [e9,es3,x0,y0];by_cases c:(cO ss k0).2.2=lab
      ·rw[decide_eq_true c,if_neg δ,hPv];refine⟨W,C,_,_,rfl,?_,rfl⟩;rw[hco,hdr];unfold iK;rw[filter_cons,if_neg (by simp [c])]
      rw[decide_eq_false c,if_pos (show(!false)=true from rfl)];obtain⟨z0,z1,z2,z3,z4,rfl⟩:=st5 hz;replace et3:H4 t=some (.tup [.int z0,.int z1,.int z2,.int z3,.int z4]):=et3;have hst:fC ss ws [z0,z1,z2,z3,z4] W (iK ss lab (ord.drop i))=W*b7 ss [z0,z1,z2,z3,z4] k0+fC ss ws [z0,z1,z2,z3,z4] (W-ws.getD k0 0) (iK ss lab (ord.drop (i+1))):=by
       rw[hdr];unfold iK;rw[filter_cons,if_pos (by simp [c])];rfl
      push_cast [et3,Gz];refine⟨sJ,false,ktTests,ktTests,?_⟩;by_cases c9:isT ss [z0,z1,z2,z3,z4] k0=true
      ·obtain⟨w1,_,w3⟩:=lU c9;rw[w1];refine⟨0,⟨rfl,fun m hm=>absurd hm (not_lt_zero _)⟩,_,rfl,?_⟩;push_cast [ew3,hat];refine⟨.inl ⟨?_,?_⟩,?_⟩
       ·have:=hzb z0 (by simp);omega
       ·have:=hzb z0 (by simp);omega
       rw[hPv];refine⟨_,_,_,_,rfl,?_,rfl⟩;rw[hco,hst,w3];show C+(W*z0+_)=C+z0*W+_;rw[mul_comm W z0];omega
      obtain⟨w1,_,w3⟩:=iB c9;rw[w1];refine⟨1,⟨rfl,fun m hm=>?_⟩,_,rfl,?_⟩
      ·have:m=0:=by omega
       rw[this];intro z;exact absurd (Option.some.inj z) ψ
      push_cast [ew3,hat];refine⟨.inl ⟨?_,?_⟩,?_⟩
      ·have:=hzb z1 (by simp);omega
      ·have:=hzb z1 (by simp);omega
      rw[hPv];refine⟨_,_,_,_,rfl,?_,rfl⟩;rw[hco,hst,w3];show C+(W*z1+_)=C+z1*W+_;rw[mul_comm W z1];omega
  intro σ H4 pv;rw[hPv] at pv;obtain⟨W,C,o7,o8,rfl,hco,rfl⟩:=pv;subst hk;push_cast;rw[hyl,drop_length] at hco;have:fC ss ws zs W (iK ss lab [])=0:=rfl;rw[this,add_zero] at hco;rw[hco] at q;exact q _ s2
theorem zF (hB:∀x:Str,x∈BLs->mg x=none) (CTestsInOrder:Cal P w K mg base "tests_in_order" 2 q2_ wF) (CRowCost:Cal P w K mg base "row_cost" 1 q8_ sY) (CRowBy:Cal P w K mg base "row_by" 1 q11_ Bx) (F:Fun K "rows_for" "rows_for" bW f fd):dW P w K mg base CX0 3 f fd q2_ sX:=by
 refine F.okq ni (fun vs H Q E h=>?_) (fun cdv A outer s H vs Q E hr h=>?_)
 ·obtain⟨sa,wa,t,la,xs,ok,ss,ws,zs,rfl,_⟩:=h;rfl
 obtain⟨sa,wa,t,la,xs,ok,ss,ws,zs,rfl,es,ts,h60,ew,hwl,h5,el,q⟩:=h;refine⟨_,(aF (bx zP ni.nd (bJ CTestsInOrder (hr.mono δ) jk qU (ak (aA zT) (ak (aA zR) (ak (aA zQ) (ak (aA qg) aB))))))
  (aF (bx qe ni.nd (Q5 (NX:=["stretches","weights","prices","left","tests","labels"]) (kX:=(aj bW).names) ["k","stretches"] [none,some 0] oX (hB "sorted" jP) rfl rfl ⟨rfl,ψ,ψ,ψ,ψ⟩ rfl (dm (aA qg)) (fun _ _ _ _ _=>(cg 0 (show List.Nodup (["k","stretches"]:List Str) from by decide +kernel) rfl (Or.inl rfl))) (fun _ _ _ _ _=>gF) (fun _ _ _ _ _=>(aL bh (aL bh (dJ 1) (dJ 0) (fun _ _=>rfl)) aq (fun _ _=>rfl)))))
  (aO (bT (eZ (NX:=["stretches","weights","prices","left","tests","labels"]) (kX:=(aj bW).names) ["label","stretches","weights","prices","tests"] [none,some 0,some 1,some 2,some 4] rfl rfl ⟨rfl,ψ,ψ,ψ,ψ⟩ rfl (dm (aA qe)) (fun _ _ _ _ _=>(cg 0 (show List.Nodup (["label","stretches","weights","prices","tests"]:List Str) from by decide +kernel) rfl (Or.inl rfl))) (fun _ _ _ _ _=>gF) (fun _ _ _ _ _=>(dR (ak (bJ CRowCost (hr.mono δ) rfl FW (ak (dJ 1) (ak (dJ 2) (ak (dJ 3) (ak (dJ 4) (ak (dJ 0) aB)))))) (ak (bJ CRowBy (hr.mono δ) rfl O1 (ak (dJ 1) (ak (dJ 4) (ak (dJ 0) aB)))) aB))))))))),?_⟩
 refine aY fun k hk=>?_;push_cast;refine⟨sa,wa,t,la,xs,ok,ss,ws,zs,rfl,es,ts,h60,ew,hwl,h5,el,fun p ord H1 s1 hpm hup tp=>?_⟩;push_cast;have oB:mZ ss ws zs ord:=⟨hpm,hup⟩;subst hk;refine aY fun k hk=>?_;refine Uh fun R hR=>?_;have el1:=s1 _ _ el;have es1:=s1 _ _ es;push_cast [el1];obtain⟨Pv,hPv⟩:∃Pv:Nat->List Int->L2.St->Hp->Prop,Pv=fun(i:Nat) acc τ H'=>∃(o0:Option V),H'=H1/\acc.length<=i/\(∀l,l∈acc ↔ ∃k,k<i/\(cO ss k).2.2=l)/\τ=[o0,some (.ref sa)]:=⟨_,rfl⟩;have hnl:(nv (List.range ss.length)).length=ss.length:=by rw[jb,length_range]
 refine Ug hR (xs:=nv (List.range ss.length)) ω Pv (by rw[hPv];exact⟨_,rfl,le_refl _,fun l=>⟨fun z=>(by cases z),fun⟨k,z,_⟩=>absurd z (not_lt_zero _)⟩,rfl⟩) ?_ ?_ ?_ ?_
 ·intro i acc τ H2 pv;rw[hPv] at pv;exact pv.choose_spec.2.1
 ·intro i acc τ H2 pv;rw[hPv] at pv;obtain⟨_,rfl,_⟩:=pv;exact SqL.of el1
 ·intro i x acc τ H2 hx pv;rw[hPv] at pv;obtain⟨o0,rfl,hal,hmem,rfl⟩:=pv;have li:i<ss.length:=by have:=(List.getElem?_eq_some_iff.mp hx).1;omega
  have ex:x=.int (i:Int):=by
   unfold nv at hx;rw[getElem?_map,List.getElem?_range li] at hx;cases hx;rfl
  subst ex;obtain⟨a0,x0,y0⟩:=(ts.same s1).stN li;push_cast [es1,x0,y0];rw[hPv];refine⟨_,rfl,?_,fun l=>?_,rfl⟩
  ·have:=qY acc (cO ss i).2.2;split at this <;> omega
  rw[Kp,hmem];constructor
  ·rintro(⟨k,z1,z2⟩|z)
   ·exact⟨k,ω,z2⟩
   exact⟨i,ω,z.symm⟩
  rintro⟨k,z1,z2⟩;by_cases c:k=i
  ·subst c;exact .inr z2.symm
  exact .inl ⟨k,ω,z2⟩
 intro acc τ H2 d2 ys pv hd2 hp hu nd;rw[hPv] at pv;obtain⟨o0,rfl,hal,hmem,rfl⟩:=pv;rw[hnl] at hal hmem;have hL:=Cw hmem hp (hu ω) nd;have hyl:ys.length<=60:=by have:=hp.length_eq;omega
 have s2:=ao (o:=HO.lst (ys.map V.int)) hd2;have e2:upd H2 d2 (HO.lst (ys.map V.int)) d2=_:=au;have s02:=s1.trans s2;generalize upd H2 d2 (HO.lst (ys.map V.int))=H3 at s2 e2 s02 |-;clear hR hPv;push_cast;subst hk;refine fK fun R hR=>?_;push_cast [e2];obtain⟨Pc,hPc⟩:∃Pv:Nat->List V->L2.St->Hp->Prop,Pv=fun(i:Nat) acc τ H'=>∃(tl:List Addr)(o0:Option V),Same H3 H'/\acc=tl.map V.ref/\tl.length=i/\(∀(j:Nat) u lab,tl[j]?=some u->ys[j]?=some lab->∃v,H' u=some (.tup [.int (gb ss ws zs ws.sum ord lab),v])/\aH (fun _=>True) H' v (iW ss zs lab (iK ss lab ord)))/\τ=[o0,some (.ref sa),some (.ref wa),some (.ref t),some (.ref p)]:=⟨_,rfl⟩;refine jE hR (xs:=ys.map V.int) (aK (by rw[length_map];omega)) Pc (by rw[hPc];exact⟨[],_,Same.refl _,rfl,rfl,fun j u lab h=>(by cases h),rfl⟩) ?_ ?_ ?_ ?_
 ·intro i acc τ H4 pc;rw[hPc] at pc;obtain⟨tl,_,_,rfl,h1,_⟩:=pc;rw[length_map];omega
 ·intro i acc τ H4 pc;rw[hPc] at pc;obtain⟨tl,_,s4,_⟩:=pc;exact SqL.of (s4 _ _ e2)
 ·intro i x acc τ H4 hx pc;rw[hPc] at pc;obtain⟨tl,o0,s4,rfl,htl,hall,rfl⟩:=pc;rw[getElem?_map] at hx;obtain⟨lab,hlab,rfl⟩:=map_eq_some_iff.mp hx;have s04:=s02.trans s4;have tp4:=(tp.same s2).same s4;have ol:=oB.len;push_cast;refine⟨sa,wa,t,p,lab,xs,ok,ss,ws,zs,ord,rfl,s04 _ _ es,ts.same s04,s04 _ _ ew,hwl,⟨s04 _ _ h5.1,h5.2⟩,oB.lt,ω,tp4,fun H5 s5=>?_⟩;push_cast;have s05:=s04.trans s5;refine⟨sa,p,lab,xs,ok,ss,zs,ord,rfl,s05 _ _ es,ts.same s05,oB.lt,ω,tp4.same s5,fun v H6 s6 tv=>?_⟩;push_cast;refine⟨aK δ,fun u hu=>?_⟩;have ecost:fC ss ws zs (sumK ws ord) (iK ss lab ord)=gb ss ws zs ws.sum ord lab:=by unfold gb;rw[oB.sum hwl]
  rw[ecost];have s7:=ao (o:=HO.tup [V.int (gb ss ws zs ws.sum ord lab),v]) hu;rw[hPc];refine⟨tl++[u],_,((s4.trans s5).trans s6).trans s7,by rw[map_append];rfl,by rw[length_append,length_singleton,htl],fun j u' lab' hj hl'=>?_,rfl⟩;rcases lt_or_ge j tl.length with c|c
  ·rw[getElem?_append_left c] at hj;obtain⟨v',e1,t1⟩:=hall j u' lab' hj hl';have s47:=(s5.trans s6).trans s7;exact⟨v',s47 _ _ e1,t1.same s47⟩
  rw[getElem?_append_right c] at hj;have:j-tl.length=0:=by
   have:=(List.getElem?_eq_some_iff.mp hj).1;rw[length_singleton] at this;omega
  rw[this] at hj;cases hj;have ej:j=i:=ω;subst ej;rw[hlab] at hl';cases hl';exact⟨v,au,tv.same s7⟩
 intro acc τ H4 d4 pc hd4;rw[hPc] at pc;obtain⟨tl,o0,s4,rfl,htl,hall,rfl⟩:=pc;rw[length_map] at htl;have s5:=ao (o:=HO.lst (tl.map V.ref)) hd4;push_cast;exact q d4 tl ys ord _ ((s02.trans s4).trans s5) au hL oB htl fun j u lab h1 h2=>by
  obtain⟨v',e1,t1⟩:=hall j u lab h1 h2;exact⟨v',s5 _ _ e1,t1.same s5⟩
end
noncomputable abbrev bf:Stmt:=top 7
theorem jM:bF ["stretches","weights","prices","rows","cost","plan"] ["stretches","weights","prices"] (aj bf):=⟨rfl,rfl,rfl,ψ,rfl,ψ,ψ⟩
noncomputable abbrev N16_:List Str:=["stretches","weights","prices","rows","cost","plan"]
theorem qw:NM_ N16_ bf 0 "stretches" := .of ψ
theorem Aa:NM_ N16_ bf 1 "weights" := .of ψ
theorem zZ:NM_ N16_ bf 2 "prices" := .of ψ
theorem qu:NM_ N16_ bf 3 "rows" := .of ψ
theorem zY:NM_ N16_ bf 4 "cost" := .of ψ
theorem qp:NM_ N16_ bf 5 "plan" := .of ψ
theorem vI:GI_ bf "len" := by decide +kernel
theorem rW:GI_ bf "list" := by decide +kernel
theorem vH:GI_ bf "min" := by decide +kernel
theorem qN:GI_ bf "range" := by decide +kernel
theorem nT:GI_ bf "rows_for" := by decide +kernel
theorem um:Bn "best_row" := ⟨ψ,ψ⟩
noncomputable def lpB:Pos:=⟨34,31,34,49⟩
noncomputable def quB:Str := "best_row.<locals>.<lambda>"
section
variable {P:Program}{w:World}{K:PySem.W.Frag}{mg:Str->Option Value}{base:Heap}{f:Addr}{fd:FuncData}{bs:List Str}
theorem zJ (hB:∀x:Str,x∈BLs->mg x=none) (CRowsFor:Cal P w K mg base "rows_for" 3 q2_ sX) {c T:Addr}(C:PySem.W.CodeHd base c T) (hbu:base.BuiltinsAt mg T) {oc kV doc pm ct:Value}{od an:Option Addr}{osl:Array (Option Value)}
  (lk:K.lookup f=some ⟨oc,od,.func (fnOf "best_row" "best_row" (bA bf) (aX bf) (aj bf) .none kV doc pm an (.ref c) ct),osl⟩) (hcd:codeIn K (.ref c) "best_row" = true) :
  dW P w K mg base CX0 4 f (fnOf "best_row" "best_row" (bA bf) (aX bf) (aj bf) .none kV doc pm an (.ref c) ct) q10_ (tD T lpB quB):=by
 refine Tj lk hcd jM (fun vs H Q E h=>?_) (fun A outer s H vs Q E hr h=>?_)
 ·obtain⟨sa,wa,t,xs,ok,ss,ws,zs,rfl,_⟩:=h;rfl
 obtain⟨sa,wa,t,xs,ok,ss,ws,zs,rfl,es,ts,h1,h60,ew,hwl,h5,hL,q⟩:=h;refine⟨_,(aF (bx qu jM.nd (bJ CRowsFor (hr.mono δ) nT FT (ak (aA qw) (ak (aA Aa) (ak (aA zZ) (ak (Ib rfl rW (hB "list" pF) qN (hB "range" iQ) (ak (cF gO vI (hB "len" lJ) PySem.boot_len lM (ak (aA qw) aB)) aB)) aB))))))
  (aF (uZ (LR (k:=0) rfl (hr.mono δ) vH (hB "min" Jy) (ak (aA qu) aB) rfl rfl rfl C hbu (show(("best_row" ++ ".<locals>." : Str) ++ "<lambda>" : Str)=quB from by decide +kernel) ⟨rfl,rfl,rfl,ψ,rfl,ψ,ψ⟩ (fun _ _ _ _=>rfl) (fun _ _ _ _ _ _=>(aL bh (dJ 0) aq (fun _ _=>rfl)))) (iZ (n:=2) rfl (bM (gD zY jM.nd) (bM (gD qp jM.nd) gh))))
  (aO (bT (aA qp))))),?_⟩
 refine aY fun k hk=>?_;push_cast [es];have hxl:=ts.length;rw[length_map] at hxl;have hln:zf 0 ((xs.length:Int)-0).toNat=nv (List.range ss.length):=by
  rw[Int.sub_zero,toNat_natCast,hxl];unfold zf nv;exact map_congr_left fun k _=>by rw[Int.zero_add]
 rw[hln];refine⟨⟨ω,ω⟩,aK (by rw[Int.sub_zero,toNat_natCast];omega),fun la hla=>?_⟩;have s1:=ao (o:=HO.lst (nv (List.range ss.length))) hla;have e1:upd H la (HO.lst (nv (List.range ss.length))) la=_:=au;generalize upd H la (HO.lst (nv (List.range ss.length)))=H1 at s1 e1 |-;refine⟨sa,wa,t,la,xs,ok,ss,ws,zs,rfl,s1 _ _ es,ts.same s1,h60,s1 _ _ ew,hwl,⟨s1 _ _ h5.1,h5.2⟩,e1,fun r tl L ord H2 s2 er hLb oB htl hall=>?_⟩;push_cast;subst hk;have s12:=s1.trans s2;have hL2:=hL.same s12;have hn0:0<tl.length:=by
  rw[htl];have m:=(hLb.2 (cO ss 0).2.2).mpr ⟨0,h1,rfl⟩;exact List.length_pos_of_mem m
 refine aY fun k hk=>?_;push_cast [Gy];refine⟨hL2,tl,er,hn0,fun i=>gb ss ws zs ws.sum ord (L.getD i 0),fun H3 s3 hL3=>?_⟩;have hT:∀{b o},H2 b=some o->(∀qs,o≠.tbl qs)->H3 b=some o:=fun {b o} e n=>s3 _ _ (fun z=>by
  obtain⟨qs,eq,_⟩:=hL2;rw[z,eq] at e;exact n qs (Option.some.inj e).symm) e
 refine⟨fun i u hu=>?_,fun m u hu hmin=>?_⟩
 ·have li:i<L.length:=by rw[<- htl];exact(List.getElem?_eq_some_iff.mp hu).1
  obtain⟨v,ev,_⟩:=hall i u L[i] hu (getElem?_eq_getElem li);have ev3:=hT ev (fun qs z=>by cases z);have eg:L.getD i 0=L[i]:=by simp [li]
  rw[ev3];push_cast;rw[eg]
 have li:m<L.length:=by rw[<- htl];exact(List.getElem?_eq_some_iff.mp hu).1
 obtain⟨v,ev,tv⟩:=hall m u L[m] hu (getElem?_eq_getElem li);have ev3:=hT ev (fun qs z=>by cases z);have eg:∀(i:Nat)(h:i<L.length),L.getD i 0=L[i]:=fun i h=>by simp [h]
 rw[ev3];push_cast;subst hk;push_cast;refine q v L ord L[m] H3 ((s12.x).trans s3) hL3 hLb oB ⟨getElem_mem li,fun l ml=>?_⟩ ?_
 ·obtain⟨j,lj,rfl⟩:=mem_iff_getElem.mp ml;have hm:=hmin j ω;replace hm:gb ss ws zs ws.sum ord (L.getD m 0)<=gb ss ws zs ws.sum ord (L.getD j 0)/\(j<m->gb ss ws zs ws.sum ord (L.getD m 0)<gb ss ws zs ws.sum ord (L.getD j 0)):=hm;rw[eg m li,eg j lj] at hm;rcases Int.lt_or_le (gb ss ws zs ws.sum ord L[m]) (gb ss ws zs ws.sum ord L[j]) with z|z
  ·exact .inl z
  refine .inr ⟨ω,?_⟩;rcases lt_or_ge j m with c|c
  ·have:=hm.2 c;omega
  rcases lt_or_ge m j with c2|c2
  ·exact Int.le_of_lt (pairwise_iff_getElem.mp hLb.1 m j li lj c2)
  have:m=j:=by omega
  subst this;exact Int.le_refl _
 exact tv.jh (fun b us _ e=>⟨trivial,hT e fun qs z=>by cases z⟩) (mC _ _ _ _)
noncomputable abbrev cH:Stmt:=top 21
theorem gB:bF ["_law_script","_law_k","_law_tape_here","_law_stretches_here","_law_weights_here","_law_prices_here","_law_kept","_law_some","_law_label","_law_order","_law_plan","_law_due","_law_turn","_law_found"] ["_law_script"] (aj cH):=⟨rfl,rfl,rfl,ψ,rfl,ψ,ψ⟩
noncomputable abbrev N17_:List Str:=["_law_script","_law_k","_law_tape_here","_law_stretches_here","_law_weights_here","_law_prices_here","_law_kept","_law_some","_law_label","_law_order","_law_plan","_law_due","_law_turn","_law_found"]
theorem Ju:NM_ N17_ cH 0 "_law_script" := .of ψ
theorem Jt:NM_ N17_ cH 1 "_law_k" := .of ψ
theorem jd:NM_ N17_ cH 2 "_law_tape_here" := .of ψ
theorem fJ:NM_ N17_ cH 3 "_law_stretches_here" := .of ψ
theorem lH:NM_ N17_ cH 4 "_law_weights_here" := .of ψ
theorem lG:NM_ N17_ cH 5 "_law_prices_here" := .of ψ
theorem Js:NM_ N17_ cH 6 "_law_kept" := .of ψ
theorem vp:NM_ N17_ cH 7 "_law_some" := .of ψ
theorem vo:NM_ N17_ cH 8 "_law_label" := .of ψ
theorem Jr:NM_ N17_ cH 9 "_law_order" := .of ψ
theorem vq:NM_ N17_ cH 10 "_law_plan" := .of ψ
theorem NK:NM_ N17_ cH 11 "_law_due" := .of ψ
theorem Nz:NM_ N17_ cH 12 "_law_turn" := .of ψ
theorem Cq:NM_ N17_ cH 13 "_law_found" := .of ψ
theorem pq:GI_ cH "_law_best_order" := by decide +kernel
theorem Aq:GI_ cH "_law_cost" := by decide +kernel
theorem rT:GI_ cH "_law_ordered" := by decide +kernel
theorem vG:GI_ cH "_law_prices" := by decide +kernel
theorem Ao:GI_ cH "_law_same" := by decide +kernel
theorem oZ:GI_ cH "_law_stretches" := by decide +kernel
theorem gJ:GI_ cH "_law_take" := by decide +kernel
theorem Am:GI_ cH "_law_tape" := by decide +kernel
theorem rR:GI_ cH "_law_weights" := by decide +kernel
theorem mV:GI_ cH "best_row" := by decide +kernel
theorem qM:GI_ cH "len" := by decide +kernel
theorem JZ:GI_ cH "min" := by decide +kernel
theorem qL:GI_ cH "range" := by decide +kernel
theorem tY:GI_ cH "repr" := by decide +kernel
theorem JX:GI_ cH "set" := by decide +kernel
theorem nZ:GI_ cH "sorted" := by decide +kernel
noncomputable def BJ (K:PySem.W.Frag)(T:Addr):Sp:=fun vs H Q _=>∃(a:Addr)(ns:List Int),vs=[.ref a]/\SqL K H a (ns.map V.int)/\ns.length<=63/\a≠T/\pC H T lpB quB/\∀H',Q (.bl true) H'
theorem RZ (hB:∀x:Str,x∈BLs->mg x=none) {T:Addr}(CBestRow:Cal P w K mg base "best_row" 4 q10_ (tD T lpB quB)) (CZTake:Cal P w K mg base "_law_take" 2 q0_ (jo 2)) (CZTape:Cal P w K mg base "_law_tape" 2 q7_ (GR K)) (CZStretches:Cal P w K mg base "_law_stretches" 3 q0_ O8)
  (CZWeights:Cal P w K mg base "_law_weights" 3 q0_ sW) (CZPrices:Cal P w K mg base "_law_prices" 3 q0_ sZ) (CZBestOrder:Cal P w K mg base "_law_best_order" 2 q3_ BK) (CZOrdered:Cal P w K mg base "_law_ordered" 2 q5_ tu) (CZSame:Cal P w K mg base "_law_same" 62 q6_ (jK 62))
  (CZCost:Cal P w K mg base "_law_cost" 4 q4_ GX)
  (F:Fun K "law" "law" cH f fd):dW P w K mg base CX0 63 f fd ["_law_script"] (BJ K T):=by
 refine F.okq gB (fun vs H Q E h=>?_) (fun cdv A outer s H vs Q E hr h=>?_)
 ·obtain⟨a,ns,rfl,_⟩:=h;rfl
 obtain⟨a,ns,rfl,hS,h63,naT,hL,q⟩:=h;refine⟨_,(aF (iu PassesOwn.never rfl (iH qL (hB "range" iQ) (ak (aN bN aq (cF (Fo rfl) JZ (hB "min" Jy) boot_min TQ (ak aq (ak (cF gj qM (hB "len" lJ) PySem.boot_len lM (ak (aA Ju) aB)) aB)))) aB)) (gD Jt gB.nd)
  (aF (bx jd gB.nd (bJ CZTape (hr.mono δ) Am Ox (ak (aA Ju) (ak (aA Jt) aB))))
  (aF (bx fJ gB.nd (bJ CZStretches (hr.mono δ) oZ vU (ak (aA jd) (ak (aN bN aq (bJ CZTake (hr.mono δ) gJ bZ (ak (aA jd) (ak (aL bh (cU (ak aq (ak aq aB))) (bJ CZTake (hr.mono δ) gJ bZ (ak (aA jd) (ak aq aB))) (fun _ _=>rfl)) aB)))) aB))))
  (aF (HX (i:=4) (j:=5) rfl gB.nd rfl rfl δ rfl rfl (ak (bJ CZWeights (hr.mono δ) rR Bb (ak (aA jd) (ak (cF gO qM (hB "len" lJ) PySem.boot_len lM (ak (aA fJ) aB)) aB))) (ak (bJ CZPrices (hr.mono δ) vG FP (ak (aA jd) (ak aq aB))) aB)) (by rfl))
  (aF (fP (bR (eO hr.cj) (bJ CZTake (hr.mono δ) gJ bZ (ak (aA jd) (ak aq aB))) aq (bD _)) (aO (Ly (NX:=["_law_script","_law_k","_law_tape_here","_law_stretches_here","_law_weights_here","_law_prices_here","_law_kept","_law_some","_law_label","_law_order","_law_plan","_law_due","_law_turn","_law_found"]) (kX:=(aj cH).names) ["_law_low","_law_high","_law_label"] [none,none,none] fJ gB.nd rfl rfl ⟨rfl,ψ,ψ,ψ,ψ⟩ rfl (dm (aA fJ)) (fun _ _ _ _ _=>(iZ (n:=3) rfl (bM (cg 0 (show List.Nodup (["_law_low","_law_high","_law_label"]:List Str) from by decide +kernel) rfl (Or.inl rfl)) (bM (cg 1 (show List.Nodup (["_law_low","_law_high","_law_label"]:List Str) from by decide +kernel) rfl (Or.inl rfl)) (bM (cg 2 (show List.Nodup (["_law_low","_law_high","_law_label"]:List Str) from by decide +kernel) rfl (Or.inl rfl)) gh))))) (fun _ _ _ _ _=>gF) (fun _ _ _ _ _=>(dR (ak (dJ 0) (ak (dJ 1) (ak (aN bN aq (aN cI aq (dJ 2))) aB))))))) eN)
  (aF (fP (bR (eO hr.cj) (bJ CZTake (hr.mono δ) gJ bZ (ak (aA jd) (ak aq aB))) aq (bD _)) (aO (bx lH gB.nd (aN cI (cU (ak (bJ CZTake (hr.mono δ) gJ bZ (ak (aA jd) (ak aq aB))) aB)) (cF gO qM (hB "len" lJ) PySem.boot_len lM (ak (aA fJ) aB))))) eN)
  (aF (bx Js gB.nd (cF (qR hr.gd hr.O5) tY (hB "repr" Cu) boot_repr Dl (ak (cU (ak (aA fJ) (ak (aA lH) (ak (aA lG) aB)))) aB)))
  (aF (bx vp gB.nd (cU aB))
  (aF (iu PassesOwn.never rfl (dm (LC rfl nZ (hB "sorted" jP) JX (hB "set" R9) (ak (eZ (NX:=["_law_script","_law_k","_law_tape_here","_law_stretches_here","_law_weights_here","_law_prices_here","_law_kept","_law_some","_law_label","_law_order","_law_plan","_law_due","_law_turn","_law_found"]) (kX:=(aj cH).names) ["_law_one"] [none] rfl rfl ⟨rfl,ψ,ψ,ψ,ψ⟩ rfl (dm (aA fJ)) (fun _ _ _ _ _=>(cg 0 (show List.Nodup (["_law_one"]:List Str) from by decide +kernel) rfl (Or.inl rfl))) (fun _ _ _ _ _=>gF) (fun _ _ _ _ _=>(aL bh (dJ 0) aq (fun _ _=>rfl)))) aB))) (gD vo gB.nd)
  (aF (bx Jr gB.nd (bJ CZBestOrder (hr.mono δ) pq vV (ak (aA fJ) (ak (aA lH) (ak (aA lG) (ak (aA vo) aB))))))
  (aF (bx vq gB.nd (bJ CZOrdered (hr.mono δ) rT Bc (ak (aA fJ) (ak (aA lG) (ak (aA Jr) (ak (aA vo) aB))))))
  (aO (iY (mz (aA vp) (dR (ak (bJ CZCost (hr.mono δ) Aq Oz (ak (aA fJ) (ak (aA lH) (ak (aA lG) (ak (aA vq) aB))))) (ak (aA vo) (ak (aA vq) aB))))))))))
  (aF (bx NK gB.nd (aL bh (cF Ay nZ (hB "sorted" jP) PyProof.Rows.boot_sorted uh (ak (eZ (NX:=["_law_script","_law_k","_law_tape_here","_law_stretches_here","_law_weights_here","_law_prices_here","_law_kept","_law_some","_law_label","_law_order","_law_plan","_law_due","_law_turn","_law_found"]) (kX:=(aj cH).names) ["_law_one"] [none] rfl rfl ⟨rfl,ψ,ψ,ψ,ψ⟩ rfl (dm (aA vp)) (fun _ _ _ _ _=>(cg 0 (show List.Nodup (["_law_one"]:List Str) from by decide +kernel) rfl (Or.inl rfl))) (fun _ _ _ _ _=>gF) (fun _ _ _ _ _=>(pU Qs (dJ 0) u5 (u0 aq)))) aB)) aq (fun _ _=>rfl)))
  (aF (iY (bJ CBestRow (hr.mono δ) mV um (ak (aA fJ) (ak (Ia (aA lH)) (ak (LK (aA lG)) aB)))))
  (aF (iu PassesOwn.never rfl (iH qL (hB "range" iQ) (ak aq aB)) (gD Nz gB.nd)
  (aF (bx Cq gB.nd (bJ CBestRow (hr.mono δ) mV um (ak (aA fJ) (ak (aA lH) (ak (aA lG) aB)))))
  (aO (fP (QZ (uY (bJ CZSame (hr.mono δ) Ao Dm (ak (aA Cq) (ak (aL bh (eZ (NX:=["_law_script","_law_k","_law_tape_here","_law_stretches_here","_law_weights_here","_law_prices_here","_law_kept","_law_some","_law_label","_law_order","_law_plan","_law_due","_law_turn","_law_found"]) (kX:=(aj cH).names) ["_law_one","_law_due"] [none,some 11] rfl rfl ⟨rfl,ψ,ψ,ψ,ψ⟩ rfl (dm (aA vp)) (fun _ _ _ _ _=>(cg 0 (show List.Nodup (["_law_one","_law_due"]:List Str) from by decide +kernel) rfl (Or.inl rfl))) (fun _ _ _ _ _=>(Ig (bR (Nh hr.cj) (pU Qs (dJ 0) u5 (u0 aq)) (dJ 1) (bD _)))) (fun _ _ _ _ _=>(aL bh (dJ 0) aq (fun _ _=>rfl)))) aq (fun _ _=>rfl)) aB))))) (aO (bT w6)) eN))))
  (aO (fP (bR (jt hr.cj) (cF (qR hr.gd hr.O5) tY (hB "repr" Cu) boot_repr Dl (ak (cU (ak (aA fJ) (ak (aA lH) (ak (aA lG) aB)))) aB)) (aA Js) (bD _)) (aO (bT w6)) eN))))))))))))))
  (aO (bT w6))),?_⟩
 refine aY fun k hk=>?_;refine kO fun R hR=>?_;push_cast [qz];refine⟨_,.inl hS,?_⟩;rw[length_map];have m6:(0:Int)<=1+(if (ns.length:Int)<5 then (ns.length:Int) else 5)/\1+(if (ns.length:Int)<5 then (ns.length:Int) else 5)<=6:=by
  split <;> omega
 refine⟨ω,ω,?_⟩;obtain⟨Pv,hPv⟩:∃Pv:Nat->L2.St->Hp->Prop,Pv=fun(i:Nat) σ H'=>aV T H H'/\pC H' T lpB quB/\∃o1 o2 o3 o4 o5 o6 o7 o8 o9 o10 o11 o12 o13,σ=[some (.ref a),o1,o2,o3,o4,o5,o6,o7,o8,o9,o10,o11,o12,o13]:=⟨_,rfl⟩;refine J1 hR Pv (by rw[hPv];exact⟨aV.refl _ _,hL,none,none,none,none,none,none,none,none,none,none,none,none,none,rfl⟩) ?_ ?_
 ·intro i σ H1 hi pv;rw[hPv] at pv;obtain⟨s1,hL1,o1,o2,o3,o4,o5,o6,o7,o8,o9,o10,o11,o12,o13,rfl⟩:=pv;refine aY fun k2 hk2=>?_;push_cast;refine⟨a,ns,(0:Int)+(i:Int),rfl,s1.seq naT hS,ω,ω,fun p H2 hp s2 tp=>?_⟩;push_cast;subst hk2;refine aY fun k2 hk2=>?_;push_cast;refine⟨aK δ,fun l0 hl0=>?_⟩;have sA:=ao (o:=HO.lst [V.int 6,V.int 20]) hl0;have tpA:=tp.same sA;have nA:=tp.ne hl0;have eA:upd H2 l0 (HO.lst [V.int 6,V.int 20]) l0=_:=au;generalize upd H2 l0 (HO.lst [V.int 6,V.int 20])=HA at sA tpA eA |-;refine⟨p,2,0,rfl,tpA,δ,δ,δ,δ,fun z=>absurd z δ,fun r1 HB r10 r11 sB tpB=>?_⟩;have eB:=sB _ _ nA eA;have sxB:aV p H1 HB:=((s2.trans sA).x (p:=p)).trans sB;obtain⟨mm,hmm,e7⟩:∃mm:Int,(mm=6\/mm=20)/\atI [V.int 6,V.int 20] r1=some (.int mm):=by
   have:r1=0\/r1=1:=by omega
   rcases this with rfl|rfl
   ·exact⟨6,.inl rfl,rfl⟩
   exact⟨20,.inr rfl,rfl⟩
  push_cast [eB,e7];refine⟨p,mm,0+2,rfl,tpB,δ,ω,ω,ω,fun z=>ω,fun r2 HC r20 r21 sC tpC=>?_⟩;push_cast;refine⟨p,1+r2,0+2+2,rfl,tpC,δ,δ,ω,ω,fun l ss HD sD tpD trD hlen hrow=>?_⟩;subst hk2;have sxD:=(sxB.trans sC).trans sD;have h20:1<=ss.length/\ss.length<=20:=ω;cases trD with
  | lst oD eD zD tsD=>
   rename_i xs;have hxl:=tsD.length;rw[length_map] at hxl;refine aY fun k2 hk2=>?_;push_cast [eD];refine⟨p,xs.length,2004,rfl,tpD,ω,ω,ω,fun wa ws H7 s7 tp7 nwa hwa0 ewa hwl hwb=>?_⟩;refine⟨p,2004+130,rfl,tp7,ω,ω,fun ta zs H8 s8 tp8 nta hta0 eta hzl hzb=>?_⟩;have sx9:aV p H1 H8:=sxD.trans (s7.trans s8);have es9:=s8 _ _ oD (s7 _ _ oD eD);have ts9:=(tsD.jX s7).jX s8;have ew9:=s8 _ _ nwa ewa;have et9:=eta;clear s8 s7;subst hk2;have hwl2:ws.length=ss.length:=ω;refine aY fun k2 hk2=>?_;have nxt:∀(l:Addr)(ss:Sts)(xs:List V)(B:Int)(H9:Hp),aV p H1 H9->bU H9 p B->0<=B->B<=900000->l≠p->H9 l=some (.lst xs)->aJ (·≠p) H9 xs (ss.map stD)->H9 wa=some (.lst (ws.map V.int))->H9 ta=some (.tup (zs.map V.int)) ->
     ws.length=ss.length->1<=ss.length->ss.length<=20->SmS ss->k2 [some (V.ref a),some (V.int (0 + ↑i)),some (V.ref p),some (V.ref l),some (V.ref wa),some (V.ref ta),o6,o7,o8,o9,o10,o11,o12,o13] H9:=by
    clear sx9 es9 ts9 ew9 et9 tp8 hwl2 h20 hrow hlen hxl oD eD zD tsD hwl;intro l ss xs B H9 sx9 tp9 hB0 hB9 nl es9 ts9 ew9 et9 hwl2 h1 h20 sm;subst hk2;refine aY fun k2 hk2=>?_;have nxt:∀(wa:Addr)(ws:List Int)(H10:Hp),aV p H1 H10->H10 l=some (.lst xs)->aJ (fun _=>True) H10 xs (ss.map stD)->H10 wa=some (.lst (ws.map V.int))->H10 ta=some (.tup (zs.map V.int)) ->
      ws.length=ss.length->(∀z∈ws,0<=z/\z<=1000000)->k2 [some (V.ref a),some (V.int (0 + ↑i)),some (V.ref p),some (V.ref l),some (V.ref wa),some (V.ref ta),o6,o7,o8,o9,o10,o11,o12,o13] H10:=by
     clear sx9 tp9 hB0 hB9 nl es9 ts9 ew9 et9 hwl2 hwb nwa ewa hwa0;intro wa ws H10 sx10 es10 ts10 ew10 et10 hwl hwb;have hxl:=ts10.length;rw[length_map] at hxl;have sH:Same H1 H10:=BV sx10 hp;have hL10:=hL1.same sH;have few:Few zs:=fun z hz=>by
      have:=hzb z hz;omega
     have shw:=K7 (ss:=ss) (ws:=ws) (zs:=zs) sm ω ω hwb hzl hzb;have three:∀{H':Hp}{u:Addr},H' l=some (.lst xs)->aJ (fun _=>True) H' xs (ss.map stD)->H' wa=some (.lst (ws.map V.int))->H' ta=some (.tup (zs.map V.int))->H' u=some (.lst [.ref l,.ref wa,.ref ta]) ->
       aH (fun _=>True) H' (.ref u) (.list [.list (ss.map stD),.list (ws.map .int),.tuple (zs.map .int)]):=fun {H' u} e1 e2 e3 e4 e5=>
      .lst trivial e5 (by show 3<=1000000;decide) (.cons (.lst trivial e1 ω e2) (.cons (.lst trivial e3 (by rw[length_map];omega) (m7 ws)) (.cons (.tup trivial e4 (by rw[length_map];omega) (m7 zs)) .nil)))
     subst hk2;refine aY fun k2 hk2=>?_;push_cast;refine⟨aK δ,fun u1 hu1=>?_⟩;have s11:=ao (o:=HO.lst [V.ref l,V.ref wa,V.ref ta]) hu1;have sH11:=sH.trans s11;have t11:=three (s11 _ _ es10) (ts10.same s11) (s11 _ _ ew10) (s11 _ _ et10) au;generalize upd H10 u1 (HO.lst [V.ref l,V.ref wa,V.ref ta])=H11 at s11 t11 sH11 |-;refine⟨_,_,_,rfl,t11,shw,?_⟩;clear t11;subst hk2;refine aY fun k2 hk2=>?_;push_cast;refine⟨aK δ,fun sl hsl=>?_⟩;have s12:=s11.trans (ao (o:=HO.lst []) hsl);have e12:upd H11 sl (HO.lst []) sl=_:=au;generalize upd H11 sl (HO.lst [])=H12 at s12 e12 |-;subst hk2;refine aY fun k2 hk2=>?_;have sH12:=sH.trans s12;have hL12:=hL10.same s12;have es12:=s12 _ _ es10;have ts12:=ts10.same s12;have ew12:=s12 _ _ ew10;have et12:=s12 _ _ et10;clear s11 s12 sH sx10 es10 ts10 ew10 et10 hL10;refine kO fun R3 hR3=>?_;push_cast [tSS];refine fK fun R4 hR4=>?_;push_cast [es12];obtain⟨Pd,hPd⟩:∃Pv:Nat->List V->L2.St->Hp->Prop,Pv=fun(j:Nat) acc τ H'=>∃(o1:Option V),H'=H12/\acc=((ss.take j).map fun x=>x.2.2).map V.int/\τ=[o1]:=⟨_,rfl⟩;refine jE hR4 (xs:=xs) (aK ω) Pd (by rw[hPd];exact⟨none,rfl,rfl,rfl⟩) ?_ ?_ ?_ ?_
     ·intro j acc τ H13 pd;rw[hPd] at pd;obtain⟨o1,_,rfl,rfl⟩:=pd;rw[length_map,length_map];exact length_take_le _ _
     ·intro j acc τ H13 pd;rw[hPd] at pd;obtain⟨o1,rfl,_⟩:=pd;exact SqL.of es12
     ·intro j x acc τ H13 hx pd;rw[hPd] at pd;obtain⟨o1,rfl,rfl,rfl⟩:=pd;obtain⟨a9,st9,rfl,_,hst,h9⟩:=ts12.st hx;push_cast [h9];rw[hPd];refine⟨_,rfl,?_,rfl⟩;rw[take_snoc hst,map_append,map_append];rfl
     intro acc9 τ H13 d9 pd hd9;rw[hPd] at pd;obtain⟨o1,rfl,rfl,rfl⟩:=pd;push_cast;rw[hxl,take_length];have hlen9:(ss.map fun x=>x.2.2).length<=20:=by rw[length_map];exact h20
     refine⟨ss.map fun x=>x.2.2,SqL.of au,ω,fun pR ys hpR hperm hup=>?_⟩;have hdl:=SRT.vK (ss.map fun x=>x.2.2);have hys:lR ss ys:=Cw (fun l=>by
      rw[SRT.Ot,mem_map];constructor
      ·rintro⟨z,hz,rfl⟩;obtain⟨m,hm⟩:=List.mem_iff_getElem?.mp hz;have hmlt:=(List.getElem?_eq_some_iff.mp hm).1;rw[uG hmlt] at hm;exact⟨m,hmlt,by rw[Option.some.inj hm]⟩
      rintro⟨m,hm,rfl⟩;exact⟨_,mem_of_getElem? (uG hm),rfl⟩) hperm (hup ω) (SRT.t8 _)
     have hyl:ys.length<=20:=by rw[hperm.length_eq];omega
     have hyb:∀l∈ys,l.natAbs<1000:=fun l hl=>by
      obtain⟨m,hm,rfl⟩:=(hys.2 l).mp hl;exact(sm _ (mem_of_getElem? (uG hm))).2.2
     have hy0:ys≠[]:=List.ne_nil_of_mem ((hys.2 _).mpr ⟨0,h1,rfl⟩);clear hperm hup hdl hlen9;have s14:=(ao (o:=HO.lst ((ss.map fun x=>x.2.2).map V.int)) hd9).trans (ao (o:=HO.lst (ys.map V.int)) hpR);have e14:upd (upd H13 d9 (HO.lst ((ss.map fun x=>x.2.2).map V.int))) pR (HO.lst (ys.map V.int)) pR=_:=au;have nps:pR≠sl:=fun z=>by
      rw[z,(ao (o:=HO.lst ((ss.map fun x=>x.2.2).map V.int)) hd9) _ _ e12] at hpR;cases hpR
     generalize upd (upd H13 d9 (HO.lst ((ss.map fun x=>x.2.2).map V.int))) pR (HO.lst (ys.map V.int))=H14 at s14 e14 |-;have sl14:=s14 _ _ e12;have nsl:∀{b o},H14 b=some o->o≠HO.lst []->b≠sl:=fun {b o} e n z=>by
      rw[z,sl14] at e;exact n (Option.some.inj e).symm
     try push_cast [e14]
     have nl14:l≠sl:=nsl (s14 _ _ es12) (fun z=>by
      injection z with z;rw[z] at hxl;have:(0:Nat)=ss.length:=hxl;omega)
     have nw14:wa≠sl:=nsl (s14 _ _ ew12) (fun z=>by
      injection z with z;have:=congrArg List.length z;rw[length_map] at this;have:ws.length=0:=this;omega)
     have nt14:ta≠sl:=nsl (s14 _ _ et12) (fun z=>by cases z);obtain⟨SH,hSH⟩:∃S:Str,S=(PyData.list [.list (ss.map stD),.list (ws.map .int),.tuple (zs.map .int)]).shown:=⟨_,rfl⟩;obtain⟨Pe,hPe⟩:∃Pv:Nat->L2.St->Hp->Prop,Pv=fun(j:Nat) σ H'=>∃(ts:List Addr)(o8 o9 o10:Option V),aV sl H14 H'/\H' sl=some (.lst (ts.map V.ref))/\ts.length=j/\(∀(m:Nat) t lab,ts[m]?=some t->ys[m]?=some lab->ig ss ws zs H' lab t) /\
      σ=[some (.ref a),some (.int (0+(i:Int))),some (.ref p),some (.ref l),some (.ref wa),some (.ref ta),some (V.str SH),some (.ref sl),o8,o9,o10,o11,o12,o13]:=⟨_,rfl⟩
     refine yt hR3 (xs:=ys.map V.int) Pe (by rw[hPe,hSH];exact⟨[],_,_,_,aV.refl _ _,sl14,rfl,(fun m t lab z=>nomatch z),rfl⟩) (fun j σ H' _ pv=>?_) ?_ ?_
     ·rw[hPe] at pv;obtain⟨_,_,_,_,s',_⟩:=pv;exact SqL.of (s' _ _ nps e14)
     ·intro j x σ H15 hx pv;rw[hPe] at pv;obtain⟨ts,o8,o9,o10,s15,e15,hl15,all15,rfl⟩:=pv;rw[getElem?_map] at hx;obtain⟨lab,hlab,rfl⟩:=map_eq_some_iff.mp hx;obtain⟨m,hm,hml⟩:=(hys.2 lab).mp (mem_of_getElem? hlab);have es15:=s15 _ _ nl14 (s14 _ _ es12);have ts15:=(ts12.same s14).jh (ok':=fun _=>True) (fun b us _ e=>⟨trivial,yg s15 sl14 e⟩) (iM ss);have ew15:=s15 _ _ nw14 (s14 _ _ ew12);have et15:=s15 _ _ nt14 (s14 _ _ et12);refine aY fun k3 hk3=>?_;push_cast;refine⟨l,wa,ta,lab,xs,_,ss,ws,zs,rfl,es15,ts15,ω,ew15,hwl,⟨et15,hzl,hzb⟩,fun po ord H16 s16 hord hrk eo=>?_⟩;subst hk3;refine aY fun k3 hk3=>?_;push_cast;have hol:ord.length<=20:=by
       have h2:(fZ ss lab).length<=(List.range ss.length).length:=length_filter_le _ _;rw[length_range] at h2;rw[hord.length_eq];omega
      refine⟨l,ta,po,lab,xs,_,ss,zs,ord,rfl,s16 _ _ es15,ts15.same s16,fun k hk=>(jQ.mp (hord.mem_iff.mp hk)).1,ω,⟨s16 _ _ et15,hzl,hzb⟩,eo,fun v H17 s17 tv=>?_⟩;subst hk3;have s1517:=s16.trans s17;have e17:=s1517 _ _ e15;push_cast [e17];have tss:aH (fun _=>True) H17 (.ref l) (.list (ss.map stD)):=.lst trivial (s1517 _ _ es15) ω (ts15.same s1517);have tpl:aH (fun _=>True) H17 v (plD (plT ss zs lab ord)):=by
       rw[Pk];exact tv
      have hC:jT ss (dH ws zs) (plT ss zs lab ord) (List.range ss.length)=fC ss ws zs ws.sum ord:=by
       rw[xj pairwise_lt_range (hord.nodup_iff.mpr ((yj ss lab).imp fun h=>ω)) fun k hk=>mem_range.mpr (jQ.mp (hord.mem_iff.mp hk)).1,<- hwl,wD]
      have hpok:v7 ss (plT ss zs lab ord) (List.range ss.length):=Ik (m:=m) ⟨fun z=>by have:=congrArg List.length z;rw[length_range,length_nil] at this;omega,fun k hk=>mem_range.mp hk,pairwise_lt_range⟩ (mem_range.mpr hm) fun z=>(jQ.mp (hord.mem_iff.mp z)).2 hml;have hsz:bG (plT ss zs lab ord)<=4000:=by
       rw[Cd];omega
      refine⟨.ref l,v,wa,ta,fun _=>True,ss,ws,zs,plT ss zs lab ord,rfl,Ej,tss,tpl,s1517 _ _ ew15,hwl,s1517 _ _ et15,hzl,few,ω,hsz,hpok,fun H18 s18=>?_⟩;rw[hC];push_cast;refine⟨aK δ,fun u hu=>?_⟩;have s1519:=(s1517.trans s18).trans (ao (o:=HO.tup [V.int (fC ss ws zs ws.sum ord),V.int lab,v]) hu);have one:ig ss ws zs (upd H18 u (HO.tup [V.int (fC ss ws zs ws.sum ord),V.int lab,v])) lab u:=⟨v,ord,⟨hord,hrk⟩,au,(tv.same s18).same (ao hu)⟩;generalize upd H18 u (HO.tup [V.int (fC ss ws zs ws.sum ord),V.int lab,v])=H19 at s1519 one |-;have e19:=s1519 _ _ e15;push_cast [e19];have hjl:j<ys.length:=(List.getElem?_eq_some_iff.mp hlab).1;refine⟨Ui (by rw[length_map];omega),?_⟩;rw[hPe];refine⟨ts++[u],_,_,_,s15.trans (s1519.x.trans aV.upd),?_,by rw[length_append,length_singleton,hl15],fun m t lb hmt hmy=>?_,rfl⟩
      ·rw[au,map_append];rfl
      rcases lt_or_ge m ts.length with z|z
      ·rw[getElem?_append_left z] at hmt;exact((all15 m t lb hmt hmy).same s1519).put e19
      rw[getElem?_append_right z] at hmt;have hm0:m-ts.length=0:=by
       have:=(List.getElem?_eq_some_iff.mp hmt).1;rw[length_singleton] at this;omega
      rw[hm0] at hmt;obtain rfl:u=t:=Option.some.inj hmt;rw[show m=j by omega,hlab] at hmy;obtain rfl:=Option.some.inj hmy;exact one.put e19
     intro σ H15 pv;rw[hPe,length_map] at pv;obtain⟨ts,o8,o9,o10,s15,e15,hl15,all15,rfl⟩:=pv;have es15:=s15 _ _ nl14 (s14 _ _ es12);have ts15:=(ts12.same s14).jh (ok':=fun _=>True) (fun b us _ e=>⟨trivial,yg s15 sl14 e⟩) (iM ss);have ew15:=s15 _ _ nw14 (s14 _ _ ew12);have et15:=s15 _ _ nt14 (s14 _ _ et12);show k2 _ _;subst hk2;refine aY fun k2 hk2=>?_;push_cast;refine fK fun R5 hR5=>?_;push_cast [e15];obtain⟨Pg,hPg⟩:∃Pv:Nat->List V->L2.St->Hp->Prop,Pv=fun(j:Nat) acc τ H'=>∃(qs:List Addr)(o1:Option V),Same H15 H'/\acc=qs.map V.ref/\qs.length=j/\(∀(m:Nat) q lab,qs[m]?=some q->ys[m]?=some lab->rm ss ws zs H' lab q)/\τ=[o1]:=⟨_,rfl⟩;refine jE hR5 (xs:=ts.map V.ref) (aK (by rw[length_map];omega)) Pg (by rw[hPg];exact⟨[],none,Same.refl _,rfl,rfl,(fun m t lab z=>nomatch z),rfl⟩) ?_ ?_ ?_ ?_
     ·intro j acc τ H16 pg;rw[hPg] at pg;obtain⟨qs,o1,_,rfl,hq,_⟩:=pg;rw[length_map];omega
     ·intro j acc τ H16 pg;rw[hPg] at pg;obtain⟨qs,o1,s',_⟩:=pg;exact SqL.of (s' _ _ e15)
     ·intro j x acc τ H16 hx pg;rw[hPg] at pg;obtain⟨qs,o1,s',rfl,hq,hall,rfl⟩:=pg;rw[getElem?_map] at hx;obtain⟨t,ht,rfl⟩:=map_eq_some_iff.mp hx;have hjt:j<ys.length:=by
       have:=(List.getElem?_eq_some_iff.mp ht).1;omega
      obtain⟨v,ol,hol,et,_⟩:=(all15 j t _ ht (getElem?_eq_getElem hjt)).same s';push_cast [et];refine⟨δ,fun u hu=>?_⟩;have s'':=ao (o:=HO.tup [V.int (fC ss ws zs ws.sum ol),V.int ys[j]]) hu;rw[hPg];refine⟨qs++[u],_,s'.trans s'',by rw[map_append];rfl,by rw[length_append,length_singleton,hq],fun m q lb hmt hmy=>?_,rfl⟩;rcases lt_or_ge m qs.length with z|z
      ·rw[getElem?_append_left z] at hmt;exact(hall m q lb hmt hmy).same s''
      rw[getElem?_append_right z] at hmt;have hm0:m-qs.length=0:=by
       have:=(List.getElem?_eq_some_iff.mp hmt).1;rw[length_singleton] at this;omega
      rw[hm0] at hmt;obtain rfl:u=q:=Option.some.inj hmt;rw[show m=j by omega,getElem?_eq_getElem hjt] at hmy;obtain rfl:=Option.some.inj hmy;exact⟨ol,hol,au⟩
     intro acc τ H16 d pg hd;rw[hPg,length_map] at pg;obtain⟨qs,o1,s16,rfl,hq,hall,rfl⟩:=pg;have s17:=s16.trans (ao (o:=HO.lst (qs.map V.ref)) hd);have e17:upd H16 d (HO.lst (qs.map V.ref)) d=_:=au;have pr:Pairs ss ws zs (upd H16 d (HO.lst (qs.map V.ref))) ys qs:=⟨ω,fun m q lab h1 h2=>(hall m q lab h1 h2).same (ao hd)⟩;generalize upd H16 d (HO.lst (qs.map V.ref))=H17 at s17 e17 pr |-;clear s16 hall hPg;refine⟨d,qs,fun p=>(jV H17 p).1,fun p=>(jV H17 p).2,rfl,e17,by have:=pr.len;omega,pr.keys hyb,pr.nd hys.1 hyb,fun d2 rs hd2 hperm hpw=>?_⟩;cases rs with
     | nil=>
      have:=hperm.length_eq;rw[pr.len] at this;exact absurd (List.eq_nil_of_length_eq_zero this.symm) hy0
     | cons r rt=>
      obtain⟨c0,l0,er,hdue⟩:=pr.due hperm hpw rfl;have s18:=s17.trans (ao (o:=HO.lst ((r::rt).map V.ref)) hd2);have er18:=(ao (o:=HO.lst ((r::rt).map V.ref)) hd2) _ _ er;have e18:upd H17 d2 (HO.lst ((r::rt).map V.ref)) d2=_:=au;generalize upd H17 d2 (HO.lst ((r::rt).map V.ref))=H18 at s18 er18 e18 |-;clear hperm hpw pr e17 s17;have a0:atI ((r::rt).map V.ref) 0=some (.ref r):=Dr _ _;push_cast [e18,a0];subst hk2;have es18:=s18 _ _ es15;have ts18:=ts15.same s18;have ew18:=s18 _ _ ew15;have et18:=s18 _ _ et15;have sl18:=s18 _ _ e15;have all18:∀(m:Nat) t lab,ts[m]?=some t->ys[m]?=some lab->ig ss ws zs H18 lab t:=fun m t lab h1 h2=>(all15 m t lab h1 h2).same s18;have hsl1:H1 sl=none:=by
       cases hz:H1 sl with
       | none=>rfl
       | some o=>
        have:=sH11 _ _ hz;rw[hsl] at this;cases this
      have sH18:Same H1 H18:=fun b o e=>s18 _ _ (s15 _ _ (aD e hsl1) (s14 _ _ (sH12 _ _ e)));have hL18:=hL1.same sH18;clear all15 es15 ts15 ew15 et15 e15 s18 s15 hPe hR3 hR5 e18 hd hd2 er hL12 sl14 nsl nps e14 s14 es12 ts12 ew12 et12 e12 sH12;refine aY fun k2 hk2=>?_;push_cast [Bt,BX,ew18,BW,Gp];intro wr hwr;rw[<- List.map_reverse];have s19:=ao (o:=HO.lst (ws.reverse.map V.int)) hwr;have e19:upd H18 wr (HO.lst (ws.reverse.map V.int)) wr=_:=au;generalize upd H18 wr (HO.lst (ws.reverse.map V.int))=H19 at s19 e19 |-;refine⟨zs,s19 _ _ et18,hzl,fun tr htr=>?_⟩;have s20:=ao (o:=HO.tup (zs.reverse.map V.int)) htr;have e20:upd H19 tr (HO.tup (zs.reverse.map V.int)) tr=_:=au;generalize upd H19 tr (HO.tup (zs.reverse.map V.int))=H20 at s20 e20 |-;have s1820:=s19.trans s20;refine⟨l,wr,tr,xs,fun _=>True,ss,ws.reverse,zs.reverse,rfl,s1820 _ _ es18,ts18.same s1820,h1,ω,s20 _ _ e19,by rw[length_reverse];exact hwl,⟨e20,by rw[length_reverse];exact hzl,fun z hz=>hzb z (List.mem_reverse.mp hz)⟩,hL18.same s1820,fun v1 L1 ord1 lab1 H21 s21 hL21 _ _ _ _=>?_⟩;subst hk2;obtain⟨tbs,etb,_⟩:=hL18.same s1820;have s1821:aV T H18 H21:=s1820.x.trans s21;have kp21:∀{b o},H18 b=some o->(∀qs,o≠.tbl qs)->H21 b=some o:=fun {b o} e n=>gw s21 etb (s1820 _ _ e) n;have es21:=kp21 es18 fun qs z=>by cases z
      have ts21:=ts18.jh (ok':=fun _=>True) (fun b us _ e=>⟨trivial,kp21 e fun qs z=>by cases z⟩) (iM ss);have ew21:=kp21 ew18 fun qs z=>by cases z
      have et21:=kp21 et18 fun qs z=>by cases z
      have sl21:=kp21 sl18 fun qs z=>by cases z
      have er21:=kp21 er18 fun qs z=>by cases z
      have all21:∀(m:Nat) t lab,ts[m]?=some t->ys[m]?=some lab->ig ss ws zs H21 lab t:=fun m t lab h1 h2=>((all18 m t lab h1 h2).same s1820).jX s21 etb;have sx21:aV T H1 H21:=sH18.x.trans s1821;clear kp21 all18 er18 sl18 et18 ew18 ts18 es18 s21 s1820 s19 s20 e19 e20 etb s1821 sH18 hL18 hwr htr;refine aY fun k2 hk2=>?_;refine kO fun R6 hR6=>?_;push_cast [qz];refine⟨δ,δ,?_⟩;obtain⟨Ph,hPh⟩:∃Pv:Nat->L2.St->Hp->Prop,Pv=fun(j:Nat) σ H'=>∃(o12 o13:Option V),aV T H21 H'/\pC H' T lpB quB /\
       σ=[some (.ref a),some (.int (0+(i:Int))),some (.ref p),some (.ref l),some (.ref wa),some (.ref ta),some (V.str SH),some (.ref sl),o8,o9,o10,some (.ref r),o12,o13]:=⟨_,rfl⟩
      obtain⟨tbs,etb,_⟩:=id hL21;refine J1 hR6 Ph (by rw[hPh];exact⟨_,_,aV.refl _ _,hL21,rfl⟩) ?_ ?_
      ·intro j σ H22 hj pv;rw[hPh] at pv;obtain⟨o12,o13,s22,hL22,rfl⟩:=pv;have kp:∀{b o},H21 b=some o->(∀qs,o≠.tbl qs)->H22 b=some o:=fun {b o} e n=>gw s22 etb e n;have ts22:=ts21.jh (ok':=fun _=>True) (fun b us _ e=>⟨trivial,kp e fun qs z=>by cases z⟩) (iM ss);have es22:=kp es21 fun qs z=>by cases z
       have ew22:=kp ew21 fun qs z=>by cases z
       have et22:=kp et21 fun qs z=>by cases z
       refine aY fun k3 hk3=>?_;push_cast;refine⟨l,wa,ta,xs,fun _=>True,ss,ws,zs,rfl,es22,ts22,h1,ω,ew22,hwl,⟨et22,hzl,hzb⟩,hL22,fun v L ord lab H23 s23 hL23 hLab hOrd hBest tv=>?_⟩;subst hk3;obtain⟨tb2,etb2,_⟩:=id hL22;have sl23:=gw s23 etb2 (kp sl21 fun qs z=>by cases z) fun qs z=>by cases z
       have er23:=gw s23 etb2 (kp er21 fun qs z=>by cases z) fun qs z=>by cases z
       have all23:∀(m:Nat) t lab,ts[m]?=some t->ys[m]?=some lab->ig ss ws zs H23 lab t:=fun m t lab h1 h2=>((all21 m t lab h1 h2).jX s22 etb).jX s23 etb2;obtain rfl:L=ys:=hLab.one hys;obtain rfl:lab=l0:=hBest.one (hdue.best hOrd);obtain⟨m0,hm0,em0⟩:=mem_iff_getElem.mp hdue.1;obtain⟨_,⟨ol0,ho0,hc0⟩,_⟩:=id hdue;push_cast;refine fK fun R7 hR7=>?_;push_cast [sl23];obtain⟨Pi,hPi⟩:∃Pv:Nat->List V->L2.St->Hp->Prop,Pv=fun(j:Nat) acc τ H'=>∃(o1:Option V),Same H23 H'/\acc.length<=j/\(∀x∈acc,aH (fun _=>True) H' x (iW ss zs lab (iK ss lab ord)))/\(m0<j->acc≠[])/\τ=[o1,some (.ref r)]:=⟨_,rfl⟩;refine jE hR7 (xs:=ts.map V.ref) (aK (by rw[length_map];omega)) Pi (by rw[hPi];exact⟨none,Same.refl _,le_refl _,(fun x z=>nomatch z),(fun z=>absurd z (not_lt_zero _)),rfl⟩) ?_ ?_ ?_ ?_
       ·intro j acc τ H24 pi;rw[hPi] at pi;obtain⟨o1,_,hl,_⟩:=pi;exact hl
       ·intro j acc τ H24 pi;rw[hPi] at pi;obtain⟨o1,s',_⟩:=pi;exact SqL.of (s' _ _ sl23)
       ·intro j x acc τ H24 hx pi;rw[hPi] at pi;obtain⟨o1,s',hl,hall,hne,rfl⟩:=pi;rw[getElem?_map] at hx;obtain⟨t,ht,rfl⟩:=map_eq_some_iff.mp hx;have hjt:j<L.length:=by
         have:=(List.getElem?_eq_some_iff.mp ht).1;omega
        obtain⟨v2,ol,hol,et,tv2⟩:=(all23 j t _ ht (getElem?_eq_getElem hjt)).same s';push_cast [et];refine⟨δ,fun u hu=>?_⟩;have s'':=ao (o:=HO.tup [V.int (fC ss ws zs ws.sum ol),V.int L[j]]) hu;refine⟨u,r,_,_,_,_,rfl,rfl,au,s'' _ _ (s' _ _ er23),?_⟩;push_cast;change if (fC ss ws zs ws.sum ol == c0&&L[j] == lab)=true then ixq (upd H24 u (HO.tup [V.int (fC ss ws zs ws.sum ol),V.int L[j]]) t) 2 (upd H24 u (HO.tup [V.int (fC ss ws zs ws.sum ol),V.int L[j]])) (fun v H6=>Pi (j+1) (acc++[v]) [some (V.ref t),some (V.ref r)] H6) else Pi (j+1) acc [some (V.ref t),some (V.ref r)] (upd H24 u (HO.tup [V.int (fC ss ws zs ws.sum ol),V.int L[j]]));by_cases c:(fC ss ws zs ws.sum ol == c0&&L[j] == lab)=true
        ·rw[if_pos c];have ej:L[j]=lab:=eq_of_beq (and_eq_true _ _ ▸ c).2;have et':=s'' _ _ et;push_cast [et'];rw[hPi];refine⟨_,s'.trans s'',by rw[length_append,length_singleton];omega,fun x hx=>?_,(fun _ z=>by simp at z),rfl⟩;rcases mem_append.mp hx with h|h
         ·exact(hall x h).same s''
         rw[mem_singleton.mp h];rw[ej] at hol tv2;rw[<- hol.one (hOrd.RK lab)];exact tv2.same s''
        rw[if_neg c,hPi];refine⟨_,s'.trans s'',ω,fun x hx=>(hall x hx).same s'',fun z=>?_,rfl⟩;rcases lt_or_ge m0 j with y|y
        ·exact hne y
        have:m0=j:=by omega
        subst this;rw[em0] at hol;exact absurd (by rw[hol.one ho0,<- hc0,em0,beq_self_eq_true,beq_self_eq_true];rfl) c
       intro acc τ H24 d pi hd;rw[hPi,length_map] at pi;obtain⟨o1,s24,_,hall,hne,rfl⟩:=pi;obtain⟨x0,rest,rfl⟩:∃x0 rest,acc=x0::rest:=by
        cases acc with
        | nil=>exact absurd rfl (hne ω)
        | cons x0 rest=>exact⟨_,_,rfl⟩
       have s25:=s24.trans (ao (o:=HO.lst (x0::rest)) hd);have e25:upd H24 d (HO.lst (x0::rest)) d=_:=au;have t25:=(hall x0 (.head _)).same (ao (o:=HO.lst (x0::rest)) hd);generalize upd H24 d (HO.lst (x0::rest))=H25 at s25 e25 t25 |-;have a0:atI (x0::rest) 0=some x0:=Dr _ _;push_cast [e25,a0];have hdep:(iW ss zs lab (iK ss lab ord)).depth<62:=by
        have h2:=pQ ss zs lab (iK ss lab ord);have h3:(iK ss lab ord).length<=ord.length:=length_filter_le _ _;have h4:=hOrd.len;omega
       refine⟨v,x0,fun _=>True,_,rfl,tv.same s25,t25,hdep,fun H26 s26=>?_⟩;push_cast;rw[hPh];exact⟨_,_,(s22.trans s23).trans (s25.trans s26).x,hL23.same (s25.trans s26),rfl⟩
      intro σ H22 pv;rw[hPh] at pv;obtain⟨o12,o13,s22,hL22,rfl⟩:=pv;have kp:∀{b o},H21 b=some o->(∀qs,o≠.tbl qs)->H22 b=some o:=fun {b o} e n=>gw s22 etb e n;have ts22:=ts21.jh (ok':=fun _=>True) (fun b us _ e=>⟨trivial,kp e fun qs z=>by cases z⟩) (iM ss);show k2 _ _;subst hk2;push_cast;refine⟨aK δ,fun u2 hu2=>?_⟩;have s23:=ao (o:=HO.lst [V.ref l,V.ref wa,V.ref ta]) hu2;have t23:=three (s23 _ _ (kp es21 fun qs z=>by cases z)) (ts22.same s23) (s23 _ _ (kp ew21 fun qs z=>by cases z)) (s23 _ _ (kp et21 fun qs z=>by cases z)) au;generalize upd H22 u2 (HO.lst [V.ref l,V.ref wa,V.ref ta])=H23 at s23 t23 |-;refine⟨_,_,_,rfl,t23,shw,?_⟩;rw[hSH];push_cast;rw[hPv];exact⟨s1.trans ((sx21.trans s22).trans s23.x),hL22.same s23,_,_,_,_,_,_,_,_,_,_,_,_,_,rfl⟩
    have hxl:=ts9.length;rw[length_map] at hxl;push_cast;refine⟨p,4,B,rfl,tp9,ω,δ,δ,δ,fun z=>absurd z δ,fun r3 H10 r30 r31 s10 tp10=>?_⟩;push_cast;have sxb:=sx9.trans s10;have e10:=s10 _ _ nl es9;have t10:=(ts9.jX s10).keep (ok':=fun _=>True) fun a o _ e=>⟨trivial,e⟩;have w10:=s10 _ _ nwa ew9;have z10:=s10 _ _ nta et9;by_cases c:r3=0
    ·rw[if_pos c];refine⟨p,3,B+2,rfl,tp10,ω,δ,δ,δ,fun z=>absurd z δ,fun r4 H11 r40 r41 s11 tp11=>?_⟩;refine⟨δ,fun u hu=>?_⟩;have nl1:=aD (s11 _ _ nl e10) hu;have nu:=tp11.ne hu;rw[aG nl1,s11 _ _ nl e10];push_cast;refine⟨ω,ω,aK (by rw[toNat_natCast];omega),fun u2 hu2=>?_⟩;rw[toNat_natCast,G9,<- List.map_replicate];have s12:=(ao (o:=HO.lst [V.int r4]) hu).trans (ao (o:=HO.lst ((List.replicate xs.length r4).map V.int)) hu2);refine nxt u2 (List.replicate xs.length r4) _ ((sxb.trans s11).trans s12.x) (s12 _ _ (s11 _ _ nl e10)) ?_ au (s12 _ _ (s11 _ _ nta z10)) (by rw[List.length_replicate];exact hxl) (fun z hz=>?_)
     ·exact((((ts9.jX s10).jX s11).same s12).keep (ok':=fun _=>True) fun a o _ e=>⟨trivial,e⟩)
     rw[(List.mem_replicate.mp hz).2];omega
    rw[if_neg c];exact nxt wa ws H10 sxb e10 t10 w10 z10 hwl2 hwb
   push_cast;refine⟨p,4,2004+130+20,rfl,tp8,δ,δ,δ,δ,fun z=>absurd z δ,fun r3 H9 r30 r31 s9 tp9=>?_⟩;push_cast;have sx9b:=sx9.trans s9;have e9b:=s9 _ _ oD es9;have t9b:=ts9.jX s9;have w9b:=s9 _ _ nwa ew9;have z9b:=s9 _ _ nta et9;by_cases c:r3=0
   ·rw[if_pos c];refine fK fun R4 hR4=>?_;push_cast [e9b];obtain⟨Pd,hPd⟩:∃Pv:Nat->List V->L2.St->Hp->Prop,Pv=fun(j:Nat) acc τ H'=>∃(o1 o2 o3:Option V),Same H9 H'/\aJ (·≠p) H' acc (((ss.take j).map Cy).map stD)/\τ=[o1,o2,o3]:=⟨_,rfl⟩;refine jE hR4 (xs:=xs) (aK ω) Pd (by rw[hPd];exact⟨none,none,none,Same.refl _,.nil,rfl⟩) ?_ ?_ ?_ ?_
    ·intro j acc τ H10 pd;rw[hPd] at pd;obtain⟨_,_,_,_,t,rfl⟩:=pd;rw[t.length,length_map,length_map];exact length_take_le _ _
    ·intro j acc τ H10 pd;rw[hPd] at pd;obtain⟨_,_,_,s',_⟩:=pd;exact SqL.of (s' _ _ e9b)
    ·intro j x acc τ H10 hx pd;rw[hPd] at pd;obtain⟨o1,o2,o3,s',t,rfl⟩:=pd;obtain⟨a9,st9,rfl,_,hst,h9⟩:=(t9b.same s').st hx;push_cast [h9];refine⟨.inl ⟨δ,δ⟩,aK δ,fun u hu=>?_⟩;have nu:=(tp9.same s').ne hu;have s'':=ao (o:=HO.tup [V.int st9.1,V.int st9.2.1,V.int (9+22*st9.2.2)]) hu;rw[hPd];refine⟨_,_,_,s'.trans s'',?_,rfl⟩;rw[take_snoc hst,map_append,map_append];exact(t.same s'').append (.cons (.tup nu au (by show 3<=1000000;decide) (.cons (.int _) (.cons (.int _) (.cons (.int _) .nil)))) .nil)
    intro acc τ H10 d pd hd;rw[hPd] at pd;obtain⟨o1,o2,o3,s',t,rfl⟩:=pd;rw[hxl,take_length] at t;have nd:=(tp9.same s').ne hd;have s'':=s'.trans (ao (o:=HO.lst acc) hd);exact nxt d (ss.map Cy) acc (2004+130+20+2) _ (sx9b.trans s''.x) (tp9.same s'') δ δ nd au (t.same (ao hd)) (s'' _ _ w9b) (s'' _ _ z9b) (by rw[length_map];exact hwl2) (by rw[length_map];exact h20.1) (by rw[length_map];exact h20.2) (.lab hrow ω)
   rw[if_neg c];exact nxt l ss xs (2004+130+20+2) H9 sx9b tp9 δ δ oD e9b t9b w9b z9b hwl2 h20.1 h20.2 (.row hrow ω)
 intro σ H1 pv;rw[hPv] at pv;obtain⟨s1,hL1,o1,o2,o3,o4,o5,o6,o7,o8,o9,o10,o11,o12,o13,rfl⟩:=pv;show k _ _;subst hk;exact q _
end
theorem all_mk {l:PySem.W.OpenLaw}{w:World}{K:PySem.W.Frag}{h:Heap}{mg:Str->Option Value}{fa cb T:Addr}{f1:Addr}{od1 an1:Option Addr}{sl1:Array (Option Value)}{oc1 kV1 dc1 pm1 cd1 ct1:Value}{f2:Addr}{od2 an2:Option Addr}{sl2:Array (Option Value)}{oc2 kV2 dc2 pm2 cd2 ct2:Value}{f3:Addr}{od3 an3:Option Addr}{sl3:Array (Option Value)}{oc3 kV3 dc3 pm3 cd3 ct3:Value}{f4:Addr}{od4 an4:Option Addr}{sl4:Array (Option Value)}{oc4 kV4 dc4 pm4 cd4 ct4:Value}{f5:Addr}{od5 an5:Option Addr}{sl5:Array (Option Value)}{oc5 kV5 dc5 pm5 cd5 ct5:Value}{f6:Addr}{od6 an6:Option Addr}{sl6:Array (Option Value)}{oc6 kV6 dc6 pm6 cd6 ct6:Value}{f7:Addr}{od7 an7:Option Addr}{sl7:Array (Option Value)}{oc7 kV7 dc7 pm7 cd7 ct7:Value}{f8:Addr}{od8 an8:Option Addr}{sl8:Array (Option Value)}{oc8 kV8 dc8 pm8 cd8 ct8:Value}{f9:Addr}{od9 an9:Option Addr}{sl9:Array (Option Value)}{oc9 kV9 dc9 pm9 cd9 ct9:Value}{f10:Addr}{od10 an10:Option Addr}{sl10:Array (Option Value)}{oc10 kV10 dc10 pm10 cd10 ct10:Value}{f11:Addr}{od11 an11:Option Addr}{sl11:Array (Option Value)}{oc11 kV11 dc11 pm11 cd11 ct11:Value}{f12:Addr}{od12 an12:Option Addr}{sl12:Array (Option Value)}{oc12 kV12 dc12 pm12 cd12 ct12:Value}{f13:Addr}{od13 an13:Option Addr}{sl13:Array (Option Value)}{oc13 kV13 dc13 pm13 cd13 ct13:Value}{f14:Addr}{od14 an14:Option Addr}{sl14:Array (Option Value)}{oc14 kV14 dc14 pm14 cd14 ct14:Value}{f15:Addr}{od15 an15:Option Addr}{sl15:Array (Option Value)}{oc15 kV15 dc15 pm15 cd15 ct15:Value}{f16:Addr}{od16 an16:Option Addr}{sl16:Array (Option Value)}{oc16 kV16 dc16 pm16 cd16 ct16:Value}{f17:Addr}{od17 an17:Option Addr}{sl17:Array (Option Value)}{oc17 kV17 dc17 pm17 cd17 ct17:Value}{f18:Addr}{od18 an18:Option Addr}{sl18:Array (Option Value)}{oc18 kV18 dc18 pm18 cd18 ct18:Value}{f19:Addr}{od19 an19:Option Addr}{sl19:Array (Option Value)}{oc19 kV19 dc19 pm19 cd19 ct19:Value}{aTests:Addr}{nTests:Nat}{slTests:Array (Option Value)}{kTests0 kTests1 kTests2 kTests3 kTests4:Tok}(X:K.In h) (G:h.Ns mainGlobals mg) (hfa:mg "law" = some (.ref fa))
  (a1:nsIn K mainGlobals "word_of_test" = some (some (.ref f1))) (l1:K.lookup f1=some ⟨oc1,od1,.func (fnOf "word_of_test" "word_of_test" (bA cu) (aX cu) (aj cu) .none kV1 dc1 pm1 an1 cd1 ct1),sl1⟩) (c1:codeIn K cd1 "word_of_test" = true) (k1:keepIn K (.ref f1)=true)
  (a2:nsIn K mainGlobals "tests_in_order" = some (some (.ref f2))) (l2:K.lookup f2=some ⟨oc2,od2,.func (fnOf "tests_in_order" "tests_in_order" (bA aM) (aX aM) (aj aM) .none kV2 dc2 pm2 an2 cd2 ct2),sl2⟩) (c2:codeIn K cd2 "tests_in_order" = true) (k2:keepIn K (.ref f2)=true)
  (a3:nsIn K mainGlobals "row_by" = some (some (.ref f3))) (l3:K.lookup f3=some ⟨oc3,od3,.func (fnOf "row_by" "row_by" (bA eH) (aX eH) (aj eH) .none kV3 dc3 pm3 an3 cd3 ct3),sl3⟩) (c3:codeIn K cd3 "row_by" = true) (k3:keepIn K (.ref f3)=true)
  (a4:nsIn K mainGlobals "row_cost" = some (some (.ref f4))) (l4:K.lookup f4=some ⟨oc4,od4,.func (fnOf "row_cost" "row_cost" (bA bL) (aX bL) (aj bL) .none kV4 dc4 pm4 an4 cd4 ct4),sl4⟩) (c4:codeIn K cd4 "row_cost" = true) (k4:keepIn K (.ref f4)=true)
  (a5:nsIn K mainGlobals "rows_for" = some (some (.ref f5))) (l5:K.lookup f5=some ⟨oc5,od5,.func (fnOf "rows_for" "rows_for" (bA bW) (aX bW) (aj bW) .none kV5 dc5 pm5 an5 cd5 ct5),sl5⟩) (c5:codeIn K cd5 "rows_for" = true) (k5:keepIn K (.ref f5)=true)
  (a6:nsIn K mainGlobals "best_row" = some (some (.ref f6))) (l6:K.lookup f6=some ⟨oc6,od6,.func (fnOf "best_row" "best_row" (bA bf) (aX bf) (aj bf) .none kV6 dc6 pm6 an6 cd6 ct6),sl6⟩) (c6:codeIn K cd6 "best_row" = true) (k6:keepIn K (.ref f6)=true)
  (a7:nsIn K mainGlobals "_law_cell_at" = some (some (.ref f7))) (l7:K.lookup f7=some ⟨oc7,od7,.func (fnOf "_law_cell_at" "_law_cell_at" (bA dG) (aX dG) (aj dG) .none kV7 dc7 pm7 an7 cd7 ct7),sl7⟩) (c7:codeIn K cd7 "_law_cell_at" = true) (k7:keepIn K (.ref f7)=true)
  (a8:nsIn K mainGlobals "_law_tape" = some (some (.ref f8))) (l8:K.lookup f8=some ⟨oc8,od8,.func (fnOf "_law_tape" "_law_tape" (bA eX) (aX eX) (aj eX) .none kV8 dc8 pm8 an8 cd8 ct8),sl8⟩) (c8:codeIn K cd8 "_law_tape" = true) (k8:keepIn K (.ref f8)=true)
  (a9:nsIn K mainGlobals "_law_take" = some (some (.ref f9))) (l9:K.lookup f9=some ⟨oc9,od9,.func (fnOf "_law_take" "_law_take" (bA eY) (aX eY) (aj eY) .none kV9 dc9 pm9 an9 cd9 ct9),sl9⟩) (c9:codeIn K cd9 "_law_take" = true) (k9:keepIn K (.ref f9)=true)
  (a10:nsIn K mainGlobals "_law_stretches" = some (some (.ref f10))) (l10:K.lookup f10=some ⟨oc10,od10,.func (fnOf "_law_stretches" "_law_stretches" (bA aQ) (aX aQ) (aj aQ) .none kV10 dc10 pm10 an10 cd10 ct10),sl10⟩) (c10:codeIn K cd10 "_law_stretches" = true) (k10:keepIn K (.ref f10)=true)
  (a11:nsIn K mainGlobals "_law_weights" = some (some (.ref f11))) (l11:K.lookup f11=some ⟨oc11,od11,.func (fnOf "_law_weights" "_law_weights" (bA b8) (aX b8) (aj b8) .none kV11 dc11 pm11 an11 cd11 ct11),sl11⟩) (c11:codeIn K cd11 "_law_weights" = true) (k11:keepIn K (.ref f11)=true)
  (a12:nsIn K mainGlobals "_law_prices" = some (some (.ref f12))) (l12:K.lookup f12=some ⟨oc12,od12,.func (fnOf "_law_prices" "_law_prices" (bA cB) (aX cB) (aj cB) .none kV12 dc12 pm12 an12 cd12 ct12),sl12⟩) (c12:codeIn K cd12 "_law_prices" = true) (k12:keepIn K (.ref f12)=true)
  (a13:nsIn K mainGlobals "_law_way" = some (some (.ref f13))) (l13:K.lookup f13=some ⟨oc13,od13,.func (fnOf "_law_way" "_law_way" (bA iG) (aX iG) (aj iG) .none kV13 dc13 pm13 an13 cd13 ct13),sl13⟩) (c13:codeIn K cd13 "_law_way" = true) (k13:keepIn K (.ref f13)=true)
  (a14:nsIn K mainGlobals "_law_cost" = some (some (.ref f14))) (l14:K.lookup f14=some ⟨oc14,od14,.func (fnOf "_law_cost" "_law_cost" (bA cG) (aX cG) (aj cG) .none kV14 dc14 pm14 an14 cd14 ct14),sl14⟩) (c14:codeIn K cd14 "_law_cost" = true) (k14:keepIn K (.ref f14)=true)
  (a15:nsIn K mainGlobals "_law_same" = some (some (.ref f15))) (l15:K.lookup f15=some ⟨oc15,od15,.func (fnOf "_law_same" "_law_same" (bA cR) (aX cR) (aj cR) .none kV15 dc15 pm15 an15 cd15 ct15),sl15⟩) (c15:codeIn K cd15 "_law_same" = true) (k15:keepIn K (.ref f15)=true)
  (a16:nsIn K mainGlobals "_law_test" = some (some (.ref f16))) (l16:K.lookup f16=some ⟨oc16,od16,.func (fnOf "_law_test" "_law_test" (bA gC) (aX gC) (aj gC) .none kV16 dc16 pm16 an16 cd16 ct16),sl16⟩) (c16:codeIn K cd16 "_law_test" = true) (k16:keepIn K (.ref f16)=true)
  (a17:nsIn K mainGlobals "_law_ordered" = some (some (.ref f17))) (l17:K.lookup f17=some ⟨oc17,od17,.func (fnOf "_law_ordered" "_law_ordered" (bA bY) (aX bY) (aj bY) .none kV17 dc17 pm17 an17 cd17 ct17),sl17⟩) (c17:codeIn K cd17 "_law_ordered" = true) (k17:keepIn K (.ref f17)=true)
  (a18:nsIn K mainGlobals "_law_best_order" = some (some (.ref f18))) (l18:K.lookup f18=some ⟨oc18,od18,.func (fnOf "_law_best_order" "_law_best_order" (bA aR) (aX aR) (aj aR) .none kV18 dc18 pm18 an18 cd18 ct18),sl18⟩) (c18:codeIn K cd18 "_law_best_order" = true) (k18:keepIn K (.ref f18)=true)
  (a19:nsIn K mainGlobals "law" = some (some (.ref f19))) (l19:K.lookup f19=some ⟨oc19,od19,.func (fnOf "law" "law" (bA cH) (aX cH) (aj cH) .none kV19 dc19 pm19 an19 cd19 ct19),sl19⟩) (c19:codeIn K cd19 "law" = true) (k19:keepIn K (.ref f19)=true)
  (z1:nsIn K mainGlobals "abs" = some none)
  (z2:nsIn K mainGlobals "all" = some none)
  (z3:nsIn K mainGlobals "bool" = some none)
  (z4:nsIn K mainGlobals "dict" = some none)
  (z5:nsIn K mainGlobals "enumerate" = some none)
  (z6:nsIn K mainGlobals "int" = some none)
  (z7:nsIn K mainGlobals "isinstance" = some none)
  (z8:nsIn K mainGlobals "len" = some none)
  (z9:nsIn K mainGlobals "list" = some none)
  (z10:nsIn K mainGlobals "max" = some none)
  (z11:nsIn K mainGlobals "min" = some none)
  (z12:nsIn K mainGlobals "range" = some none)
  (z13:nsIn K mainGlobals "repr" = some none)
  (z14:nsIn K mainGlobals "reversed" = some none)
  (z15:nsIn K mainGlobals "set" = some none)
  (z16:nsIn K mainGlobals "sorted" = some none)
  (z17:nsIn K mainGlobals "str" = some none)
  (z18:nsIn K mainGlobals "sum" = some none)
  (z19:nsIn K mainGlobals "tuple" = some none)
  (z20:nsIn K mainGlobals "zip" = some none)
  (t1:nsIn K mainGlobals "TESTS" = some (some (.ref aTests))) (u1:K.lookup aTests=some ⟨.type "tuple",none,.seq #[.str "is" kTests0,.str "within" kTests1,.str "below" kTests2,.str "mask" kTests3,.str "table" kTests4] nTests,slTests⟩) (e6:cd6=.ref cb) (hd6:PySem.W.codeHdIn K cb T=true) :
  ∃fd:FuncData,(∀(s:Shared)(v:Value),BindsTo s fd ⟨[v],[]⟩ [("_law_script",v)])/\∀base:Heap,K.In base->base.Ns mainGlobals mg->base.BuiltinsAt mg T->dW l.prog w K mg base CX0 63 fa fd ["_law_script"] (BJ K T):=by
 have e:=hfa.symm.trans (mg_of X G a19);cases e;subst e6;have DWordOfTest:iz K mg "word_of_test" cu q12_ _ _:=⟨aZ (st:=cu) l1 c1 k1,(aZ (st:=cu) l1 c1 k1).binds (ps:=["stretch","prices"]) fun _ _ _ _ _ _ us hl=>by obtain⟨z0,z1,rfl⟩:=ln2 hl;rfl,mg_of X G a1⟩;have DTestsInOrder:iz K mg "tests_in_order" aM q2_ _ _:=⟨aZ (st:=aM) l2 c2 k2,(aZ (st:=aM) l2 c2 k2).binds (ps:=["stretches","weights","prices","left"]) fun _ _ _ _ _ _ us hl=>by obtain⟨z0,z1,z2,z3,rfl⟩:=ln4 hl;rfl,mg_of X G a2⟩;have DRowBy:iz K mg "row_by" eH q11_ _ _:=⟨aZ (st:=eH) l3 c3 k3,(aZ (st:=eH) l3 c3 k3).binds (ps:=["stretches","tests","label"]) fun _ _ _ _ _ _ us hl=>by obtain⟨z0,z1,z2,rfl⟩:=ln3 hl;rfl,mg_of X G a3⟩;have DRowCost:iz K mg "row_cost" bL q8_ _ _:=⟨aZ (st:=bL) l4 c4 k4,(aZ (st:=bL) l4 c4 k4).binds (ps:=["stretches","weights","prices","tests","label"]) fun _ _ _ _ _ _ us hl=>by obtain⟨z0,z1,z2,z3,z4,rfl⟩:=ln5 hl;rfl,mg_of X G a4⟩;have DRowsFor:iz K mg "rows_for" bW q2_ _ _:=⟨aZ (st:=bW) l5 c5 k5,(aZ (st:=bW) l5 c5 k5).binds (ps:=["stretches","weights","prices","left"]) fun _ _ _ _ _ _ us hl=>by obtain⟨z0,z1,z2,z3,rfl⟩:=ln4 hl;rfl,mg_of X G a5⟩;have DBestRow:iz K mg "best_row" bf q10_ _ _:=⟨aZ (st:=bf) l6 c6 k6,(aZ (st:=bf) l6 c6 k6).binds (ps:=["stretches","weights","prices"]) fun _ _ _ _ _ _ us hl=>by obtain⟨z0,z1,z2,rfl⟩:=ln3 hl;rfl,mg_of X G a6⟩;have DZCellAt:iz K mg "_law_cell_at" dG q7_ _ _:=⟨aZ (st:=dG) l7 c7 k7,(aZ (st:=dG) l7 c7 k7).binds (ps:=["_law_script","_law_k"]) fun _ _ _ _ _ _ us hl=>by obtain⟨z0,z1,rfl⟩:=ln2 hl;rfl,mg_of X G a7⟩;have DZTape:iz K mg "_law_tape" eX q7_ _ _:=⟨aZ (st:=eX) l8 c8 k8,(aZ (st:=eX) l8 c8 k8).binds (ps:=["_law_script","_law_k"]) fun _ _ _ _ _ _ us hl=>by obtain⟨z0,z1,rfl⟩:=ln2 hl;rfl,mg_of X G a8⟩;have DZTake:iz K mg "_law_take" eY q0_ _ _:=⟨aZ (st:=eY) l9 c9 k9,(aZ (st:=eY) l9 c9 k9).binds (ps:=["_law_tape_here","_law_many"]) fun _ _ _ _ _ _ us hl=>by obtain⟨z0,z1,rfl⟩:=ln2 hl;rfl,mg_of X G a9⟩;have DZStretches:iz K mg "_law_stretches" aQ q0_ _ _:=⟨aZ (st:=aQ) l10 c10 k10,(aZ (st:=aQ) l10 c10 k10).binds (ps:=["_law_tape_here","_law_many"]) fun _ _ _ _ _ _ us hl=>by obtain⟨z0,z1,rfl⟩:=ln2 hl;rfl,mg_of X G a10⟩;have DZWeights:iz K mg "_law_weights" b8 q0_ _ _:=⟨aZ (st:=b8) l11 c11 k11,(aZ (st:=b8) l11 c11 k11).binds (ps:=["_law_tape_here","_law_many"]) fun _ _ _ _ _ _ us hl=>by obtain⟨z0,z1,rfl⟩:=ln2 hl;rfl,mg_of X G a11⟩;have DZPrices:iz K mg "_law_prices" cB q0_ _ _:=⟨aZ (st:=cB) l12 c12 k12,(aZ (st:=cB) l12 c12 k12).binds (ps:=["_law_tape_here","_law_many"]) fun _ _ _ _ _ _ us hl=>by obtain⟨z0,z1,rfl⟩:=ln2 hl;rfl,mg_of X G a12⟩;have DZWay:iz K mg "_law_way" iG q9_ _ _:=⟨aZ (st:=iG) l13 c13 k13,(aZ (st:=iG) l13 c13 k13).binds (ps:=["_law_stretches_here","_law_plan","_law_place"]) fun _ _ _ _ _ _ us hl=>by obtain⟨z0,z1,z2,rfl⟩:=ln3 hl;rfl,mg_of X G a13⟩
 have DZCost:iz K mg "_law_cost" cG q4_ _ _:=⟨aZ (st:=cG) l14 c14 k14,(aZ (st:=cG) l14 c14 k14).binds (ps:=["_law_stretches_here","_law_weights_here","_law_prices_here","_law_plan"]) fun _ _ _ _ _ _ us hl=>by obtain⟨z0,z1,z2,z3,rfl⟩:=ln4 hl;rfl,mg_of X G a14⟩;have DZSame:iz K mg "_law_same" cR q6_ _ _:=⟨aZ (st:=cR) l15 c15 k15,(aZ (st:=cR) l15 c15 k15).binds (ps:=["_law_found","_law_due"]) fun _ _ _ _ _ _ us hl=>by obtain⟨z0,z1,rfl⟩:=ln2 hl;rfl,mg_of X G a15⟩;have DZTest:iz K mg "_law_test" gC q1_ _ _:=⟨aZ (st:=gC) l16 c16 k16,(aZ (st:=gC) l16 c16 k16).binds (ps:=["_law_stretches_here","_law_prices_here","_law_place"]) fun _ _ _ _ _ _ us hl=>by obtain⟨z0,z1,z2,rfl⟩:=ln3 hl;rfl,mg_of X G a16⟩;have DZOrdered:iz K mg "_law_ordered" bY q5_ _ _:=⟨aZ (st:=bY) l17 c17 k17,(aZ (st:=bY) l17 c17 k17).binds (ps:=["_law_stretches_here","_law_prices_here","_law_order","_law_label"]) fun _ _ _ _ _ _ us hl=>by obtain⟨z0,z1,z2,z3,rfl⟩:=ln4 hl;rfl,mg_of X G a17⟩;have DZBestOrder:iz K mg "_law_best_order" aR q3_ _ _:=⟨aZ (st:=aR) l18 c18 k18,(aZ (st:=aR) l18 c18 k18).binds (ps:=["_law_stretches_here","_law_weights_here","_law_prices_here","_law_label"]) fun _ _ _ _ _ _ us hl=>by obtain⟨z0,z1,z2,z3,rfl⟩:=ln4 hl;rfl,mg_of X G a18⟩;have DLaw:iz K mg "law" cH ["_law_script"] _ _:=⟨aZ (st:=cH) l19 c19 k19,(aZ (st:=cH) l19 c19 k19).binds (ps:=["_law_script"]) fun _ _ _ _ _ _ us hl=>by obtain⟨z0,rfl⟩:=ln1 hl;rfl,mg_of X G a19⟩;have cgTests:mg "TESTS" = some (.ref aTests):=mg_of X G t1;have ktTests:KTup K aTests ([("is" : Str),("within" : Str),("below" : Str),("mask" : Str),("table" : Str)].map V.str):=⟨_,_,_,u1,rfl,rfl,rfl,aK (show 5<=1000000 by decide),(.cons ⟨_,rfl⟩ (.cons ⟨_,rfl⟩ (.cons ⟨_,rfl⟩ (.cons ⟨_,rfl⟩ (.cons ⟨_,rfl⟩ .nil)))))⟩;have hB:∀x:Str,x∈BLs->mg x=none:=by
  intro x hx;replace hx:x∈(["abs","all","bool","dict","enumerate","int","isinstance","len","list","max","min","range","repr","reversed","set","sorted","str","sum","tuple","zip"]:List Str):=hx;simp only[mem_cons,not_mem_nil,or_false] at hx;rcases hx with rfl|rfl|rfl|rfl|rfl|rfl|rfl|rfl|rfl|rfl|rfl|rfl|rfl|rfl|rfl|rfl|rfl|rfl|rfl|rfl
  ·exact mg_none_of X G z1
  ·exact mg_none_of X G z2
  ·exact mg_none_of X G z3
  ·exact mg_none_of X G z4
  ·exact mg_none_of X G z5
  ·exact mg_none_of X G z6
  ·exact mg_none_of X G z7
  ·exact mg_none_of X G z8
  ·exact mg_none_of X G z9
  ·exact mg_none_of X G z10
  ·exact mg_none_of X G z11
  ·exact mg_none_of X G z12
  ·exact mg_none_of X G z13
  ·exact mg_none_of X G z14
  ·exact mg_none_of X G z15
  ·exact mg_none_of X G z16
  ·exact mg_none_of X G z17
  ·exact mg_none_of X G z18
  ·exact mg_none_of X G z19
  exact mg_none_of X G z20
 refine⟨fnOf "law" "law" (bA cH) (aX cH) (aj cH) .none kV19 dc19 pm19 an19 cd19 ct19,fun s v=>.of_eq rfl,fun base kb nb hbu=>?_⟩;have CCell:=DZCellAt.cal (Np (P:=l.prog) (w:=w) (base:=base) hB DZCellAt.fn);have CTape:=DZTape.cal (Nj hB CCell DZTape.fn);have CTake0:=DZTake.cal (Dz (P:=l.prog) (w:=w) (mg:=mg) (base:=base));have CTake1:=DZTake.cal (Cj (n:=0) hB δ CTake0 DZTake.fn);have CTake2:=DZTake.cal (Cj (n:=1) hB δ CTake1 DZTake.fn);have CSame:∀n,Cal l.prog w K mg base "_law_same" n q6_ (jK n):=by
  intro n
  induction n with
  | zero=>exact DZSame.cal (same_none (P:=l.prog) (w:=w) (mg:=mg) (base:=base))
  | succ n ih=>exact DZSame.cal (Nk hB ih DZSame.fn)
 have CSts:=DZStretches.cal (RX hB CTake2 DZStretches.fn);have CWay:=DZWay.cal (RW (P:=l.prog) (w:=w) (base:=base) hB DZWay.fn);have CLCost:=DZCost.cal (Jb hB CWay DZCost.fn);have CWts:=DZWeights.cal (zE hB CTake2 DZWeights.fn);have CPrs:=DZPrices.cal (Ei hB CTake2 DZPrices.fn);have CWord:=DWordOfTest.cal (Jc (P:=l.prog) (w:=w) (mg:=mg) (base:=base) DWordOfTest.fn);have CTests:=DTestsInOrder.cal (Eh hB CWord DTestsInOrder.fn);have CRowBy:=DRowBy.cal (Jd (P:=l.prog) (w:=w) (base:=base) hB DRowBy.fn);have CRowCost:=DRowCost.cal (zG (P:=l.prog) (w:=w) (base:=base) hB cgTests ktTests DRowCost.fn);have CRowsFor:=DRowsFor.cal (zF hB CTests CRowCost CRowBy DRowsFor.fn);have CBest:=DBestRow.cal (zJ hB CRowsFor (PySem.W.codeHd_of_K kb hd6) hbu l6 c6);have CLTest:=DZTest.cal (Je (P:=l.prog) (w:=w) (base:=base) hB DZTest.fn);have COrdered:=DZOrdered.cal (zH hB CLTest DZOrdered.fn);have CBestO:=DZBestOrder.cal (Nq hB CLTest DZBestOrder.fn);exact RZ hB CBest CTake2 CTape CSts CWts CPrs CBestO COrdered (CSame 62) CLCost DLaw.fn
theorem walk {l:PySem.W.OpenLaw}{q:Program}{loose:List Str}{XP:(Str->Option Value)->Heap->Prop}{YP:World->Heap->Prop}{d:DefRec}{K:Params->PySem.W.Frag}(cb T:Addr)(hn:l.most=some 63)(hdf:d.params.defaults=[])
  (hY:∀(w:World)(h:Heap),YP w h->(K w.params).In h/\h.get? T=some (PySem.W.tabObj #[])/\(K w.params).lookup T=none/\PySem.W.CodeHd h cb T)
  (F:∀(w:World)(mg:Str->Option Value)(fa:Addr)(h:Heap),(K w.params).In h->h.Ns mainGlobals mg->mg d.name=some (.ref fa) ->
   ∃fd:FuncData,(∀(s:Shared)(u:Value),BindsTo s fd ⟨[u],[]⟩ [("_law_script",u)])/\∀base:Heap,(K w.params).In base->base.Ns mainGlobals mg->base.BuiltinsAt mg T->dW l.prog w (K w.params) mg base CX0 63 fa fd ["_law_script"] (BJ (K w.params) T))
  (hKT:∀w:World,(K w.params).lookup T=none) :
  PySem.W.WalkO q loose XP YP l.row.toRowW d [] (fun f vs=>PySem.call f vs):=
 L2.Gf (n:=63) (k:=63) (x := "_law_script") (c:=cb) (T:=T) (CX:=fun _=>CX0) (sp:=fun w=>BJ (K w.params) T) hn δ hdf ⟨rfl,δ,δ,rfl⟩ hY F (fun w H a ns hl hT hS=>⟨a,ns,rfl,hS,hl,(fun z=>by
  subst z;rcases hS with h|⟨o,vs,e,h,_⟩
  ·rcases h with h|⟨o,h⟩
   ·rw[hT] at h;cases h
   rw[hT] at h;cases h
  rw[hKT] at h;cases h),⟨#[],hT,trivial,.inl rfl⟩,fun _=>rfl⟩) fun _ _ _ _ _ z=>z
end K27
open PySem PySem.W PyProof.Rows
set_option maxRecDepth 100000 in
set_option maxHeartbeats 0 in
theorem PySem.Challenge.cw_caseways_k27_best_rows_of_tests_holds : PySem.Challenge.rw_caseways_k27_best_rows_of_tests.Holds := by
 w_on; o_law; k_head; (case hw=>w_witness2)
 k_fill
 refine K27.walk 50 46 (l:=PySem.Challenge.rw_caseways_k27_best_rows_of_tests) rfl rfl (fun w h Y=>⟨PySem.W.km_in_of Y,PySem.W.km_tabs_of Y 46 (by k_mem),by kernel_rfl,PySem.W.codeHd_of_K (PySem.W.km_in_of Y) (by kernel_rfl)⟩) ?F (fun w=>by kernel_rfl)
 case F=>
  intro w mg fa h KX G hmg
  refine' K27.all_mk (cb:=50) KX G hmg ?a1 ?l1 ?c1 ?k1 ?a2 ?l2 ?c2 ?k2 ?a3 ?l3 ?c3 ?k3 ?a4 ?l4 ?c4 ?k4 ?a5 ?l5 ?c5 ?k5 ?a6 ?l6 ?c6 ?k6 ?a7 ?l7 ?c7 ?k7 ?a8 ?l8 ?c8 ?k8 ?a9 ?l9 ?c9 ?k9 ?a10 ?l10 ?c10 ?k10 ?a11 ?l11 ?c11 ?k11 ?a12 ?l12 ?c12 ?k12 ?a13 ?l13 ?c13 ?k13 ?a14 ?l14 ?c14 ?k14 ?a15 ?l15 ?c15 ?k15 ?a16 ?l16 ?c16 ?k16 ?a17 ?l17 ?c17 ?k17 ?a18 ?l18 ?c18 ?k18 ?a19 ?l19 ?c19 ?k19 ?z1 ?z2 ?z3 ?z4 ?z5 ?z6 ?z7 ?z8 ?z9 ?z10 ?z11 ?z12 ?z13 ?z14 ?z15 ?z16 ?z17 ?z18 ?z19 ?z20 ?t1 ?u1 ?e6 ?hd6
  case a1|l1|c1|k1|a2|l2|c2|k2|a3|l3|c3|k3|a4|l4|c4|k4|a5|l5|c5|k5|a6|l6|c6|k6|a7|l7|c7|k7|a8|l8|c8|k8|a9|l9|c9|k9|a10|l10|c10|k10|a11|l11|c11|k11|a12|l12|c12|k12|a13|l13|c13|k13|a14|l14|c14|k14|a15|l15|c15|k15|a16|l16|c16|k16|a17|l17|c17|k17|a18|l18|c18|k18|a19|l19|c19|k19|z1|z2|z3|z4|z5|z6|z7|z8|z9|z10|z11|z12|z13|z14|z15|z16|z17|z18|z19|z20|t1|u1=>k_is
  case e6=>rfl
  case hd6=>kernel_rfl
#print axioms PySem.Challenge.cw_caseways_k27_best_rows_of_tests_holds
